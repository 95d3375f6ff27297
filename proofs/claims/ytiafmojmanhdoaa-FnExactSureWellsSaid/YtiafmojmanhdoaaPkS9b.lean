/- Several texts in one, in their order. -/
import Derived.Test.YtiafmojmanhdoaaPkS9a
import Derived.Deep.RegionHeld3
import Derived.Deep.DeepCutAuto
import Derived.Test.YtiafmojmanhdoaaApp
import Derived.Test.YtiafmojmanhdoaaOInt
import Derived.ScopeJumps
import Derived.WalkMore
import Derived.Test.YtiafmojmanhdoaaMake
import Derived.Test.YtiafmojmanhdoaaBase
import Derived.Test.YtiafmojmanhdoaaClueT
import Derived.Test.YtiafmojmanhdoaaRowS
import Derived.Test.YtiafmojmanhdoaaBlk
/- Roads: the longest gap, of the program. -/
namespace Go.Proofs.Ytiafmojmanhdoaa
open Go.ChangeShapes Go.WideShapes Go.ChangeAt Go.RowKit Go.Joins
set_option maxRecDepth 100000
set_option linter.unusedVariables false
set_option linter.unusedSimpArgs false


theorem lgc_impl (n d p q : Int) (h1 : amB n d = true) (h2 : amB p q = true) (w : World) :
    Calls Try.prog 115 #[.agg #[.int .i64 n, .int .i64 d], .agg #[.int .i64 p, .int .i64 q]] w fun e w' => e = .returned (.int .i64 (cmI n d p q)) ∧ Below w.heap.size w w' := by
  have a := am_of _ _ h1
  have b := am_of _ _ h2
  have HC := Lib.hid (fun W => compare_impl n d p q (by have := a.a; have := a.b; omega) (by have := a.c; have := a.d; omega) (by have := b.a; have := b.b; omega) (by have := b.c; have := b.d; omega) W)
  go_enter Try.func115, Try.ntmps115
  go_wp2_with fail
  refine (HC.out _).mono ?_
  rintro e w1 ⟨rfl, hb1⟩
  go_wp2
  go_ret
  refine ⟨rfl, ?_⟩
  (repeat (first | with_reducible exact Below.refl _ _ | with_reducible assumption | with_reducible refine balloc ?_ _ | with_reducible refine bdrew ?_ | with_reducible refine below_drewN ?_ _ | with_reducible refine bset ?_ ?_ _ | with_reducible exact Nat.le_refl _ | with_reducible refine bsize ?_ | (dsimp only; refine Nat.le_trans ?_ (Nat.le_add_right _ _)) | with_reducible refine Nat.le_trans ?_ (Nat.le_add_right _ _) | (with_reducible refine bstep ?_ (by assumption))))
set_option maxHeartbeats 3200000 in
theorem maxFunc_impl (a : Addr) (cap : Nat) (g : Int × Int) (t : List (Int × Int)) (w : World) (hL : LiesG 2 fAmt w a cap (g :: t)) (hall : ∀ x ∈ g :: t, amB x.1 x.2 = true) :
    Calls Try.prog 113 #[.slice (some a) (g :: t).length cap, .func (.func 115) #[] #[]] w fun e w' => e = .returned (.agg #[.int .i64 (lgF t g).1, .int .i64 (lgF t g).2]) ∧ Below w.heap.size w w' := by
  have hlc := hL.hlc
  have hcap := hL.hcap
  have hlen : (g :: t).length = t.length + 1 := by simp
  have h0 := hL.hcell 0 g rfl 0 g.1 rfl
  have h1 := hL.hcell 0 g rfl 1 g.2 rfl
  have hnx := Lib.hid (fun k x (hx : t[k]? = some x) m => (show lgF (t.drop k) m = lgF (t.drop (k + 1)) (mxP m x) by
    have hk := (List.getElem?_eq_some_iff.1 hx).1
    rw [List.drop_eq_getElem_cons hk]
    rw [List.getElem?_eq_getElem hk] at hx
    injection hx with hx
    rw [hx]; rfl))
  obtain ⟨R, hR⟩ : ∃ R, lgF t g = R := ⟨_, rfl⟩
  have hR0 : Hid (lgF (t.drop 0) g = R) := Lib.hid hR
  rw [hR]
  clear hR
  rw [hlen] at hlc ⊢
  have hgt := Lib.hid (fun k x (hx : t[k]? = some x) => (show (g :: t)[k + 1]? = some x by rw [List.getElem?_cons_succ]; exact hx))
  have ha0 : a.add (0 * 2 + 0) = a := by unfold Addr.add; simp
  rw [ha0] at h0
  have h1' : w.cell? ⟨a.block, a.off + 1, none⟩ = some (.int .i64 g.2) := by
    have e : a.add (0 * 2 + 1) = ⟨a.block, a.off + 1, none⟩ := by unfold Addr.add; simp
    rw [e] at h1
    exact h1
  clear h1 ha0
  have g0 := hall g (List.mem_cons_self ..)
  have za : a.block < w.heap.size := cell_lt h0
  have za1 : (⟨a.block, a.off + 1, none⟩ : Addr).block < w.heap.size := za
  have i0 : ¬ ((t.length : Int) + 1 < 1) := by omega
  go_enter Try.func113, Try.ntmps113
  go_wp2
  go_loopw [6] (fun i wr => ∃ (k : Nat) (m : Int × Int), k ≤ t.length ∧ i = .int .i64 ((k : Int) + 1) ∧ Hid (lgF (t.drop k) m = R) ∧ Hid (amB m.1 m.2 = true) ∧ wr.cell? ⟨w.heap.size + 1, 0, none⟩ = some (.int .i64 m.1) ∧ wr.cell? ⟨w.heap.size + 1, 1, none⟩ = some (.int .i64 m.2) ∧
      wr.frozen? ⟨w.heap.size + 1, 0, none⟩ = false ∧ wr.frozen? ⟨w.heap.size + 1, 1, none⟩ = false ∧ wr.cell? ⟨w.heap.size, 0, none⟩ = some (.int .i64 0) ∧ wr.cell? ⟨w.heap.size, 1, none⟩ = some (.int .i64 0) ∧
      wr.frozen? ⟨w.heap.size, 0, none⟩ = false ∧ wr.frozen? ⟨w.heap.size, 1, none⟩ = false ∧ w.heap.size + 1 < wr.heap.size ∧ Below w.heap.size w wr) (fun i _ => t.length + 1 - (intOf i).toNat)
  case atStart =>
    refine ⟨0, g, Nat.zero_le _, by simp, hR0, Lib.hid g0, ?_, ?_, ?_, ?_, ?_, ?_, ?_, ?_, ?_, ?_⟩
    all_goals first | ((repeat (first | with_reducible exact Below.refl _ _ | with_reducible assumption | with_reducible refine balloc ?_ _ | with_reducible refine bdrew ?_ | with_reducible refine below_drewN ?_ _ | with_reducible refine bset ?_ ?_ _ | with_reducible exact Nat.le_refl _ | with_reducible refine bsize ?_ | (dsimp only; refine Nat.le_trans ?_ (Nat.le_add_right _ _)) | with_reducible refine Nat.le_trans ?_ (Nat.le_add_right _ _) | (with_reducible refine bstep ?_ (by assumption)))); done) | (simp [go_sem]; done)
  case round =>
    clear h0 h1'
    obtain ⟨k, m, hk, rfl, hfold, hm, s0, s1, s2, s3, r0, r1, r2, r3, hs, hbel⟩ := hrel
    have hs0 : w.heap.size < wr.heap.size := by omega
    by_cases hlt : k < t.length
    · obtain ⟨x, hx⟩ : ∃ x, t[k]? = some x := ⟨_, List.getElem?_eq_getElem hlt⟩
      have hL2 := liesG_below hL hbel
      have hgx := hgt.out k x hx
      have e0 := hL2.hcell (k + 1) x hgx 0 x.1 rfl
      rw [Nat.add_zero] at e0
      have e1 : wr.cell? ⟨(a.add ((k + 1) * 2)).block, (a.add ((k + 1) * 2)).off + 1, none⟩ = some (.int .i64 x.2) := by
        have h := hL2.hcell (k + 1) x hgx 1 x.2 rfl
        rw [← Deep.add_add] at h
        exact h
      have z0 : (a.add ((k + 1) * 2)).block < wr.heap.size := cell_lt e0
      have hax := hall x (List.mem_of_getElem? hgx)
      have HC := Lib.hid (fun W => lgc_impl x.1 x.2 m.1 m.2 hax hm.out W)
      have hn := hnx.out k x hx m
      rw [hfold.out] at hn
      have hmx : mxP m x = if 0 < cmI x.1 x.2 m.1 m.2 then x else m := rfl
      obtain ⟨C, hC⟩ : ∃ C, cmI x.1 x.2 m.1 m.2 = C := ⟨_, rfl⟩
      rw [hC] at HC hmx
      clear hC hL2 hgx hx hfold
      have i1 : (0 : Int) ≤ (k : Int) + 1 := by omega
      have i2 : (k : Int) + 1 < (t.length : Int) + 1 := by omega
      have i3 : ((k : Int) + 1).toNat = k + 1 := by omega
      have ham2 : Hid (amB (mxP m x).1 (mxP m x).2 = true) := Lib.hid (by rw [hmx]; split <;> first | exact hax | exact hm.out)
      replace hn := Lib.hid hn.symm
      clear hm hax
      generalize hMM : mxP m x = M at *
      have hmx2 := Lib.hid hmx
      clear hmx hMM
      obtain ⟨x, y⟩ := x
      obtain ⟨m1, m2⟩ := m
      simp only at e0 e1 s0 s1 HC
      go_upto_region 7 with fail
      refine wp_region_noPanic ?_
      refine wp_region_held_drew (S := (fun W => Below wr.heap.size wr W ∧ W.cell? (a.add ((k + 1) * 2)) = some (.int .i64 x) ∧ W.cell? ⟨(a.add ((k + 1) * 2)).block, (a.add ((k + 1) * 2)).off + 1, none⟩ = some (.int .i64 y) ∧ W.cell? ⟨w.heap.size + 1, 0, none⟩ = some (.int .i64 m1) ∧ W.cell? ⟨w.heap.size + 1, 1, none⟩ = some (.int .i64 m2))) (by kernel_rfl) ?_ (fun hHeld0 => ?_)
      · (try dsimp only); (go_split_ands; (repeat' with_reducible apply And.intro) <;> first | with_reducible assumption | ((repeat (first | with_reducible exact Below.refl _ _ | with_reducible assumption | with_reducible refine balloc ?_ _ | with_reducible refine bdrew ?_ | with_reducible refine below_drewN ?_ _ | with_reducible refine bset ?_ ?_ _ | with_reducible exact Nat.le_refl _ | with_reducible refine bsize ?_ | (dsimp only; refine Nat.le_trans ?_ (Nat.le_add_right _ _)) | with_reducible refine Nat.le_trans ?_ (Nat.le_add_right _ _) | (with_reducible refine bstep ?_ (by assumption)))); done) | (simp [go_sem]; done) | (simp [go_sem, *]; done) | go_keep)
      (refine wpAnyH_take (i := 0) (oi := { dst := some 20, op := Op.move (Operand.tmp 1), type := 120, pos := "sort.go:115", after := #[], guard := none }) (v := ?_) rfl (by kernel_rfl) (by kernel_rfl) (by kernel_rfl) (fun _ _ _ h => h) (Or.inl ⟨by rfl, ?_⟩) (by assumption) ?_; rotate_left; (focus (intro w hSw; (try dsimp only at hSw); go_simp; try with_reducible rfl)); (try simp only [Act.put, List.setIfInBounds_toArray, List.set_cons_zero, List.set_cons_succ]))
      (refine wpAnyH_take (i := 1) (oi := { dst := some 21, op := Op.move (Operand.tmp 0), type := 102, pos := "sort.go:115", after := #[], guard := none }) (v := ?_) rfl (by kernel_rfl) (by kernel_rfl) (by kernel_rfl) (fun _ _ _ h => h) (Or.inl ⟨by rfl, ?_⟩) (by assumption) ?_; rotate_left; (focus (intro w hSw; (try dsimp only at hSw); go_simp; try with_reducible rfl)); (try simp only [Act.put, List.setIfInBounds_toArray, List.set_cons_zero, List.set_cons_succ]))
      (refine wpAnyH_take (i := 2) (oi := { dst := some 22, op := Op.move (Operand.tmp 6), type := 3, pos := "sort.go:115", after := #[], guard := none }) (v := ?_) rfl (by kernel_rfl) (by kernel_rfl) (by kernel_rfl) (fun _ _ _ h => h) (Or.inl ⟨by rfl, ?_⟩) (by assumption) ?_; rotate_left; (focus (intro w hSw; (try dsimp only at hSw); go_simp; try with_reducible rfl)); (try simp only [Act.put, List.setIfInBounds_toArray, List.set_cons_zero, List.set_cons_succ]))
      (refine wpAnyH_take (i := 3) (oi := { dst := some 23, op := Op.indexAddr 102 (Operand.tmp 21) (Operand.tmp 22), type := 0, pos := "sort.go:115", after := #[{ on := 1, ground := Ground.data }, { on := 2, ground := Ground.data }], guard := none }) (v := ?_) rfl (by kernel_rfl) (by kernel_rfl) (by kernel_rfl) (fun _ _ _ h => h) (Or.inl ⟨by rfl, ?_⟩) (by assumption) ?_; rotate_left; (focus (intro w hSw; (try dsimp only at hSw); go_simp; try with_reducible rfl)); (try simp only [Act.put, List.setIfInBounds_toArray, List.set_cons_zero, List.set_cons_succ]))
      (refine wpAnyH_take (i := 4) (oi := { dst := some 24, op := Op.load 101 (Operand.tmp 23), type := 101, pos := "sort.go:115", after := #[{ on := 3, ground := Ground.data }], guard := none }) (v := ?_) rfl (by kernel_rfl) (by kernel_rfl) (by kernel_rfl) (fun _ _ _ h => h) (Or.inl ⟨by rfl, ?_⟩) (by assumption) ?_; rotate_left; (focus (intro w hSw; (try dsimp only at hSw); go_simp; try with_reducible rfl)); (try simp only [Act.put, List.setIfInBounds_toArray, List.set_cons_zero, List.set_cons_succ]))
      (refine wpAnyH_take (i := 5) (oi := { dst := some 25, op := Op.load 101 (Operand.tmp 5), type := 101, pos := "sort.go:115", after := #[], guard := none }) (v := ?_) rfl (by kernel_rfl) (by kernel_rfl) (by kernel_rfl) (fun _ _ _ h => h) (Or.inl ⟨by rfl, ?_⟩) (by assumption) ?_; rotate_left; (focus (intro w hSw; (try dsimp only at hSw); go_simp; try with_reducible rfl)); (try simp only [Act.put, List.setIfInBounds_toArray, List.set_cons_zero, List.set_cons_succ]))
      (refine wpAnyH_ready (rs := [6]) (by kernel_rfl) (by simp) ?_; refine AllReadyH.cons (o := { dst := some 26, op := Op.call { callee := Callee.value (Operand.tmp 20), args := #[Operand.tmp 24, Operand.tmp 25], argTypes := #[101, 101] }, type := 3, pos := "sort.go:115", after := #[{ on := 0, ground := Ground.data }, { on := 4, ground := Ground.data }, { on := 5, ground := Ground.data }], guard := none }) rfl (fun K hK => ?_) AllReadyH.nil; go_simp; (refine (HC.out _).mono ?_; rintro e w3 ⟨rfl, hb3⟩; (have f3 : Below wr.heap.size wr w3 := bstep (by first | with_reducible assumption | ((repeat (first | with_reducible exact Below.refl _ _ | with_reducible assumption | with_reducible refine balloc ?_ _ | with_reducible refine bdrew ?_ | with_reducible refine below_drewN ?_ _ | with_reducible refine bset ?_ ?_ _ | with_reducible exact Nat.le_refl _ | with_reducible refine bsize ?_ | (dsimp only; refine Nat.le_trans ?_ (Nat.le_add_right _ _)) | with_reducible refine Nat.le_trans ?_ (Nat.le_add_right _ _) | (with_reducible refine bstep ?_ (by assumption)))); done)) hb3); (have k0 := (f3.cell z0).trans e0); (have k1 := (f3.cell (p := ⟨(a.add ((k + 1) * 2)).block, (a.add ((k + 1) * 2)).off + 1, none⟩) z0).trans e1); (have k2 := keepa f3 hs s0); (have k3 := keepa f3 hs s1)); (first | refine hK.out _ _ ?_ (fun hHeld1 => ?_) | (go_wp2_with fail; refine hK.out _ _ ?_ (fun hHeld1 => ?_))); (focus ((try dsimp only); (go_split_ands; (repeat' with_reducible apply And.intro) <;> first | with_reducible assumption | ((repeat (first | with_reducible exact Below.refl _ _ | with_reducible assumption | with_reducible refine balloc ?_ _ | with_reducible refine bdrew ?_ | with_reducible refine below_drewN ?_ _ | with_reducible refine bset ?_ ?_ _ | with_reducible exact Nat.le_refl _ | with_reducible refine bsize ?_ | (dsimp only; refine Nat.le_trans ?_ (Nat.le_add_right _ _)) | with_reducible refine Nat.le_trans ?_ (Nat.le_add_right _ _) | (with_reducible refine bstep ?_ (by assumption)))); done) | (simp [go_sem]; done) | (simp [go_sem, *]; done) | go_keep))); clear hK K; (try clear hHeld0); (try simp only [Act.put, List.setIfInBounds_toArray, List.set_cons_zero, List.set_cons_succ]))
      (refine wpAnyH_take (i := 7) (oi := { dst := some 27, op := Op.binOp BinOp.gtr 3 (Operand.tmp 26) (Operand.const (Value.int IntKind.i64 0)) 3, type := 4, pos := "sort.go:115", after := #[{ on := 6, ground := Ground.data }], guard := none }) (v := ?_) rfl (by kernel_rfl) (by kernel_rfl) (by kernel_rfl) (fun _ _ _ h => h) (Or.inl ⟨by rfl, ?_⟩) (by assumption) ?_; rotate_left; (focus (intro w hSw; (try dsimp only at hSw); go_simp; try with_reducible rfl)); (try simp only [Act.put, List.setIfInBounds_toArray, List.set_cons_zero, List.set_cons_succ]))
      refine wpAnyH_done (by kernel_rfl) ?_ _
      all_goals (try refine NoPanic.normal ?_)
      have t2 := keepf f3 hs s2
      have t3 := keepf f3 hs s3
      have u0 := keepa f3 hs0 r0
      have u1 := keepa f3 hs0 r1
      have u2 := keepf f3 hs0 r2
      have u3 := keepf f3 hs0 r3
      have v0 := Nat.lt_of_lt_of_le hs f3.size
      have v1 := Nat.lt_of_lt_of_le hs0 f3.size
      have z1 := Nat.lt_of_lt_of_le z0 f3.size
      have hbel3 := bstep hbel f3
      clear s0 s1 s2 s3 r0 r1 r2 r3 e0 e1 hbel hb3 HC z0 hs0 hs
      by_cases hc : 0 < C
      · have hM : Hid (M = (x, y)) := Lib.hid (by rw [hmx2.out, if_pos hc])
        clear hmx2
        go_wp2
        go_roundw
        case rel =>
          refine ⟨k + 1, M, by omega, by go_num, hn, ham2, ?_, ?_, ?_, ?_, ?_, ?_, ?_, ?_, ?_, ?_⟩
          all_goals (try rw [hM.out])
          all_goals first | ((repeat (first | with_reducible exact Below.refl _ _ | with_reducible assumption | with_reducible refine balloc ?_ _ | with_reducible refine bdrew ?_ | with_reducible refine below_drewN ?_ _ | with_reducible refine bset ?_ ?_ _ | with_reducible exact Nat.le_refl _ | with_reducible refine bsize ?_ | (dsimp only; refine Nat.le_trans ?_ (Nat.le_add_right _ _)) | with_reducible refine Nat.le_trans ?_ (Nat.le_add_right _ _) | (with_reducible refine bstep ?_ (by assumption)))); done) | (simp [go_sem, k2, k3, t2, t3, u0, u1, u2, u3, v0, v1]; done) | (simp; omega)
        case measure => simp [intOf]; omega
      · have hM : Hid (M = (m1, m2)) := Lib.hid (by rw [hmx2.out, if_neg hc])
        clear hmx2
        go_wp2
        go_roundw
        case rel =>
          refine ⟨k + 1, M, by omega, by go_num, hn, ham2, ?_, ?_, ?_, ?_, ?_, ?_, ?_, ?_, ?_, ?_⟩
          all_goals (try rw [hM.out])
          all_goals first | ((repeat (first | with_reducible exact Below.refl _ _ | with_reducible assumption | with_reducible refine balloc ?_ _ | with_reducible refine bdrew ?_ | with_reducible refine below_drewN ?_ _ | with_reducible refine bset ?_ ?_ _ | with_reducible exact Nat.le_refl _ | with_reducible refine bsize ?_ | (dsimp only; refine Nat.le_trans ?_ (Nat.le_add_right _ _)) | with_reducible refine Nat.le_trans ?_ (Nat.le_add_right _ _) | (with_reducible refine bstep ?_ (by assumption)))); done) | (simp [go_sem, k2, k3, t2, t3, u0, u1, u2, u3, v0, v1]; done) | (simp; omega)
        case measure => simp [intOf]; omega
    · have hkt : k = t.length := by omega
      have hfin : m = R := by
        have h := hfold.out
        rw [hkt, List.drop_length] at h
        exact h
      subst hfin
      subst hkt
      clear hfold hm hR0 hnx
      obtain ⟨m1, m2⟩ := m
      simp only at s0 s1 ⊢
      go_wp2
      refine bodyPost_ret (v := .agg #[.int .i64 m1, .int .i64 m2]) (by simp only [results, Try.results113]; go_simp) rfl ⟨rfl, ?_⟩
      (repeat (first | with_reducible exact Below.refl _ _ | with_reducible assumption | with_reducible refine balloc ?_ _ | with_reducible refine bdrew ?_ | with_reducible refine below_drewN ?_ _ | with_reducible refine bset ?_ ?_ _ | with_reducible exact Nat.le_refl _ | with_reducible refine bsize ?_ | (dsimp only; refine Nat.le_trans ?_ (Nat.le_add_right _ _)) | with_reducible refine Nat.le_trans ?_ (Nat.le_add_right _ _) | (with_reducible refine bstep ?_ (by assumption))))

end Go.Proofs.Ytiafmojmanhdoaa

/- Roads: LongestGap of the program; the places of the model. -/
namespace Go.Proofs.Ytiafmojmanhdoaa
open Go.ChangeShapes Go.WideShapes Go.ChangeAt Go.RowKit Go.Joins
set_option maxRecDepth 100000
set_option linter.unusedVariables false
set_option linter.unusedSimpArgs false


theorem lgO_no {n d : Int} {l : List (Int × Int)} (h : rdB n d l = false) : lgO n d l = (0, 0) := by simp [lgO, h]
theorem lgO_yes {n d : Int} {l : List (Int × Int)} (h : rdB n d l = true) : lgO n d l = lgF (gapL n d l) (0, 1) := by simp [lgO, h]
theorem gapL_cons {n d : Int} {l : List (Int × Int)} : ∃ g t, gapL n d l = g :: t := by
  have h : (gapL n d l).length = l.length + 1 := by rw [gapL, gpL_len]; simp [endL]
  cases hg : gapL n d l with
  | nil => rw [hg] at h; simp at h
  | cons g t => exact ⟨g, t, rfl⟩
set_option maxHeartbeats 3200000 in
theorem longest_impl (n d : Int) (bn : -9223372036854775808 ≤ n ∧ n ≤ 9223372036854775807) (bd : -9223372036854775808 ≤ d ∧ d ≤ 9223372036854775807) (v : Value) (l : List (Int × Int)) (w : World) (h : RowG 2 fAmt w v l) :
    Calls Try.prog 104 #[.agg #[.int .i64 n, .int .i64 d, v]] w fun e w' => e = .returned (.tuple #[.agg #[.int .i64 (lgO n d l).1, .int .i64 (lgO n d l).2], .bool (rdB n d l)]) ∧ Below w.heap.size w w' := by
  have HR := Lib.hid (fun W (hB : Below w.heap.size w W) => isRoad_impl n d bn bd v l W (rowG_below h hB))
  cases hr : rdB n d l
  · rw [lgO_no hr]
    rw [hr] at HR
    clear h hr
    go_enter Try.func104, Try.ntmps104
    go_wp2_with fail
    refine (HR.out _ (by (repeat (first | with_reducible exact Below.refl _ _ | with_reducible assumption | with_reducible refine balloc ?_ _ | with_reducible refine bdrew ?_ | with_reducible refine below_drewN ?_ _ | with_reducible refine bset ?_ ?_ _ | with_reducible exact Nat.le_refl _ | with_reducible refine bsize ?_ | (dsimp only; refine Nat.le_trans ?_ (Nat.le_add_right _ _)) | with_reducible refine Nat.le_trans ?_ (Nat.le_add_right _ _) | (with_reducible refine bstep ?_ (by assumption)))))).mono ?_
    rintro e w1 ⟨rfl, hb1⟩
    have q0 : w1.cell? ⟨w.heap.size + 1, 0, none⟩ = some (.int .i64 0) := (hb1.cell (p := ⟨w.heap.size + 1, 0, none⟩) (by simp)).trans (by simp [go_sem])
    have q1 : w1.cell? ⟨w.heap.size + 1, 1, none⟩ = some (.int .i64 0) := (hb1.cell (p := ⟨w.heap.size + 1, 1, none⟩) (by simp)).trans (by simp [go_sem])
    have q2 : w1.frozen? ⟨w.heap.size + 1, 0, none⟩ = false := (hb1.frozen (p := ⟨w.heap.size + 1, 0, none⟩) (by simp)).trans (by simp [go_sem])
    have q3 : w1.frozen? ⟨w.heap.size + 1, 1, none⟩ = false := (hb1.frozen (p := ⟨w.heap.size + 1, 1, none⟩) (by simp)).trans (by simp [go_sem])
    go_wp2
    refine bodyPost_ret (v := .tuple #[.agg #[.int .i64 0, .int .i64 0], .bool false]) (by simp only [results, Try.results104]; go_simp) rfl ⟨rfl, ?_⟩
    (repeat (first | with_reducible exact Below.refl _ _ | with_reducible assumption | with_reducible refine balloc ?_ _ | with_reducible refine bdrew ?_ | with_reducible refine below_drewN ?_ _ | with_reducible refine bset ?_ ?_ _ | with_reducible exact Nat.le_refl _ | with_reducible refine bsize ?_ | (dsimp only; refine Nat.le_trans ?_ (Nat.le_add_right _ _)) | with_reducible refine Nat.le_trans ?_ (Nat.le_add_right _ _) | (with_reducible refine bstep ?_ (by assumption))))
  · have HG := Lib.hid (fun W (hB : Below w.heap.size w W) => gaps_impl n d bn bd v l W (rowG_below h hB) hr)
    have hall := gapL_am hr
    rw [hr] at HR
    rw [lgO_yes hr]
    obtain ⟨g, t, hg⟩ := gapL_cons (n := n) (d := d) (l := l)
    rw [hg] at HG hall ⊢
    have e0 : lgF (g :: t) (0, 1) = lgF t g := by
      show lgF t (mxP (0, 1) g) = _
      rw [mx_first (hall g (List.mem_cons_self ..))]
    rw [e0]
    clear e0 h hr hg
    have hbd : ∀ p ∈ g :: t, ∀ y ∈ fAmt p, -9223372036854775808 ≤ y ∧ y ≤ 9223372036854775807 := by
      intro p hp y hy
      have ha := am_of _ _ (hall p hp)
      have q1 := ha.a
      have q2 := ha.b
      have q3 := ha.c
      have q4 := ha.d
      simp [fAmt] at hy
      omega
    have HM := Lib.hid (fun a cap W hL => maxFunc_impl a cap g t W hL hall)
    have HB := Lib.hid hbd
    clear hbd hall
    obtain ⟨R, hR⟩ : ∃ R, lgF t g = R := ⟨_, rfl⟩
    rw [hR] at HM ⊢
    clear hR
    obtain ⟨G, hG⟩ : ∃ G, g :: t = G := ⟨_, rfl⟩
    have hG0 : 0 < G.length := by rw [← hG]; simp
    rw [hG] at HG HM HB
    clear hG
    obtain ⟨x, y⟩ := R
    simp only at HM ⊢
    go_enter Try.func104, Try.ntmps104
    go_wp2_with fail
    refine (HR.out _ (by (repeat (first | with_reducible exact Below.refl _ _ | with_reducible assumption | with_reducible refine balloc ?_ _ | with_reducible refine bdrew ?_ | with_reducible refine below_drewN ?_ _ | with_reducible refine bset ?_ ?_ _ | with_reducible exact Nat.le_refl _ | with_reducible refine bsize ?_ | (dsimp only; refine Nat.le_trans ?_ (Nat.le_add_right _ _)) | with_reducible refine Nat.le_trans ?_ (Nat.le_add_right _ _) | (with_reducible refine bstep ?_ (by assumption)))))).mono ?_
    rintro e w1 ⟨rfl, hb1⟩
    have A1 : RdAt w.heap.size n d v w1 := ((RdAt.new w n d v 104).alloc _).later hb1
    have ha1 : Below w.heap.size w w1 := by (repeat (first | with_reducible exact Below.refl _ _ | with_reducible assumption | with_reducible refine balloc ?_ _ | with_reducible refine bdrew ?_ | with_reducible refine below_drewN ?_ _ | with_reducible refine bset ?_ ?_ _ | with_reducible exact Nat.le_refl _ | with_reducible refine bsize ?_ | (dsimp only; refine Nat.le_trans ?_ (Nat.le_add_right _ _)) | with_reducible refine Nat.le_trans ?_ (Nat.le_add_right _ _) | (with_reducible refine bstep ?_ (by assumption))))
    have q0 : w1.cell? ⟨w.heap.size + 1, 0, none⟩ = some (.int .i64 0) := (hb1.cell (p := ⟨w.heap.size + 1, 0, none⟩) (by simp)).trans (by simp [go_sem])
    have q1 : w1.cell? ⟨w.heap.size + 1, 1, none⟩ = some (.int .i64 0) := (hb1.cell (p := ⟨w.heap.size + 1, 1, none⟩) (by simp)).trans (by simp [go_sem])
    have q2 : w1.frozen? ⟨w.heap.size + 1, 0, none⟩ = false := (hb1.frozen (p := ⟨w.heap.size + 1, 0, none⟩) (by simp)).trans (by simp [go_sem])
    have q3 : w1.frozen? ⟨w.heap.size + 1, 1, none⟩ = false := (hb1.frozen (p := ⟨w.heap.size + 1, 1, none⟩) (by simp)).trans (by simp [go_sem])
    have qz : w.heap.size + 1 < w1.heap.size := Nat.lt_of_lt_of_le (by simp) hb1.size
    obtain ⟨x0, x1, x2, xz⟩ := A1
    clear hb1 HR
    go_wp2_with fail
    refine (HG.out _ ha1).mono ?_
    rintro e w2 ⟨v2, rfl, hown2, hb2⟩
    replace q0 := keepa hb2 qz q0
    replace q1 := keepa hb2 qz q1
    replace q2 := keepf hb2 qz q2
    replace q3 := keepf hb2 qz q3
    replace qz := Nat.lt_of_lt_of_le qz hb2.size
    have ha2 := bstep ha1 hb2
    obtain ⟨gq, cq, rfl, _, _⟩ := own_form hown2 hG0
    have hL2 := liesG_own fAmt_len hown2 HB.out
    clear hown2 hb2 ha1 x0 x1 x2 xz HG
    go_wp2_with fail
    refine (HM.out _ _ _ hL2).mono ?_
    rintro e w3 ⟨rfl, hb3⟩
    replace q0 := keepa hb3 qz q0
    replace q1 := keepa hb3 qz q1
    replace q2 := keepf hb3 qz q2
    replace q3 := keepf hb3 qz q3
    replace qz := Nat.lt_of_lt_of_le qz hb3.size
    have ha3 := bstep ha2 hb3
    clear hL2 hb3 ha2 HM
    go_wp2
    refine bodyPost_ret (v := .tuple #[.agg #[.int .i64 x, .int .i64 y], .bool true]) (by simp only [results, Try.results104]; go_simp) rfl ⟨rfl, ?_⟩
    (repeat (first | with_reducible exact Below.refl _ _ | with_reducible assumption | with_reducible refine balloc ?_ _ | with_reducible refine bdrew ?_ | with_reducible refine below_drewN ?_ _ | with_reducible refine bset ?_ ?_ _ | with_reducible exact Nat.le_refl _ | with_reducible refine bsize ?_ | (dsimp only; refine Nat.le_trans ?_ (Nat.le_add_right _ _)) | with_reducible refine Nat.le_trans ?_ (Nat.le_add_right _ _) | (with_reducible refine bstep ?_ (by assumption))))
end Go.Proofs.Ytiafmojmanhdoaa

/- Roads: LongestGap of the model; the law. -/
namespace Go.Proofs.Ytiafmojmanhdoaa
open Go.ChangeShapes Go.WideShapes Go.ChangeAt Go.RowKit Go.Joins
set_option maxRecDepth 100000
set_option linter.unusedVariables false
set_option linter.unusedSimpArgs false


end Go.Proofs.Ytiafmojmanhdoaa

/- Roads: CanGo on both sides; the law. -/
namespace Go.Proofs.Ytiafmojmanhdoaa
open Go.ChangeShapes Go.WideShapes Go.ChangeAt Go.RowKit Go.Joins
set_option maxRecDepth 100000
set_option linter.unusedVariables false
set_option linter.unusedSimpArgs false


def cgB (n d : Int) (l : List (Int × Int)) : Bool := rdB n d l && decide ((lgO n d l).1 ≤ (lgO n d l).2)
theorem plL_am {n d : Int} {l : List (Int × Int)} (h : rdB n d l = true) : ∀ p ∈ plL n d l, amB p.1 p.2 = true := by
  obtain ⟨hw, h16, hlr⟩ := rdB_1 h
  intro p hp
  simp only [plL, endL, List.mem_cons, List.mem_append, List.mem_singleton, List.not_mem_nil, or_false] at hp
  rcases hp with rfl | hp | rfl
  · exact am01
  · exact rp_am (hlr p hp)
  · exact rp_am hw
theorem am_bd {P : List (Int × Int)} (h : ∀ p ∈ P, amB p.1 p.2 = true) : ∀ p ∈ P, ∀ y ∈ fAmt p, -9223372036854775808 ≤ y ∧ y ≤ 9223372036854775807 := by
  intro p hp y hy
  have ha := am_of _ _ (h p hp)
  have q1 := ha.a
  have q2 := ha.b
  have q3 := ha.c
  have q4 := ha.d
  simp [fAmt] at hy
  omega
theorem fits_impl (x y : Int) (w : World) :
    Calls Try.prog 117 #[.agg #[.int .i64 x, .int .i64 y]] w fun e w' => e = .returned (.bool (decide (x ≤ y))) ∧ Below w.heap.size w w' := by
  go_enter Try.func117, Try.ntmps117
  go_wp2
  go_ret
  refine ⟨rfl, ?_⟩
  (repeat (first | with_reducible exact Below.refl _ _ | with_reducible assumption | with_reducible refine balloc ?_ _ | with_reducible refine bdrew ?_ | with_reducible refine below_drewN ?_ _ | with_reducible refine bset ?_ ?_ _ | with_reducible exact Nat.le_refl _ | with_reducible refine bsize ?_ | (dsimp only; refine Nat.le_trans ?_ (Nat.le_add_right _ _)) | with_reducible refine Nat.le_trans ?_ (Nat.le_add_right _ _) | (with_reducible refine bstep ?_ (by assumption))))
set_option maxHeartbeats 1600000 in
theorem canGo_impl (n d : Int) (bn : -9223372036854775808 ≤ n ∧ n ≤ 9223372036854775807) (bd : -9223372036854775808 ≤ d ∧ d ≤ 9223372036854775807) (v : Value) (l : List (Int × Int)) (w : World) (h : RowG 2 fAmt w v l) :
    Calls Try.prog 109 #[.agg #[.int .i64 n, .int .i64 d, v]] w fun e w' => e = .returned (.tuple #[.bool (cgB n d l), .bool (rdB n d l)]) ∧ Below w.heap.size w w' := by
  have HR := Lib.hid (fun W (hB : Below w.heap.size w W) => longest_impl n d bn bd v l W (rowG_below h hB))
  unfold cgB
  clear h
  generalize lgO n d l = g at *
  obtain ⟨x, y⟩ := g
  simp only at HR ⊢
  cases hr : rdB n d l
  · rw [hr] at HR
    simp only [Bool.false_and]
    clear hr
    go_enter Try.func109, Try.ntmps109
    go_wp2_with fail
    refine (HR.out _ (by (repeat (first | with_reducible exact Below.refl _ _ | with_reducible assumption | with_reducible refine balloc ?_ _ | with_reducible refine bdrew ?_ | with_reducible refine below_drewN ?_ _ | with_reducible refine bset ?_ ?_ _ | with_reducible exact Nat.le_refl _ | with_reducible refine bsize ?_ | (dsimp only; refine Nat.le_trans ?_ (Nat.le_add_right _ _)) | with_reducible refine Nat.le_trans ?_ (Nat.le_add_right _ _) | (with_reducible refine bstep ?_ (by assumption)))))).mono ?_
    rintro e w1 ⟨rfl, hb1⟩
    go_wp2
    refine bodyPost_ret (v := .tuple #[.bool false, .bool false]) (by simp only [results, Try.results109]; go_simp) rfl ⟨rfl, ?_⟩
    (repeat (first | with_reducible exact Below.refl _ _ | with_reducible assumption | with_reducible refine balloc ?_ _ | with_reducible refine bdrew ?_ | with_reducible refine below_drewN ?_ _ | with_reducible refine bset ?_ ?_ _ | with_reducible exact Nat.le_refl _ | with_reducible refine bsize ?_ | (dsimp only; refine Nat.le_trans ?_ (Nat.le_add_right _ _)) | with_reducible refine Nat.le_trans ?_ (Nat.le_add_right _ _) | (with_reducible refine bstep ?_ (by assumption))))
  · rw [hr] at HR
    simp only [Bool.true_and]
    clear hr
    have HF := Lib.hid (fun W => fits_impl x y W)
    go_enter Try.func109, Try.ntmps109
    go_wp2_with fail
    refine (HR.out _ (by (repeat (first | with_reducible exact Below.refl _ _ | with_reducible assumption | with_reducible refine balloc ?_ _ | with_reducible refine bdrew ?_ | with_reducible refine below_drewN ?_ _ | with_reducible refine bset ?_ ?_ _ | with_reducible exact Nat.le_refl _ | with_reducible refine bsize ?_ | (dsimp only; refine Nat.le_trans ?_ (Nat.le_add_right _ _)) | with_reducible refine Nat.le_trans ?_ (Nat.le_add_right _ _) | (with_reducible refine bstep ?_ (by assumption)))))).mono ?_
    rintro e w1 ⟨rfl, hb1⟩
    have ha1 : Below w.heap.size w w1 := by (repeat (first | with_reducible exact Below.refl _ _ | with_reducible assumption | with_reducible refine balloc ?_ _ | with_reducible refine bdrew ?_ | with_reducible refine below_drewN ?_ _ | with_reducible refine bset ?_ ?_ _ | with_reducible exact Nat.le_refl _ | with_reducible refine bsize ?_ | (dsimp only; refine Nat.le_trans ?_ (Nat.le_add_right _ _)) | with_reducible refine Nat.le_trans ?_ (Nat.le_add_right _ _) | (with_reducible refine bstep ?_ (by assumption))))
    go_wp2_with fail
    refine (HF.out _).mono ?_
    rintro e w2 ⟨rfl, hb2⟩
    go_wp2
    refine bodyPost_ret (v := .tuple #[.bool (decide (x ≤ y)), .bool true]) (by simp only [results, Try.results109]; go_simp) rfl ⟨rfl, ?_⟩
    (repeat (first | with_reducible exact Below.refl _ _ | with_reducible assumption | with_reducible refine balloc ?_ _ | with_reducible refine bdrew ?_ | with_reducible refine below_drewN ?_ _ | with_reducible refine bset ?_ ?_ _ | with_reducible exact Nat.le_refl _ | with_reducible refine bsize ?_ | (dsimp only; refine Nat.le_trans ?_ (Nat.le_add_right _ _)) | with_reducible refine Nat.le_trans ?_ (Nat.le_add_right _ _) | (with_reducible refine bstep ?_ (by assumption))))
end Go.Proofs.Ytiafmojmanhdoaa

/- The farthest well in reach, of the program. -/
namespace Go.Proofs.Ytiafmojmanhdoaa
open Go.Shelf Go.ChangeShapes Go.WideShapes Go.ChangeAt Go.RowKit Go.Joins
set_option maxRecDepth 100000
set_option linter.unusedVariables false
set_option linter.unusedSimpArgs false

attribute [local go_sem] Oper.semAt_some

set_option maxHeartbeats 1600000 in
theorem near_impl (p q : Int × Int) (hp : amB p.1 p.2 = true) (hq : amB q.1 q.2 = true) (w : World) :
    Calls Try.prog 120 #[.agg #[.int .i64 p.1, .int .i64 p.2], .agg #[.int .i64 q.1, .int .i64 q.2]] w fun e w' => e = .returned (.bool (nrB p q)) ∧ Below w.heap.size w w' := by
  have ap := am_of _ _ hp
  have aq := am_of _ _ hq
  have bp1 := ap.a; have bp2 := ap.b; have bp3 := ap.c; have bp4 := ap.d
  have bq1 := aq.a; have bq2 := aq.b; have bq3 := aq.c; have bq4 := aq.d
  have HL := Lib.hid (fun W => minus_pub_impl q.1 q.2 p.1 p.2 (by omega) (by omega) (by omega) (by omega) W)
  have hok : okk q.1 q.2 p.1 p.2 = true := by simp [okk, hp, hq]
  rw [hok, (two_yes _ _).1, (two_yes _ _).2.1, (two_yes _ _).2.2] at HL
  cases hl : lowB (q.1 * p.2 - p.1 * q.2) (q.2 * p.2)
  · have e : nrB p q = false := by simp [nrB, hl]
    rw [hl] at HL
    rw [e]
    clear e hl hp hq hok ap aq bp1 bp2 bp3 bp4 bq1 bq2 bq3 bq4
    generalize lowN (q.1 * p.2 - p.1 * q.2) (q.2 * p.2) = gx at *
    generalize lowD (q.1 * p.2 - p.1 * q.2) (q.2 * p.2) = gy at *
    go_enter Try.func120, Try.ntmps120
    go_wp2_with fail
    refine (HL.out _).mono ?_
    rintro e w1 ⟨rfl, hb1⟩
    go_wp2
    go_ret
    refine ⟨rfl, ?_⟩
    (repeat (first | with_reducible exact Below.refl _ _ | with_reducible assumption | with_reducible refine balloc ?_ _ | with_reducible refine bdrew ?_ | with_reducible refine below_drewN ?_ _ | with_reducible refine bset ?_ ?_ _ | with_reducible exact Nat.le_refl _ | with_reducible refine bsize ?_ | (dsimp only; refine Nat.le_trans ?_ (Nat.le_add_right _ _)) | with_reducible refine Nat.le_trans ?_ (Nat.le_add_right _ _) | (with_reducible refine bstep ?_ (by assumption))))
  · have e : nrB p q = decide (lowN (q.1 * p.2 - p.1 * q.2) (q.2 * p.2) ≤ lowD (q.1 * p.2 - p.1 * q.2) (q.2 * p.2)) := by unfold nrB; rw [hl, Bool.true_and]; rfl
    rw [hl] at HL
    rw [e]
    clear e hl hp hq hok ap aq bp1 bp2 bp3 bp4 bq1 bq2 bq3 bq4
    generalize lowN (q.1 * p.2 - p.1 * q.2) (q.2 * p.2) = gx at *
    generalize lowD (q.1 * p.2 - p.1 * q.2) (q.2 * p.2) = gy at *
    have HF := Lib.hid (fun W => fits_impl gx gy W)
    go_enter Try.func120, Try.ntmps120
    go_wp2_with fail
    refine (HL.out _).mono ?_
    rintro e w1 ⟨rfl, hb1⟩
    have ha1 : Below w.heap.size w w1 := by (repeat (first | with_reducible exact Below.refl _ _ | with_reducible assumption | with_reducible refine balloc ?_ _ | with_reducible refine bdrew ?_ | with_reducible refine below_drewN ?_ _ | with_reducible refine bset ?_ ?_ _ | with_reducible exact Nat.le_refl _ | with_reducible refine bsize ?_ | (dsimp only; refine Nat.le_trans ?_ (Nat.le_add_right _ _)) | with_reducible refine Nat.le_trans ?_ (Nat.le_add_right _ _) | (with_reducible refine bstep ?_ (by assumption))))
    go_wp2_with fail
    refine (HF.out _).mono ?_
    rintro e w2 ⟨rfl, hb2⟩
    go_wp2
    go_ret
    refine ⟨rfl, ?_⟩
    (repeat (first | with_reducible exact Below.refl _ _ | with_reducible assumption | with_reducible refine balloc ?_ _ | with_reducible refine bdrew ?_ | with_reducible refine below_drewN ?_ _ | with_reducible refine bset ?_ ?_ _ | with_reducible exact Nat.le_refl _ | with_reducible refine bsize ?_ | (dsimp only; refine Nat.le_trans ?_ (Nat.le_add_right _ _)) | with_reducible refine Nat.le_trans ?_ (Nat.le_add_right _ _) | (with_reducible refine bstep ?_ (by assumption))))
/-- The last index below k that has a property. -/
def lastIx (q : Nat → Bool) : Nat → Option Nat
  | 0 => none
  | k + 1 => if q k = true then some k else lastIx q k
theorem lastIx_none {q : Nat → Bool} : ∀ {k : Nat}, (∀ i < k, q i = false) → lastIx q k = none
  | 0, _ => rfl
  | k + 1, h => by
    have h1 := h k (by omega)
    simp only [lastIx, h1]
    exact lastIx_none (fun i hi => h i (by omega))
theorem lastIx_some {q : Nat → Bool} {i : Nat} (h1 : q i = true) : ∀ {k : Nat}, i < k → (∀ j, i < j → j < k → q j = false) → lastIx q k = some i
  | 0, h, _ => by omega
  | k + 1, hi, h => by
    by_cases e : i = k
    · subst e; simp [lastIx, h1]
    · have h2 := h k (by omega) (by omega)
      simp only [lastIx, h2]
      exact lastIx_some h1 (by omega) (fun j h3 h4 => h j h3 (by omega))
/-- The farthest well in reach of a place. -/
def fwW (l : List (Int × Int)) (h : Int × Int) : Option Nat := lastIx (fun i => nrB h (l.getD i (0, 0))) l.length
def fwI (l : List (Int × Int)) (h : Int × Int) : Int := match fwW l h with | some i => (i : Int) | none => 0
def fwB (l : List (Int × Int)) (h : Int × Int) : Bool := match fwW l h with | some i => decide (l.getD i (0, 0) ≠ h) | none => false
theorem am_neq (p q : Int × Int) : ((p.1 == q.1 && p.2 == q.2) = !decide (p ≠ q)) := by
  obtain ⟨a, b⟩ := p
  obtain ⟨c, d⟩ := q
  by_cases h1 : a = c <;> by_cases h2 : b = d <;> simp [h1, h2]
set_option maxHeartbeats 6400000 in
theorem farW_impl (n d : Int) (v : Value) (l : List (Int × Int)) (h0 : Int × Int) (hh : amB h0.1 h0.2 = true) (hP : ∀ p ∈ l, amB p.1 p.2 = true) (hln : l.length ≤ 1000000) (w : World) (hrow : RowG 2 fAmt w v l) :
    Calls Try.prog 121 #[.agg #[.int .i64 n, .int .i64 d, v], .agg #[.int .i64 h0.1, .int .i64 h0.2]] w fun e w' => e = .returned (.tuple #[.int .i64 (fwI l h0), .bool (fwB l h0)]) ∧ Below w.heap.size w w' := by
  obtain ⟨h1, h2⟩ := h0
  have HN := Lib.hid (fun p hp W => near_impl (h1, h2) p hh hp W)
  simp only at hh HN ⊢
  have hI := Lib.hid hrow
  obtain ⟨av, cv, hv, hl1, hl2⟩ := row_shape hrow
  clear hrow
  have hsv : Hid (v = .slice av l.length cv) := Lib.hid hv
  clear hl1 hl2 hv
  refine (callsIn_wide (n := 3)).1 ?_
  refine callsIn_of_wp_marks Try.func121 rfl trivial ?_ rfl
  simp only [Try.ntmps121, List.size_toArray, List.length_cons, List.length_nil, Nat.reduceAdd, Nat.reduceSub, Array.replicate_succ, Array.replicate_zero, List.push_toArray, List.append_toArray, List.nil_append, List.cons_append]
  gi_wp2_with (refine ⟨trivial, ?_⟩; gi_at_call 131; refine (bwd_in Fence.wide 2 trivial rfl _ _ ⟨_, _, _, hsv.out⟩).mono ?_; rintro e w' ⟨rfl, rfl⟩)
  have b1 := (((Blk.new (w.alloc (.cells #[.int .i64 n, .int .i64 d, v] 104)) #[.int .i64 h1, .int .i64 h2] 101).alloc (.cells #[.int .i64 0] 3)).alloc (.cells #[.bool false] 4)).alloc (.cells #[v] 102)
  have b2 := ((Blk.new ((w.alloc (.cells #[.int .i64 n, .int .i64 d, v] 104)).alloc (.cells #[.int .i64 h1, .int .i64 h2] 101)) #[.int .i64 0] 3).alloc (.cells #[.bool false] 4)).alloc (.cells #[v] 102)
  have b3 := (Blk.new (((w.alloc (.cells #[.int .i64 n, .int .i64 d, v] 104)).alloc (.cells #[.int .i64 h1, .int .i64 h2] 101)).alloc (.cells #[.int .i64 0] 3)) #[.bool false] 4).alloc (.cells #[v] 102)
  have b4 := Blk.new ((((w.alloc (.cells #[.int .i64 n, .int .i64 d, v] 104)).alloc (.cells #[.int .i64 h1, .int .i64 h2] 101)).alloc (.cells #[.int .i64 0] 3)).alloc (.cells #[.bool false] 4)) #[v] 102
  simp only [World.size_alloc] at b1 b2 b3 b4
  have hB0 : Below w.heap.size w (((((w.alloc (.cells #[.int .i64 n, .int .i64 d, v] 104)).alloc (.cells #[.int .i64 h1, .int .i64 h2] 101)).alloc (.cells #[.int .i64 0] 3)).alloc (.cells #[.bool false] 4)).alloc (.cells #[v] 102)) := by (repeat (first | with_reducible exact Below.refl _ _ | with_reducible assumption | with_reducible refine balloc ?_ _ | with_reducible refine bdrew ?_ | with_reducible refine below_drewN ?_ _ | with_reducible refine bset ?_ ?_ _ | with_reducible exact Nat.le_refl _ | with_reducible refine bsize ?_ | (dsimp only; refine Nat.le_trans ?_ (Nat.le_add_right _ _)) | with_reducible refine Nat.le_trans ?_ (Nat.le_add_right _ _) | (with_reducible refine bstep ?_ (by assumption))))
  have hsz : (((((w.alloc (.cells #[.int .i64 n, .int .i64 d, v] 104)).alloc (.cells #[.int .i64 h1, .int .i64 h2] 101)).alloc (.cells #[.int .i64 0] 3)).alloc (.cells #[.bool false] 4)).alloc (.cells #[v] 102)).heap.size = w.heap.size + 5 := by simp
  obtain ⟨W0, hW0⟩ : ∃ W0, (((((w.alloc (.cells #[.int .i64 n, .int .i64 d, v] 104)).alloc (.cells #[.int .i64 h1, .int .i64 h2] 101)).alloc (.cells #[.int .i64 0] 3)).alloc (.cells #[.bool false] 4)).alloc (.cells #[v] 102)) = W0 := ⟨_, rfl⟩
  rw [hW0] at b1 b2 b3 b4 hB0 hsz ⊢
  clear hW0
  have hc4 := b4.cell 0
  simp only [List.getElem?_toArray, List.getElem?_cons_zero] at hc4
  refine wpIn_rangeFunc_ownH rfl (by omega) (gf := 138) (lb := #[.pointer (some ⟨w.heap.size + 1 + 1 + 1 + 1, 0, none⟩)]) rfl trivial (enters_of Try.func138 (by kernel_rfl) rfl)
    (bwd_stops Fence.wide 2 trivial rfl (by omega) (w.heap.size + 1 + 1 + 1 + 1) W0.heap.size v l w hI.out hln hP W0 hB0 (by omega) (Nat.le_refl _) (by omega) hc4) belowK_t (belowK_b (Nat.le_refl _)) (Below.refl _ _) (fun _ => rfl)
    (fun pre W => ((((∀ x ∈ pre, nrB (h1, h2) (sxA x) = false) ∧ Blk (w.heap.size + 1) #[.int .i64 h1, .int .i64 h2] 101 W) ∧ Blk (w.heap.size + 1 + 1) #[.int .i64 0] 3 W) ∧ Blk (w.heap.size + 1 + 1 + 1) #[.bool false] 4 W) ∧ Below W0.heap.size W0 W)
    (fun c pre W => (((c = .ret ∧ ∃ ini last, pre = ini ++ [last] ∧ (∀ x ∈ ini, nrB (h1, h2) (sxA x) = false) ∧ nrB (h1, h2) (sxA last) = true ∧ W.cell? ⟨w.heap.size + 1 + 1, 0, none⟩ = some (.int .i64 (sxI last : Int)) ∧ W.cell? ⟨w.heap.size + 1 + 1 + 1, 0, none⟩ = some (.bool (decide (sxA last ≠ (h1, h2))))))) ∧ Below w.heap.size w W)
    (OwnFrom.and (OwnFrom.and (OwnFrom.and (OwnFrom.and (ownFrom_pure _ _) (Own.from (blk_own _ _ _) _)) (Own.from (blk_own _ _ _) _)) (Own.from (blk_own _ _ _) _)) (ownFrom_below (Nat.le_refl _) (Nat.le_refl _)))
    (fun c => OwnFrom.and (Own.from (fun s A B row hs hg hr => by obtain ⟨e0, ini, last, e1, e2, e3, e4, e5⟩ := hs; exact ⟨e0, ini, last, e1, e2, e3, cell_kept e4 hg hr, cell_kept e5 hg hr⟩) _) (ownFrom_below (Nat.le_refl _) (by omega)))
    ⟨⟨⟨⟨by simp, b1⟩, b2⟩, b3⟩, Below.refl _ _⟩
    (fun x a' W => ∃ Bx, w.heap.size + 1 + 1 + 1 + 1 < Bx ∧ Blk Bx #[.int .i64 (sxA x).1, .int .i64 (sxA x).2] 101 W ∧ a' = { tmps := #[.agg #[.int .i64 n, .int .i64 d, v], .agg #[.int .i64 h1, .int .i64 h2], .pointer (some ⟨w.heap.size, 0, none⟩), .pointer (some ⟨w.heap.size + 1, 0, none⟩), .pointer (some ⟨w.heap.size + 1 + 1, 0, none⟩), .pointer (some ⟨w.heap.size + 1 + 1 + 1, 0, none⟩), .int .i64 (sxI x : Int), .pointer (some ⟨Bx, 0, none⟩), .pointer (some ⟨w.heap.size, 2, none⟩), v, .func (.func 138) #[] #[.pointer (some ⟨w.heap.size + 1 + 1 + 1 + 1, 0, none⟩)], .int .i64 (sxI x : Int), .agg #[.int .i64 (sxA x).1, .int .i64 (sxA x).2], undef, undef, undef, undef, undef, undef, undef], defers := [] })
    (fun x a' _ X Y row hs hg hr => by obtain ⟨Bx, e1, e2, e3⟩ := hs; exact ⟨Bx, e1, blk_own Bx 101 (fun (_ : Unit) => #[.int .i64 (sxA x).1, .int .i64 (sxA x).2]) () X Y row e2 hg (fun r e => (hr r e).2), e3⟩)
    ?assign ?body ?done ?stop
  case assign =>
    rintro lp pre x W K ⟨⟨⟨⟨hp, c1⟩, c2⟩, c3⟩, hB⟩ hK
    unfold encB
    gi_wp2
    exact hK _ _ ((KeepsOthers.alloc _ _).from _) ((Below.refl _ W).alloc hB.size _) ⟨⟨⟨⟨hp, c1.alloc _⟩, c2.alloc _⟩, c3.alloc _⟩, hB.alloc hB.size _⟩ ⟨W.heap.size, by have := hB.size; omega, Blk.new W _ _, rfl⟩
  case body =>
    rintro lp pre x a' W hl ⟨r, hr⟩ ⟨⟨⟨⟨hp, c1⟩, c2⟩, c3⟩, hB⟩ ⟨Bx, hBx, bX, rfl⟩ hlt
    have hW := hB.size
    have k0 := c1.cell 0
    have k1 := c1.cell 1
    have x0 := bX.cell 0
    have x1 := bX.cell 1
    simp only [List.getElem?_toArray, List.getElem?_cons_zero, List.getElem?_cons_succ] at k0 k1 x0 x1
    have HX := HN.out (sxA x) (sxA_am x)
    have HQ : ∀ W1 : World, Below W.heap.size W W1 → KeepsFrom W0.heap.size W W1 := fun W1 hb => ⟨hb.size, fun k o _ hk _ => (hb.block k (Array.getElem?_eq_some_iff.1 hk).1).trans hk⟩
    cases hq : nrB (h1, h2) (sxA x)
    · rw [hq] at HX
      have hpre : ∀ y ∈ pre ++ [x], nrB (h1, h2) (sxA y) = false := fun y hy => (List.mem_append.1 hy).elim (hp y) (fun e => by simp at e; subst e; exact hq)
      have HPRE := Lib.hid hpre
      clear hpre hp hq
      gi_wp2_with (refine ⟨trivial, ?_⟩; gi_at_call 120; refine (CallsIn.inRound lp (callsIn_wide.2 (HX _))).mono ?_; rintro e w1 ⟨rfl, hb1⟩)
      exact ⟨HQ _ hb1, hb1.mono hW, ⟨⟨⟨HPRE.out, c1.later hb1⟩, c2.later hb1⟩, c3.later hb1⟩, bstep hB hb1⟩
    · rw [hq] at HX
      have HIX := Lib.hid (And.intro hp hq)
      clear hp hq
      generalize hs : sxA x = s at *
      have HSX := Lib.hid hs
      clear hs
      generalize hix : sxI x = ix at *
      have HIXX := Lib.hid hix
      clear hix
      obtain ⟨s1, s2⟩ := s
      simp only at bX x0 x1 HX
      have hD : ∃ z : Bool, Hid (decide ((s1, s2) ≠ (h1, h2)) = z) ∧ ((z = false ∧ s1 = h1 ∧ s2 = h2) ∨ (z = true ∧ s1 = h1 ∧ ¬ s2 = h2) ∨ (z = true ∧ ¬ s1 = h1)) := by
        by_cases q1 : s1 = h1
        · by_cases q2 : s2 = h2
          · exact ⟨false, Lib.hid (by simp [q1, q2]), Or.inl ⟨rfl, q1, q2⟩⟩
          · exact ⟨true, Lib.hid (by simp [q1, q2]), Or.inr (Or.inl ⟨rfl, q1, q2⟩)⟩
        · exact ⟨true, Lib.hid (by simp [q1]), Or.inr (Or.inr ⟨rfl, q1⟩)⟩
      obtain ⟨z, hz, hD⟩ := hD
      rcases hD with ⟨rfl, rfl, rfl⟩ | ⟨rfl, rfl, q2⟩ | ⟨rfl, q1⟩
      · gi_wp2_with (refine ⟨trivial, ?_⟩; gi_at_call 120; refine (CallsIn.inRound lp (callsIn_wide.2 (HX _))).mono ?_; rintro e w1 ⟨rfl, hb1⟩; (have d1 := c1.later hb1); (have d2 := c2.later hb1); (have d3 := c3.later hb1); (have dX := bX.later hb1); (have y0 := d1.cell 0); (have y1 := d1.cell 1); (have z0 := dX.cell 0); (have z1 := dX.cell 1); (have u0 := d2.cell 0); (have u1 := d3.cell 0); (have f0 := d2.frozen 0); (have f1 := d3.frozen 0); (simp only [List.getElem?_toArray, List.getElem?_cons_zero, List.getElem?_cons_succ] at y0 y1 z0 z1 u0 u1); (have HKF := Lib.hid (HQ w1 hb1)); (have HBW := Lib.hid (bstep hB0 (bstep hB hb1))))
        clear HX HQ hB hb1 c1 c2 c3 bX d1 d2 d3 dX k0 k1 x0 x1
        gi_region
        all_goals gi_wp2
        all_goals
          have t1 : (w1.setCell ⟨w.heap.size + 1 + 1, 0, none⟩ (.int .i64 (ix : Int))).cell? ⟨w.heap.size + 1 + 1 + 1, 0, none⟩ = some (.bool false) := by rw [World.cell?_setCell_far _ _ _ _ (by simp)]; exact u1
          have t0 : (w1.setCell ⟨w.heap.size + 1 + 1, 0, none⟩ (.int .i64 (ix : Int))).cell? ⟨w.heap.size + 1 + 1, 0, none⟩ = some (.int .i64 (ix : Int)) := World.cell?_setCell_same' _ _ _ (by rw [u0]; rfl)
          exact ⟨HKF.out.trans (((KeepsOthers.setCell w1 _ _).trans (KeepsOthers.setCell _ _ _)).trans (KeepsOthers.drew _) |>.from _), ⟨rfl, pre, x, rfl, HIX.out.1, by rw [HSX.out]; exact HIX.out.2, by rw [HIXX.out]; exact (World.cell?_setCell_far _ _ _ _ (by simp)).trans t0, by rw [HSX.out, hz.out]; exact World.cell?_setCell_same' _ _ _ (by rw [t1]; rfl)⟩, bdrew (bset (bset HBW.out (by simp; omega) _) (by simp; omega) _)⟩
      · gi_wp2_with (refine ⟨trivial, ?_⟩; gi_at_call 120; refine (CallsIn.inRound lp (callsIn_wide.2 (HX _))).mono ?_; rintro e w1 ⟨rfl, hb1⟩; (have d1 := c1.later hb1); (have d2 := c2.later hb1); (have d3 := c3.later hb1); (have dX := bX.later hb1); (have y0 := d1.cell 0); (have y1 := d1.cell 1); (have z0 := dX.cell 0); (have z1 := dX.cell 1); (have u0 := d2.cell 0); (have u1 := d3.cell 0); (have f0 := d2.frozen 0); (have f1 := d3.frozen 0); (simp only [List.getElem?_toArray, List.getElem?_cons_zero, List.getElem?_cons_succ] at y0 y1 z0 z1 u0 u1); (have HKF := Lib.hid (HQ w1 hb1)); (have HBW := Lib.hid (bstep hB0 (bstep hB hb1))))
        clear HX HQ hB hb1 c1 c2 c3 bX d1 d2 d3 dX k0 k1 x0 x1
        gi_region
        all_goals gi_wp2
        all_goals
          have t1 : (w1.setCell ⟨w.heap.size + 1 + 1, 0, none⟩ (.int .i64 (ix : Int))).cell? ⟨w.heap.size + 1 + 1 + 1, 0, none⟩ = some (.bool false) := by rw [World.cell?_setCell_far _ _ _ _ (by simp)]; exact u1
          have t0 : (w1.setCell ⟨w.heap.size + 1 + 1, 0, none⟩ (.int .i64 (ix : Int))).cell? ⟨w.heap.size + 1 + 1, 0, none⟩ = some (.int .i64 (ix : Int)) := World.cell?_setCell_same' _ _ _ (by rw [u0]; rfl)
          exact ⟨HKF.out.trans (((KeepsOthers.setCell w1 _ _).trans (KeepsOthers.setCell _ _ _)).trans (KeepsOthers.drew _) |>.from _), ⟨rfl, pre, x, rfl, HIX.out.1, by rw [HSX.out]; exact HIX.out.2, by rw [HIXX.out]; exact (World.cell?_setCell_far _ _ _ _ (by simp)).trans t0, by rw [HSX.out, hz.out]; exact World.cell?_setCell_same' _ _ _ (by rw [t1]; rfl)⟩, bdrew (bset (bset HBW.out (by simp; omega) _) (by simp; omega) _)⟩
      · gi_wp2_with (refine ⟨trivial, ?_⟩; gi_at_call 120; refine (CallsIn.inRound lp (callsIn_wide.2 (HX _))).mono ?_; rintro e w1 ⟨rfl, hb1⟩; (have d1 := c1.later hb1); (have d2 := c2.later hb1); (have d3 := c3.later hb1); (have dX := bX.later hb1); (have y0 := d1.cell 0); (have y1 := d1.cell 1); (have z0 := dX.cell 0); (have z1 := dX.cell 1); (have u0 := d2.cell 0); (have u1 := d3.cell 0); (have f0 := d2.frozen 0); (have f1 := d3.frozen 0); (simp only [List.getElem?_toArray, List.getElem?_cons_zero, List.getElem?_cons_succ] at y0 y1 z0 z1 u0 u1); (have HKF := Lib.hid (HQ w1 hb1)); (have HBW := Lib.hid (bstep hB0 (bstep hB hb1))))
        clear HX HQ hB hb1 c1 c2 c3 bX d1 d2 d3 dX k0 k1 x0 x1
        gi_region
        all_goals gi_wp2
        all_goals
          have t1 : (w1.setCell ⟨w.heap.size + 1 + 1, 0, none⟩ (.int .i64 (ix : Int))).cell? ⟨w.heap.size + 1 + 1 + 1, 0, none⟩ = some (.bool false) := by rw [World.cell?_setCell_far _ _ _ _ (by simp)]; exact u1
          have t0 : (w1.setCell ⟨w.heap.size + 1 + 1, 0, none⟩ (.int .i64 (ix : Int))).cell? ⟨w.heap.size + 1 + 1, 0, none⟩ = some (.int .i64 (ix : Int)) := World.cell?_setCell_same' _ _ _ (by rw [u0]; rfl)
          exact ⟨HKF.out.trans (((KeepsOthers.setCell w1 _ _).trans (KeepsOthers.setCell _ _ _)).trans (KeepsOthers.drew _) |>.from _), ⟨rfl, pre, x, rfl, HIX.out.1, by rw [HSX.out]; exact HIX.out.2, by rw [HIXX.out]; exact (World.cell?_setCell_far _ _ _ _ (by simp)).trans t0, by rw [HSX.out, hz.out]; exact World.cell?_setCell_same' _ _ _ (by rw [t1]; rfl)⟩, bdrew (bset (bset HBW.out (by simp; omega) _) (by simp; omega) _)⟩
  case done =>
    rintro D ys W hD rfl ⟨⟨⟨⟨hp, c1⟩, c2⟩, c3⟩, hB⟩ hK
    have u0 := c2.cell 0
    have u1 := c3.cell 0
    have f0 := c2.frozen 0
    have f1 := c3.frozen 0
    simp only [List.getElem?_toArray, List.getElem?_cons_zero] at u0 u1
    have HPP := Lib.hid hp
    clear hp
    gi_wp2
    have hK' := ((KeepsOthers.setCell W ⟨w.heap.size + 1 + 1, 0, none⟩ (.int .i64 0)).trans (KeepsOthers.setCell _ ⟨w.heap.size + 1 + 1 + 1, 0, none⟩ (.bool false))).same D _ hK rfl
    refine ⟨by simp, .inl ⟨_, _, rfl, run_takeDeferred hK', ?_⟩⟩
    have t1 : (W.setCell ⟨w.heap.size + 1 + 1, 0, none⟩ (.int .i64 0)).cell? ⟨w.heap.size + 1 + 1 + 1, 0, none⟩ = some (.bool false) := by rw [World.cell?_setCell_far _ _ _ _ (by simp)]; exact u1
    have t0 : (W.setCell ⟨w.heap.size + 1 + 1, 0, none⟩ (.int .i64 0)).cell? ⟨w.heap.size + 1 + 1, 0, none⟩ = some (.int .i64 0) := World.cell?_setCell_same' _ _ _ (by rw [u0]; rfl)
    have hc5 := cell_kept ((World.cell?_setCell_far _ ⟨w.heap.size + 1 + 1 + 1, 0, none⟩ _ (.bool false) (by simp)).trans t0) (grownBy_putObj' _ D (.deferred none)) (fun r e => by cases e; exact ⟨_, hK', rfl⟩)
    have hc6 := cell_kept (World.cell?_setCell_same' (W.setCell ⟨w.heap.size + 1 + 1, 0, none⟩ (.int .i64 0)) ⟨w.heap.size + 1 + 1 + 1, 0, none⟩ (.bool false) (by rw [t1]; rfl)) (grownBy_putObj' _ D (.deferred none)) (fun r e => by cases e; exact ⟨_, hK', rfl⟩)
    have hno : fwW l (h1, h2) = none := lastIx_none (fun i hi => by
      have h := HPP.out (i, l.getD i (0, 0)) ((bwU_mem (Nat.le_refl _)).2 ⟨by omega, hi, rfl⟩)
      rw [sxA_is (hP _ (by rw [List.getD_eq_getElem?_getD, List.getElem?_eq_getElem hi]; exact List.getElem_mem hi))] at h
      exact h)
    refine ⟨.tuple #[.int .i64 0, .bool false], ?_, by simp [fwI, fwB, hno], ?_⟩
    · simp [results, Try.f121, go_sem, hc5, hc6]
    · exact (bset (bset (bstep hB0 hB) (by simp; omega) _) (by simp; omega) _).trans (belowK_b (w := w) (Nat.le_refl _) _ D _ _ (by omega) hK' rfl rfl)
  case stop =>
    rintro D c pre W hD ⟨k, hk, rfl⟩ ⟨⟨rfl, ini, last, e1, e2, e3, e4, e5⟩, hB⟩ hK
    gi_wp2
    refine ⟨by simp, .inl ⟨_, _, rfl, run_takeDeferred hK, ?_⟩⟩
    have hc5 := cell_kept e4 (grownBy_putObj' _ D (.deferred none)) (fun r e => by cases e; exact ⟨_, hK, rfl⟩)
    have hc6 := cell_kept e5 (grownBy_putObj' _ D (.deferred none)) (fun r e => by cases e; exact ⟨_, hK, rfl⟩)
    obtain ⟨k', rfl⟩ : ∃ k', k = k' + 1 := by
      cases k with
      | zero => simp [bwU] at e1
      | succ k' => exact ⟨k', rfl⟩
    rw [bwU_succ] at e1
    obtain ⟨rfl, e6⟩ := List.append_inj' e1 rfl
    have e7 : (l.length - 1 - k', l.getD (l.length - 1 - k') (0, 0)) = last := by simpa using e6
    have hii : l.length - 1 - k' < l.length := by omega
    have hga : ∀ i, i < l.length → amB (l.getD i (0, 0)).1 (l.getD i (0, 0)).2 = true := fun i hi => hP _ (by rw [List.getD_eq_getElem?_getD, List.getElem?_eq_getElem hi]; exact List.getElem_mem hi)
    have hsA : sxA last = l.getD (l.length - 1 - k') (0, 0) := by rw [← e7]; exact sxA_is (hga _ hii)
    have hsI : sxI last = l.length - 1 - k' := by rw [← e7]; exact sxI_is (by omega)
    have hw : fwW l (h1, h2) = some (l.length - 1 - k') := lastIx_some (by rw [← hsA]; exact e3) hii (fun j hj hj2 => by
      have h := e2 (j, l.getD j (0, 0)) ((bwU_mem (by omega)).2 ⟨by omega, hj2, rfl⟩)
      rw [sxA_is (hga _ hj2)] at h
      exact h)
    refine ⟨.tuple #[.int .i64 (sxI last : Int), .bool (decide (sxA last ≠ (h1, h2)))], ?_, by simp [fwI, fwB, hw, hsA, hsI], ?_⟩
    · simp [results, Try.f121, go_sem, hc5, hc6]
    · exact hB.trans (belowK_b (w := w) (Nat.le_refl _) W D _ _ (by omega) hK rfl rfl)
end Go.Proofs.Ytiafmojmanhdoaa

/- A block of two cells that may be written: what a result of two cells lies in. -/
namespace Go.Proofs.Ytiafmojmanhdoaa
open Go.RowKit
set_option linter.unusedVariables false
set_option linter.unusedSimpArgs false

def Res9 (b : Nat) (w : World) : Prop := ∃ x y, w.cell? ⟨b, 0, none⟩ = some x ∧ w.cell? ⟨b, 1, none⟩ = some y ∧ w.frozen? ⟨b, 0, none⟩ = false ∧ w.frozen? ⟨b, 1, none⟩ = false ∧ b < w.heap.size
theorem Res9.later {b : Nat} {w w' : World} (h : Res9 b w) (hb : Below w.heap.size w w') : Res9 b w' := by
  obtain ⟨x, y, a1, a2, a3, a4, a5⟩ := h
  exact ⟨x, y, keepa hb a5 a1, keepa hb a5 a2, keepf hb a5 a3, keepf hb a5 a4, Nat.lt_of_lt_of_le a5 hb.size⟩
theorem Res9.drew {b : Nat} {w : World} (h : Res9 b w) : Res9 b w.drew := h.later (bdrew (Below.refl _ _))
theorem Res9.alloc {b : Nat} {w : World} (h : Res9 b w) (o : Obj) : Res9 b (w.alloc o) := h.later (balloc (Below.refl _ _) o)
theorem Res9.set {b : Nat} {w : World} (h : Res9 b w) (o : Nat) (v : Value) (ho : o < 2) : Res9 b (w.setCell ⟨b, o, none⟩ v) := by
  obtain ⟨x, y, a1, a2, a3, a4, a5⟩ := h
  have hc : o = 0 ∨ o = 1 := by omega
  rcases hc with rfl | rfl
  · exact ⟨v, y, by simp [go_sem, a1, a2, a5], by simp [go_sem, a1, a2, a5], by simp [go_sem, a3], by simp [go_sem, a4], by simpa using a5⟩
  · exact ⟨x, v, by simp [go_sem, a1, a2, a5], by simp [go_sem, a1, a2, a5], by simp [go_sem, a3], by simp [go_sem, a4], by simpa using a5⟩
theorem Res9.grown {b : Nat} {w w' : World} (h : Res9 b w) {row : Option Nat} (hg : w.grownBy w' row) (hne : some b ≠ row) : Res9 b w' := by
  obtain ⟨x, y, a1, a2, a3, a4, a5⟩ := h
  exact ⟨x, y, hg.cell a1 hne, hg.cell a2 hne, grown_frozen hg a3 a5 hne, grown_frozen hg a4 a5 hne, Nat.lt_of_lt_of_le a5 hg.size⟩
theorem Res9.new (w : World) (x y : Value) (t : TypeId) : Res9 w.heap.size (w.alloc (.cells #[x, y] t)) :=
  ⟨x, y, by simp, by simp, by simp, by simp, by simp⟩
end Go.Proofs.Ytiafmojmanhdoaa

/- Going on from stop to stop, of the program. -/
namespace Go.Proofs.Ytiafmojmanhdoaa
open Go.ChangeShapes Go.WideShapes Go.ChangeAt Go.RowKit Go.Joins
set_option maxRecDepth 100000
set_option linter.unusedVariables false
set_option linter.unusedSimpArgs false


/-- The way to a label and the way around it, once. -/
theorem wp_scope_once {P : Program} {a : Act} {w : World} {Q : Exit → Act → World → Prop} {c rest : Code} (l : Nat) (J : Act → World → Prop) (μ : Act → World → Nat) (hf : findLabel c l = some (Code.skip.seq rest))
    (pass : ∀ a w, J a w → rest.wp P (Exit.jump l (fun a' w' => J a' w' ∧ μ a' w' < μ a w) Q) a w)
    (first : (∀ a w, J a w → rest.wp P (Exit.jump l J Q) a w) → c.wp P (Exit.jump l J Q) a w) : (Code.scope c).wp P Q a w :=
  wp_scope_jumps l J μ hf (first fun a w h => Code.wp_mono (fun e a' w' hh => by
    cases e <;> first | exact hh | exact ⟨hh.1, hh.2.1⟩) (pass a w h)) (fun a w h => wp_seq (wp_skip (pass a w h)))
def lenG (v : Value) : Nat := match v with | .slice _ n _ => n | _ => 0
/-- A place in a block that is written. -/
structure HereAt (g : Nat) (p : Int × Int) (W : World) : Prop where
  c0 : W.cell? ⟨g, 0, none⟩ = some (.int .i64 p.1)
  c1 : W.cell? ⟨g, 1, none⟩ = some (.int .i64 p.2)
  z0 : W.frozen? ⟨g, 0, none⟩ = false
  z1 : W.frozen? ⟨g, 1, none⟩ = false
  hs : g < W.heap.size
theorem HereAt.later {g : Nat} {p : Int × Int} {W W' : World} (h : HereAt g p W) (hb : Below W.heap.size W W') : HereAt g p W' :=
  ⟨keepa hb h.hs h.c0, keepa hb h.hs h.c1, keepf hb h.hs h.z0, keepf hb h.hs h.z1, Nat.lt_of_lt_of_le h.hs hb.size⟩
theorem HereAt.grown {g : Nat} {p : Int × Int} {W W' : World} (h : HereAt g p W) {row : Option Nat} (hg : W.grownBy W' row) (hne : some g ≠ row) : HereAt g p W' :=
  ⟨hg.cell h.c0 hne, hg.cell h.c1 hne, grown_frozen hg h.z0 h.hs hne, grown_frozen hg h.z1 h.hs hne, Nat.lt_of_lt_of_le h.hs hg.size⟩
theorem HereAt.new (W : World) (p : Int × Int) (t : TypeId) : HereAt W.heap.size p (W.alloc (.cells #[.int .i64 p.1, .int .i64 p.2] t)) :=
  ⟨by simp, by simp, by simp, by simp, by simp⟩
theorem HereAt.put {g : Nat} {p : Int × Int} {W : World} (h : HereAt g p W) (q : Int × Int) : HereAt g q ((W.setCell ⟨g, 0, none⟩ (.int .i64 q.1)).setCell ⟨g, 1, none⟩ (.int .i64 q.2)) := by
  have c0 := h.c0; have c1 := h.c1; have z0 := h.z0; have z1 := h.z1; have hs := h.hs
  exact ⟨by simp [go_sem, c0, c1, hs], by simp [go_sem, c0, c1, hs], by simp [go_sem, z0], by simp [go_sem, z1], by simpa using hs⟩
theorem Res9.far {b : Nat} {w : World} (h : Res9 b w) {a : Addr} (v : Value) (hne : a.block ≠ b) : Res9 b (w.setCell a v) := by
  obtain ⟨x, y, a1, a2, a3, a4, a5⟩ := h
  exact ⟨x, y, by rw [World.cell?_setCell_far _ _ _ _ hne]; exact a1, by rw [World.cell?_setCell_far _ _ _ _ hne]; exact a2, by rw [World.frozen?_setCell]; exact a3, by rw [World.frozen?_setCell]; exact a4, by simpa using a5⟩
theorem RdAt.far {g : Nat} {n d : Int} {v : Value} {W : World} (h : RdAt g n d v W) {a : Addr} (x : Value) (hne : a.block ≠ g) : RdAt g n d v (W.setCell a x) :=
  ⟨by rw [World.cell?_setCell_far _ _ _ _ hne]; exact h.1, by rw [World.cell?_setCell_far _ _ _ _ hne]; exact h.2.1, by rw [World.cell?_setCell_far _ _ _ _ hne]; exact h.2.2.1, by simpa using h.2.2.2⟩
theorem RdAt.grown9 {g : Nat} {n d : Int} {v : Value} {W W' : World} (h : RdAt g n d v W) {row : Option Nat} (hg : W.grownBy W' row) (hne : some g ≠ row) : RdAt g n d v W' :=
  ⟨hg.cell h.1 hne, hg.cell h.2.1 hne, hg.cell h.2.2.1 hne, Nat.lt_of_lt_of_le h.2.2.2 hg.size⟩
/-- Stops that are made one behind the other: the j-th one is told at the place hs j, with j made. -/
structure Goes (l : List (Int × Int)) (ws : List Int) (hs : Nat → Int × Int) (ni : Nat → Int) (nb : Nat → Bool) : Prop where
  h0 : hs 0 = (0, 1)
  go : ∀ j x, ws[j]? = some x → nb j = true ∧ ni j = x ∧ ∃ i : Nat, x = (i : Int) ∧ l[i]? = some (hs (j + 1))
  stop : nb ws.length = false
  len : ws.length ≤ 1000
  ll : l.length ≤ 1000000
/-- The state at the label. -/
structure GoSt (w W : World) (n d : Int) (v : Value) (gh : Nat) (p : Int × Int) (s : Value) (j : Nat) (xs : List Value) : Prop where
  r : RdAt w.heap.size n d v W
  o : Res9 (w.heap.size + 1) W
  h : HereAt gh p W
  hg : w.heap.size + 1 < gh
  own : W.ownsRow (gh + 1) 3 1 s j xs
  bel : Below w.heap.size w W
theorem GoSt.later {w W W' : World} {n d : Int} {v : Value} {gh : Nat} {p : Int × Int} {s : Value} {j : Nat} {xs : List Value} (g : GoSt w W n d v gh p s j xs) (hb : Below W.heap.size W W') : GoSt w W' n d v gh p s j xs :=
  ⟨g.r.later hb, g.o.later hb, g.h.later hb, g.hg, ownsRow_below g.own hb, bstep g.bel hb⟩
theorem GoSt.next {w W W' : World} {n d : Int} {v : Value} {gh : Nat} {p q : Int × Int} {s s' : Value} {j j' : Nat} {xs xs' : List Value} (g : GoSt w W n d v gh p s j xs) (hw : W.ownsRow (gh + 1) 3 1 s' j' xs → True) (hgr : W.grownBy W' s.ownBlock) (hown : W'.ownsRow (gh + 1) 3 1 s' j' xs') :
    GoSt w ((W'.setCell ⟨gh, 0, none⟩ (.int .i64 q.1)).setCell ⟨gh, 1, none⟩ (.int .i64 q.2)) n d v gh q s' j' xs' := by
  have hg := g.hg
  have hne : ∀ b, b ≤ gh → some b ≠ s.ownBlock := fun b hb e => by have := (g.own.lt b e.symm).1; omega
  have hne2 : s'.ownBlock ≠ some gh := own_ne hown (by omega)
  refine ⟨((g.r.grown9 hgr (hne _ (by omega))).far _ (by simp; omega)).far _ (by simp; omega), ((g.o.grown hgr (hne _ (by omega))).far _ (by simp; omega)).far _ (by simp; omega), (g.h.grown hgr (hne _ (Nat.le_refl _))).put q, hg, own_set (own_set hown hne2 _) hne2 _, bset (bset (g.bel.grown hgr g.bel.size (fun k e => by have := (g.own.lt k e).1; omega)) (by simp; omega) _) (by simp; omega) _⟩
set_option maxHeartbeats 6400000 in
theorem goOn_far (n d : Int) (v : Value) (l : List (Int × Int)) (ws : List Int) (hs : Nat → Int × Int) (ni : Nat → Int) (nb : Nat → Bool) (hg : Goes l ws hs ni nb) (g1 g2 : Nat) (w : World) (h : RowG 2 fAmt w v l)
    (HN0 : ∀ (j : Nat) (W : World), j ≤ ws.length → Below w.heap.size w W → Calls Try.prog 119 #[.agg #[.int .i64 (hs j).1, .int .i64 (hs j).2], .int .i64 (j : Int), .pointer (some ⟨g1, 0, none⟩), .pointer (some ⟨g2, 0, none⟩)] W fun e w' => e = .returned (.tuple #[.int .i64 (ni j), .bool (nb j)]) ∧ Below W.heap.size W w') :
    Calls Try.prog 118 #[.agg #[.int .i64 n, .int .i64 d, v], .func (.func 119) #[] #[.pointer (some ⟨g1, 0, none⟩), .pointer (some ⟨g2, 0, none⟩)]] w fun e w' => ∃ s, e = .returned (.tuple #[s, .agg #[.int .i64 (hs ws.length).1, .int .i64 (hs ws.length).2]]) ∧ w'.ownsRow w.heap.size 3 1 s ws.length (cellsG fInt ws) ∧ Below w.heap.size w w' := by
  have HN := Lib.hid HN0
  have HG := Lib.hid hg
  have HR := Lib.hid h
  have hlen := hg.len
  have h00 := hg.h0
  obtain ⟨av, cv, hv, hl1, hl2⟩ := row_shape h
  have HV := Lib.hid hv
  clear HN0 hg h hv
  obtain ⟨i0, hi, hz0, hz1, hz2⟩ := info_parts infoInt
  go_enter Try.func118, Try.ntmps118
  go_upto_region 1 with fail
  refine wp_scope_once 0 (fun a' w' => ∃ (j gh : Nat) (s u8 u9 u11 u12 u13 u14 u15 u16 u17 u18 u19 u20 u21 u22 u23 u24 u25 u26 u27 u28 u29 u30 u31 : Value), a' = { tmps := #[.agg #[.int .i64 n, .int .i64 d, v], .func (.func 119) #[] #[.pointer (some ⟨g1, 0, none⟩), .pointer (some ⟨g2, 0, none⟩)], .pointer (some ⟨w.heap.size, 0, none⟩), undef, .slice none 0 0, .pointer (some ⟨w.heap.size + 1, 0, none⟩), s, .pointer (some ⟨gh, 0, none⟩), u8, u9, .agg #[.int .i64 0, .int .i64 1], u11, u12, u13, u14, u15, u16, u17, u18, u19, u20, u21, u22, u23, u24, u25, u26, u27, u28, u29, u30, u31], defers := [] } ∧ j ≤ ws.length ∧ GoSt w w' n d v gh (hs j) s j (cellsG fInt (ws.take j))) (fun a' _ => ws.length - lenG (a'.tmps.getD 6 undef)) rfl ?pass ?first
  case first =>
    intro hfirst
    go_wp2_with (go_at_call 127; refine (whole_bi 0 _).mono ?_; rintro e w1 ⟨rfl, hb1⟩)
    go_step3
    rename_i hK
    refine hK _ _ (hfirst _ _ ⟨0, w1.heap.size, _, _, _, _, _, _, _, _, _, _, _, _, _, _, _, _, _, _, _, _, _, _, _, _, rfl, Nat.zero_le _, ?_⟩)
    have hz := hb1.size
    rw [h00]
    refine ⟨?_, ?_, HereAt.new w1 (0, 1) 101, ?_, ⟨rfl, .inl ⟨rfl, rfl⟩⟩, ?_⟩
    · exact (((RdAt.new w n d v 104).alloc _).later hb1).alloc _
    · have h := Res9.new (w.alloc (.cells #[.int .i64 n, .int .i64 d, v] 104)) (.int .i64 0) (.int .i64 0) 101
      rw [World.size_alloc] at h
      exact (h.later hb1).alloc _
    · simp at hz; omega
    · (repeat (first | with_reducible exact Below.refl _ _ | with_reducible assumption | with_reducible refine balloc ?_ _ | with_reducible refine bdrew ?_ | with_reducible refine below_drewN ?_ _ | with_reducible refine bset ?_ ?_ _ | with_reducible exact Nat.le_refl _ | with_reducible refine bsize ?_ | (dsimp only; refine Nat.le_trans ?_ (Nat.le_add_right _ _)) | with_reducible refine Nat.le_trans ?_ (Nat.le_add_right _ _) | (with_reducible refine bstep ?_ (by assumption))))
  case pass =>
    rintro a' wr ⟨j, gh, s, u8, u9, u11, u12, u13, u14, u15, u16, u17, u18, u19, u20, u21, u22, u23, u24, u25, u26, u27, u28, u29, u30, u31, rfl, hj, gs⟩
    obtain ⟨hc0, hc1, hz0', hz1', hhs⟩ := id gs.h
    by_cases hlt : j < ws.length
    · obtain ⟨x, hx⟩ : ∃ x, ws[j]? = some x := ⟨_, List.getElem?_eq_getElem hlt⟩
      obtain ⟨hnb, hni, i, hxi, hli⟩ := HG.out.go j x hx
      have HC := Lib.hid (HN.out j)
      rw [hnb, hni] at HC
      have hil : i < l.length := (List.getElem?_eq_some_iff.1 hli).1
      have hllM := HG.out.ll
      have HX := Lib.hid (And.intro hx hli)
      obtain ⟨sa9, sc9, hs0⟩ := owns_shape gs.own
      subst hs0
      subst hxi
      clear hnb hni hx hli
      have GS := Lib.hid gs
      clear gs
      go_wp2_with fail
      refine (HC.out _ hj GS.out.bel).mono ?_
      rintro e w2 ⟨rfl, hb2⟩
      have GS2 := Lib.hid (GS.out.later hb2)
      clear hc0 hc1 hz0' hz1' hhs
      have own2 := GS2.out.own
      have hz2w := GS2.out.h.hs
      have hgg := GS2.out.hg
      go_wp2_with (at_builtin; refine wpList_append_own _ rfl _ _ 24 rfl (gh + 1) 3 i0 (.int .i64 0) 1 8 Try.underlying24 hi hz0 hz1 hz2 rfl (by decide) _ _ _ rfl (own2.alloc _) ⟨w2.heap.size, 0, none⟩ 1 1 [.int .i64 (i : Int)] rfl rfl ?c1 ?c2 ?c3 ?c4 ?c5 ?_)
      case c1 => (intro q u hq; rcases q with _ | q <;> simp at hq; subst hq; simp [go_sem])
      case c2 => simp [Value.oneCell']
      case c3 => unfold maxLen; omega
      case c4 => omega
      case c5 => first | (simp; done) | (simp; omega)
      intro s3 w3 hown3 hgr3 _
      obtain ⟨sb9, sd9, rfl⟩ := owns_shape hown3
      have hgr3' : w2.grownBy w3 (Value.slice sa9 j sc9).ownBlock := grown_trans (World.grownBy_alloc w2 (.cells #[.int .i64 (i : Int)] 3) _) hgr3
      have hown4 : w3.ownsRow (gh + 1) 3 1 (.slice sb9 (j + 1) sd9) (j + 1) (cellsG fInt (ws.take (j + 1))) := by
        have e : ws.take (j + 1) = ws.take j ++ [(i : Int)] := by
          have h := HX.out.1
          obtain ⟨h1, h2⟩ := List.getElem?_eq_some_iff.1 h
          rw [List.take_add_one, h]
          rfl
        rw [e, cellsG_append]
        exact hown3
      have GN := GS2.out.next (q := hs (j + 1)) (fun _ => trivial) hgr3' hown4
      have bel3 : Below w.heap.size w w3 := GS2.out.bel.grown hgr3' GS2.out.bel.size (fun k e => by have := (GS2.out.own.lt k e).1; omega)
      have hne : ∀ b, b ≤ gh → some b ≠ (Value.slice sa9 j sc9).ownBlock := fun b hb e => by have := (GS2.out.own.lt b e.symm).1; omega
      have r3 := GS2.out.r.grown9 hgr3' (hne _ (by omega))
      have h3 := GS2.out.h.grown hgr3' (hne _ (Nat.le_refl _))
      rcases rowG_below HR.out bel3 with ⟨hv, hl⟩ | ⟨a9, cap9, hv, hL⟩
      · rw [hl] at hil; simp at hil
      · obtain ⟨p, hp⟩ : ∃ p, p = hs (j + 1) := ⟨_, rfl⟩
        have hp' : l[i]? = some p := by rw [hp]; exact HX.out.2
        rw [← hp] at GN
        have HP := Lib.hid hp
        clear hp
        have hp := hp'
        have hc := hL.hcell i p hp
        have e0 := hc 0 p.1 rfl
        rw [Nat.add_zero] at e0
        have e1 : w3.cell? ⟨(a9.add (i * 2)).block, (a9.add (i * 2)).off + 1, none⟩ = some (.int .i64 p.2) := by
          have h := hc 1 p.2 rfl
          rw [← Deep.add_add] at h
          exact h
        clear hc
        have hlc9 := hL.hlc
        have hcap9 := hL.hcap
        obtain ⟨q0, q1, q2, qz⟩ := id r3
        rw [hv] at q2
        obtain ⟨t0, t1, tz0, tz1, ths⟩ := id h3
        have GNH := Lib.hid GN
        have e8 : Hid (w3.ownsRow (gh + 1) 3 1 (.slice sb9 (j + 1) sd9) (j + 1) (cellsG fInt (ws.take (j + 1)))) := Lib.hid hown4
        clear GN hL hp hp' hown3 hown4 hgr3 hgr3' own2 hne r3 h3 bel3
        go_wp2
        go_step3
        refine ⟨rfl, ⟨j + 1, gh, .slice sb9 (j + 1) sd9, _, _, _, _, _, _, _, _, _, _, _, _, _, _, _, _, _, _, _, _, _, _, _, rfl, by omega, by rw [← HP.out]; exact GNH.out⟩, ?_⟩
        show ws.length - (j + 1) < ws.length - j
        omega
    · have hjn : j = ws.length := by omega
      subst hjn
      have HC := Lib.hid (HN.out ws.length)
      rw [HG.out.stop] at HC
      obtain ⟨sa9, sc9, hs0⟩ := owns_shape gs.own
      subst hs0
      have GS := Lib.hid gs
      clear gs
      go_wp2_with fail
      refine (HC.out _ (Nat.le_refl _) GS.out.bel).mono ?_
      rintro e w2 ⟨rfl, hb2⟩
      have GS2 := Lib.hid (GS.out.later hb2)
      clear hc0 hc1 hz0' hz1' hhs
      obtain ⟨t0, t1, tz0, tz1, ths⟩ := id GS2.out.h
      obtain ⟨rx, ry, r0, r1, rz0, rz1, rz⟩ := id GS2.out.o
      have hgg := GS2.out.hg
      go_upto_region 5 with fail
      go_region
      all_goals go_wp2
      all_goals simp only [Exit.jump]
      all_goals refine bodyPost_ret (v := .tuple #[.slice sa9 ws.length sc9, .agg #[.int .i64 (hs ws.length).1, .int .i64 (hs ws.length).2]]) (by simp only [results, Try.results118]; go_simp) rfl ?_
      all_goals
        have own2 := GS2.out.own
        rw [List.take_length] at own2
        exact ⟨_, rfl, own_mono (own_drew (own_set (own_set own2 (own_ne own2 (b := w.heap.size + 1) (by omega)) _) (own_ne own2 (b := w.heap.size + 1) (by omega)) _)) (by omega), bdrew (bset (bset GS2.out.bel (by simp) _) (by simp) _)⟩
end Go.Proofs.Ytiafmojmanhdoaa

/- Roads: the greedy stops (plain). -/
namespace Go.Proofs.Ytiafmojmanhdoaa
open Go.ChangeShapes Go.WideShapes Go.ChangeAt Go.RowKit Go.Joins
set_option maxRecDepth 100000
set_option linter.unusedVariables false
set_option linter.unusedSimpArgs false

theorem rd_lt {n d : Int} {l : List (Int × Int)} (h : rdB n d l = true) (h0 : 0 < l.length) : ∀ (e i : Nat) (p q : Int × Int), (plL n d l)[i]? = some p → (plL n d l)[i + e + 1]? = some q → p.1 * q.2 < q.1 * p.2 := by
  have hI : incB (plL n d l) = true := by
    unfold rdB at h
    simp [show ¬ l.length = 0 by omega] at h
    exact h.2.2
  have hM := rd_mono h
  have hlen : (plL n d l).length = l.length + 1 + 1 := plL_len n d l
  have hone : ∀ i p q, (plL n d l)[i]? = some p → (plL n d l)[i + 1]? = some q → p.1 * q.2 < q.1 * p.2 := by
    intro i p q hp hq
    have hs := hM.st i p q hp hq
    have hi := (List.getElem?_eq_some_iff.1 hq).1
    have h1 := of_decide_eq_true ((List.all_eq_true.1 hI) i (List.mem_range.2 (by omega)))
    rw [cmAt_is _ i p q hp hq, cm_lt hs.ap hs.aq] at h1
    exact h1
  intro e
  induction e with
  | zero => intro i p q hp hq; exact hone i p q hp hq
  | succ e ih =>
    intro i p q hp hq
    have hi := (List.getElem?_eq_some_iff.1 hq).1
    obtain ⟨r, hr⟩ : ∃ r, (plL n d l)[i + e + 1]? = some r := ⟨_, List.getElem?_eq_getElem (by omega)⟩
    have h1 := ih i p r hp hr
    have h2 := hone (i + e + 1) r q hr hq
    have s1 := mono_at hM (by omega : i < i + e + 1) hp hr
    have s2 := mono_at hM (by omega : i + e + 1 < i + (e + 1) + 1) hr hq
    exact ltc_trans (am_of _ _ s1.ap).c (am_of _ _ s1.aq).c (am_of _ _ s2.aq).c h1 h2
/-- The places of a road that can be gone. -/
structure CanP (n d : Int) (l : List (Int × Int)) : Prop where
  rd : rdB n d l = true
  nr : allNr (plL n d l)
theorem canP_of {n d : Int} {l : List (Int × Int)} (h : cgB n d l = true) : CanP n d l := by
  unfold cgB at h
  rw [Bool.and_eq_true, decide_eq_true_eq] at h
  refine ⟨h.1, ?_⟩
  have h1 := fw_all (rd_mono h.1) (by rw [plL_len]; omega)
  rw [plL_len, show l.length + 1 + 1 - 1 = l.length + 1 by omega] at h1
  exact h1.1 ((go_iff h.1).2 h.2)
def atP9 (n d : Int) (l : List (Int × Int)) (i : Nat) : Int × Int := (plL n d l).getD i (0, 1)
def nrI (n d : Int) (l : List (Int × Int)) (i j : Nat) : Bool := nrB (atP9 n d l i) (atP9 n d l j)
theorem atP9_get {n d : Int} {l : List (Int × Int)} {i : Nat} (h : i < l.length + 2) : (plL n d l)[i]? = some (atP9 n d l i) := by
  have hl := plL_len n d l
  rw [atP9, List.getD_eq_getElem?_getD, List.getElem?_eq_getElem (by omega)]
  rfl
theorem atP9_0 (n d : Int) (l : List (Int × Int)) : atP9 n d l 0 = (0, 1) := by simp [atP9, plL]
theorem atP9_well (n d : Int) (l : List (Int × Int)) {i : Nat} (h : i < l.length) : l[i]? = some (atP9 n d l (i + 1)) := by
  have h1 := atP9_get (n := n) (d := d) (l := l) (i := i + 1) (by omega)
  rw [plL, List.getElem?_cons_succ, endL, List.getElem?_append_left h] at h1
  exact h1
theorem atP9_last (n d : Int) (l : List (Int × Int)) : atP9 n d l (l.length + 1) = (n, d) := by
  have h1 := atP9_get (n := n) (d := d) (l := l) (i := l.length + 1) (by omega)
  rw [plL, List.getElem?_cons_succ, endL, List.getElem?_append_right (Nat.le_refl _), Nat.sub_self] at h1
  simpa using h1.symm
theorem nrI_one {n d : Int} {l : List (Int × Int)} (h : CanP n d l) {i : Nat} (hi : i < l.length + 1) : nrI n d l i (i + 1) = true :=
  h.nr i _ _ (atP9_get (by omega)) (atP9_get (by omega))
theorem nrI_less {n d : Int} {l : List (Int × Int)} (h : rdB n d l = true) {i j k : Nat} (h1 : i < j) (h2 : j ≤ k) (hk : k < l.length + 2) (hn : nrI n d l i k = true) : nrI n d l i j = true := by
  have hM := rd_mono h
  have gi := atP9_get (n := n) (d := d) (l := l) (i := i) (by omega)
  have gj := atP9_get (n := n) (d := d) (l := l) (i := j) (by omega)
  have gk := atP9_get (n := n) (d := d) (l := l) (i := k) hk
  have s1 := mono_at hM (by omega : i < k) gi gk
  have s2 := mono_at hM h1 gi gj
  have a1 := am_of _ _ s1.ap
  have a2 := am_of _ _ s1.aq
  have a3 := am_of _ _ s2.aq
  refine nr_between s1 s2 (Int.le_refl _) ?_ a1.c a1.c a3.c a2.c hn
  rcases Nat.lt_or_ge j k with hjk | hjk
  · exact (mono_at hM hjk gj gk).le
  · have e : j = k := by omega
    subst e
    exact Int.le_refl _
/-- The next place of the greedy run: the last one that is near. -/
def grN (n d : Int) (l : List (Int × Int)) (i : Nat) : Nat := (lastIx (fun j => nrI n d l i j) (l.length + 2)).getD 0
theorem lastIx_is {q : Nat → Bool} : ∀ {k i : Nat}, lastIx q k = some i → i < k ∧ q i = true ∧ ∀ j, i < j → j < k → q j = false
  | 0, _, h => by cases h
  | k + 1, i, h => by
    unfold lastIx at h
    split at h
    · next hq => injection h with h; subst h; exact ⟨by omega, hq, fun j h1 h2 => by omega⟩
    · next hq =>
      have ⟨h1, h2, h3⟩ := lastIx_is h
      refine ⟨by omega, h2, fun j h4 h5 => ?_⟩
      by_cases e : j = k
      · subst e; simpa using hq
      · exact h3 j h4 (by omega)
theorem lastIx_ex {q : Nat → Bool} {i : Nat} (h : q i = true) : ∀ {k : Nat}, i < k → ∃ j, lastIx q k = some j ∧ i ≤ j
  | 0, hi => by omega
  | k + 1, hi => by
    unfold lastIx
    split
    · exact ⟨k, rfl, by omega⟩
    · next hq =>
      have : i ≠ k := fun e => hq (e ▸ h)
      obtain ⟨j, h1, h2⟩ := lastIx_ex h (by omega : i < k)
      exact ⟨j, h1, h2⟩
structure GrN (n d : Int) (l : List (Int × Int)) (i x : Nat) : Prop where
  lt : i < x
  le : x < l.length + 1
  yes : nrI n d l i x = true
  no : ∀ j, x < j → j < l.length + 2 → nrI n d l i j = false
theorem grN_is {n d : Int} {l : List (Int × Int)} (h : CanP n d l) {i : Nat} (hi : i < l.length + 1) (hn : nrI n d l i (l.length + 1) = false) : GrN n d l i (grN n d l i) := by
  obtain ⟨j, h1, h2⟩ := lastIx_ex (q := fun j => nrI n d l i j) (nrI_one h hi) (by omega : i + 1 < l.length + 2)
  have h3 := lastIx_is h1
  have e : grN n d l i = j := by simp [grN, h1]
  rw [e]
  refine ⟨by omega, ?_, h3.2.1, h3.2.2⟩
  rcases Nat.lt_or_ge j (l.length + 1) with hj | hj
  · exact hj
  · have e2 : j = l.length + 1 := by omega
    rw [e2] at h3
    rw [hn] at h3
    exact absurd h3.2.1 (by simp)
/-- The places of the greedy run from place i on. -/
def grR (n d : Int) (l : List (Int × Int)) : Nat → Nat → List Nat
  | 0, _ => []
  | f + 1, i => if nrI n d l i (l.length + 1) = true then [] else grN n d l i :: grR n d l f (grN n d l i)
structure GrRun (n d : Int) (l : List (Int × Int)) (i : Nat) (R : List Nat) : Prop where
  st : ∀ (j x : Nat), R[j]? = some x → ∃ y : Nat, (i :: R)[j]? = some y ∧ y < l.length + 1 ∧ nrI n d l y (l.length + 1) = false ∧ x = grN n d l y
  en : ∃ y : Nat, (i :: R)[R.length]? = some y ∧ y < l.length + 1 ∧ nrI n d l y (l.length + 1) = true
  len : R.length + i ≤ l.length
theorem grR_run {n d : Int} {l : List (Int × Int)} (h : CanP n d l) : ∀ (f i : Nat), i < l.length + 1 → l.length ≤ f + i → GrRun n d l i (grR n d l f i)
  | 0, i, hi, hf => by
    have e : i = l.length := by omega
    subst e
    exact ⟨fun j x hx => by simp [grR] at hx, ⟨l.length, by simp [grR], by omega, nrI_one h (by omega)⟩, by simp [grR]⟩
  | f + 1, i, hi, hf => by
    unfold grR
    split
    · next hn => exact ⟨fun j x hx => by simp at hx, ⟨i, by simp, hi, hn⟩, by simp; omega⟩
    · next hn =>
      have hn' : nrI n d l i (l.length + 1) = false := by simpa using hn
      have hg := grN_is h hi hn'
      have hlt := hg.lt
      have hr := grR_run h f (grN n d l i) hg.le (by omega)
      refine ⟨fun j x hx => ?_, ?_, ?_⟩
      · rcases j with _ | j
        · simp at hx
          exact ⟨i, rfl, hi, hn', hx.symm⟩
        · rw [List.getElem?_cons_succ] at hx
          rw [List.getElem?_cons_succ]
          exact hr.st j x hx
      · obtain ⟨y, h1, h2⟩ := hr.en
        exact ⟨y, by rw [List.length_cons, List.getElem?_cons_succ]; exact h1, h2⟩
      · have := hr.len
        rw [List.length_cons]
        omega
/-- The greedy stops. -/
def grS (n d : Int) (l : List (Int × Int)) : List Nat := grR n d l (l.length + 1) 0
def grL (n d : Int) (l : List (Int × Int)) : List Int := if cgB n d l = true then (grS n d l).map (fun (x : Nat) => (x : Int) - 1) else []
theorem grS_run {n d : Int} {l : List (Int × Int)} (h : CanP n d l) : GrRun n d l 0 (grS n d l) := grR_run h _ 0 (by omega) (by omega)
theorem grL_len (n d : Int) (l : List (Int × Int)) : (grL n d l).length ≤ 1048576 := by
  unfold grL
  split
  · next hc =>
    have h := canP_of hc
    have h1 := (grS_run h).len
    have h2 := (rdB_1 h.rd).2.1
    rw [List.length_map]
    omega
  · simp
/-- The farthest well is the next place of the run. -/
theorem far_next {n d : Int} {l : List (Int × Int)} (h : CanP n d l) {y : Nat} (hy : y < l.length + 1) (hn : nrI n d l y (l.length + 1) = false) :
    fwI l (atP9 n d l y) = (grN n d l y : Int) - 1 ∧ fwB l (atP9 n d l y) = true ∧ l[grN n d l y - 1]? = some (atP9 n d l (grN n d l y)) ∧ 1 ≤ grN n d l y := by
  have hg := grN_is h hy hn
  have h1 := hg.lt
  have h2 := hg.le
  have h3 := hg.yes
  obtain ⟨x, hx⟩ : ∃ x, grN n d l y = x := ⟨_, rfl⟩
  have hno := hg.no
  rw [hx] at h1 h2 h3 hno ⊢
  have hwl : ∀ i, i < l.length → l.getD i (0, 0) = atP9 n d l (i + 1) := fun i hi => by
    rw [List.getD_eq_getElem?_getD, atP9_well n d l hi]
    rfl
  have hfw : fwW l (atP9 n d l y) = some (x - 1) := by
    refine lastIx_some ?_ (by omega) (fun j hj hj2 => ?_)
    · show nrB _ (l.getD (x - 1) (0, 0)) = true
      rw [hwl _ (by omega), show x - 1 + 1 = x by omega]
      exact h3
    · show nrB _ (l.getD j (0, 0)) = false
      rw [hwl _ hj2]
      exact hno (j + 1) (by omega) (by omega)
  have hne : atP9 n d l x ≠ atP9 n d l y := by
    intro e
    have hlt := rd_lt h.rd (by omega) (x - y - 1) y _ _ (atP9_get (by omega)) (by rw [show y + (x - y - 1) + 1 = x by omega]; exact atP9_get (by omega))
    rw [e] at hlt
    omega
  refine ⟨?_, ?_, ?_, by omega⟩
  · simp only [fwI, hfw]; omega
  · simp only [fwB, hfw, hwl _ (by omega : x - 1 < l.length), show x - 1 + 1 = x by omega]
    simpa using hne
  · have := atP9_well n d l (by omega : x - 1 < l.length)
    rw [show x - 1 + 1 = x by omega] at this
    exact this
end Go.Proofs.Ytiafmojmanhdoaa

/- Is it a clue: of the program and of the model. -/
namespace Go.Proofs.Ytiafmojmanhdoaa
open Go.ChangeShapes Go.WideShapes Go.ChangeAt Go.RowKit Go.Joins
set_option maxRecDepth 100000
set_option linter.unusedVariables false
set_option linter.unusedSimpArgs false


/-- Numbers of miles. -/
def miB (m : Int) : Bool := inB m 1 10
def ofB (k a b kd lo hi mb : Int) : Bool := decide (k = kd) && (inB a lo hi && inB b 0 mb)
/-- Is it a clue of a road of so many miles? -/
def clB (m k a b : Int) : Bool := ofB k a b 0 1 (m - 1) 0 || ofB k a b 1 1 (m - 1) 0 || ofB k a b 2 0 (m - 1) 0 || ofB k a b 3 1 m (m - 1) || ofB k a b 4 1 m 0 || ofB k a b 5 1 m 0
theorem miB_yes {m : Int} (h : miB m = true) : 1 ≤ m ∧ m ≤ 10 := by simpa [miB, inB] using h
theorem ofB_ne {k a b kd lo hi mb : Int} (h : k ≠ kd) : ofB k a b kd lo hi mb = false := by simp [ofB, h]
theorem ofB_k {k a b kd lo hi mb : Int} (h : ofB k a b kd lo hi mb = true) : k = kd := by simp [ofB] at h; exact h.1
theorem mi_impl (m : Int) (w : World) :
    Calls Try.prog 80 #[.int .i64 m] w fun e w' => e = .returned (.bool (miB m)) ∧ w = w' := by
  go_enter Try.func80, Try.ntmps80
  go_wp2_with (go_at_call 76; refine (in_impl _ _ _ _).mono ?_; rintro e w1 ⟨rfl, rfl⟩)
  go_ret
  exact ⟨rfl, rfl⟩
theorem mi_spec (m : Int) (w : World) :
    Calls Try.prog 49 #[.int .i64 m] w fun e w' => e = .returned (.bool (miB m)) ∧ w = w' := by
  go_enter Try.func49, Try.ntmps49
  go_wp2_with (go_at_call 71; refine (in_spec _ _ _ _).mono ?_; rintro e w1 ⟨rfl, rfl⟩)
  go_ret
  exact ⟨rfl, rfl⟩
set_option maxHeartbeats 800000 in
theorem isOf_impl (k a b kd lo hi mb : Int) (w : World) :
    Calls Try.prog 81 #[.agg #[.int .i64 k, .int .i64 a, .int .i64 b], .int .i64 kd, .int .i64 lo, .int .i64 hi, .int .i64 mb] w fun e w' => e = .returned (.bool (ofB k a b kd lo hi mb)) ∧ Below w.heap.size w w' := by
  by_cases hk : k = kd
  · subst hk
    have e : ofB k a b k lo hi mb = (inB a lo hi && inB b 0 mb) := by simp [ofB]
    rw [e]; clear e
    cases h1 : inB a lo hi
    · rw [Bool.false_and]
      go_enter Try.func81, Try.ntmps81
      go_wp2_with (go_at_call 76; refine (in_impl _ _ _ _).mono ?_; rintro e w1 ⟨rfl, rfl⟩; rw [h1])
      go_ret
      refine ⟨rfl, ?_⟩
      (repeat (first | with_reducible exact Below.refl _ _ | with_reducible assumption | with_reducible refine balloc ?_ _ | with_reducible refine bdrew ?_ | with_reducible refine below_drewN ?_ _ | with_reducible refine bset ?_ ?_ _ | with_reducible exact Nat.le_refl _ | with_reducible refine bsize ?_ | (dsimp only; refine Nat.le_trans ?_ (Nat.le_add_right _ _)) | with_reducible refine Nat.le_trans ?_ (Nat.le_add_right _ _) | (with_reducible refine bstep ?_ (by assumption))))
    · rw [Bool.true_and]
      cases h2 : inB b 0 mb
      all_goals
        go_enter Try.func81, Try.ntmps81
        go_wp2_with (go_at_call 76; refine (in_impl _ _ _ _).mono ?_; rintro e w1 ⟨rfl, rfl⟩; first | rw [h1] | rw [h2])
        go_ret
        refine ⟨rfl, ?_⟩
        (repeat (first | with_reducible exact Below.refl _ _ | with_reducible assumption | with_reducible refine balloc ?_ _ | with_reducible refine bdrew ?_ | with_reducible refine below_drewN ?_ _ | with_reducible refine bset ?_ ?_ _ | with_reducible exact Nat.le_refl _ | with_reducible refine bsize ?_ | (dsimp only; refine Nat.le_trans ?_ (Nat.le_add_right _ _)) | with_reducible refine Nat.le_trans ?_ (Nat.le_add_right _ _) | (with_reducible refine bstep ?_ (by assumption))))
  · rw [ofB_ne hk]
    go_enter Try.func81, Try.ntmps81
    go_wp2_with fail
    go_ret
    refine ⟨rfl, ?_⟩
    (repeat (first | with_reducible exact Below.refl _ _ | with_reducible assumption | with_reducible refine balloc ?_ _ | with_reducible refine bdrew ?_ | with_reducible refine below_drewN ?_ _ | with_reducible refine bset ?_ ?_ _ | with_reducible exact Nat.le_refl _ | with_reducible refine bsize ?_ | (dsimp only; refine Nat.le_trans ?_ (Nat.le_add_right _ _)) | with_reducible refine Nat.le_trans ?_ (Nat.le_add_right _ _) | (with_reducible refine bstep ?_ (by assumption))))

theorem clB_other {m k a b : Int} (h0 : k ≠ 0) (h1 : k ≠ 1) (h2 : k ≠ 2) (h3 : k ≠ 3) (h4 : k ≠ 4) (h5 : k ≠ 5) : clB m k a b = false := by
  simp [clB, ofB, h0, h1, h2, h3, h4, h5]
theorem clB_b {m k a b : Int} (h3 : k ≠ 3) (hb : b ≠ 0) : clB m k a b = false := by
  have h : inB b 0 0 = false := by simp [inB]; omega
  simp [clB, ofB, h3, h]
theorem clB_0 (m a : Int) : clB m 0 a 0 = inB a 1 (m - 1) := by
  have h : inB 0 0 0 = true := by decide
  simp [clB, ofB, h]
theorem clB_1 (m a : Int) : clB m 1 a 0 = inB a 1 (m - 1) := by
  have h : inB 0 0 0 = true := by decide
  simp [clB, ofB, h]
theorem clB_2 (m a : Int) : clB m 2 a 0 = inB a 0 (m - 1) := by
  have h : inB 0 0 0 = true := by decide
  simp [clB, ofB, h]
theorem clB_4 (m a : Int) : clB m 4 a 0 = inB a 1 m := by
  have h : inB 0 0 0 = true := by decide
  simp [clB, ofB, h]
theorem clB_5 (m a : Int) : clB m 5 a 0 = inB a 1 m := by
  have h : inB 0 0 0 = true := by decide
  simp [clB, ofB, h]
theorem clB_3 (m a b : Int) : clB m 3 a b = (inB a 1 m && inB b 0 (m - 1)) := by
  simp [clB, ofB]
set_option maxHeartbeats 1600000 in
theorem cl_spec_0 (m a : Int) (hm : 1 ≤ m ∧ m ≤ 10) (w : World) :
    Calls Try.prog 50 #[.int .i64 m, .agg #[.int .i64 0, .int .i64 a, .int .i64 0]] w fun e w' => e = .returned (.bool (clB m 0 a 0)) ∧ Below w.heap.size w w' := by
  rw [clB_0]
  go_enter Try.func50, Try.ntmps50
  go_wp2_with (go_at_call 71; refine (in_spec _ _ _ _).mono ?_; rintro e w1 ⟨rfl, rfl⟩)
  go_ret
  refine ⟨rfl, ?_⟩
  (repeat (first | with_reducible exact Below.refl _ _ | with_reducible assumption | with_reducible refine balloc ?_ _ | with_reducible refine bdrew ?_ | with_reducible refine below_drewN ?_ _ | with_reducible refine bset ?_ ?_ _ | with_reducible exact Nat.le_refl _ | with_reducible refine bsize ?_ | (dsimp only; refine Nat.le_trans ?_ (Nat.le_add_right _ _)) | with_reducible refine Nat.le_trans ?_ (Nat.le_add_right _ _) | (with_reducible refine bstep ?_ (by assumption))))
set_option maxHeartbeats 1600000 in
theorem cl_spec_1 (m a : Int) (hm : 1 ≤ m ∧ m ≤ 10) (w : World) :
    Calls Try.prog 50 #[.int .i64 m, .agg #[.int .i64 1, .int .i64 a, .int .i64 0]] w fun e w' => e = .returned (.bool (clB m 1 a 0)) ∧ Below w.heap.size w w' := by
  rw [clB_1]
  go_enter Try.func50, Try.ntmps50
  go_wp2_with (go_at_call 71; refine (in_spec _ _ _ _).mono ?_; rintro e w1 ⟨rfl, rfl⟩)
  go_ret
  refine ⟨rfl, ?_⟩
  (repeat (first | with_reducible exact Below.refl _ _ | with_reducible assumption | with_reducible refine balloc ?_ _ | with_reducible refine bdrew ?_ | with_reducible refine below_drewN ?_ _ | with_reducible refine bset ?_ ?_ _ | with_reducible exact Nat.le_refl _ | with_reducible refine bsize ?_ | (dsimp only; refine Nat.le_trans ?_ (Nat.le_add_right _ _)) | with_reducible refine Nat.le_trans ?_ (Nat.le_add_right _ _) | (with_reducible refine bstep ?_ (by assumption))))
set_option maxHeartbeats 1600000 in
theorem cl_spec_2 (m a : Int) (hm : 1 ≤ m ∧ m ≤ 10) (w : World) :
    Calls Try.prog 50 #[.int .i64 m, .agg #[.int .i64 2, .int .i64 a, .int .i64 0]] w fun e w' => e = .returned (.bool (clB m 2 a 0)) ∧ Below w.heap.size w w' := by
  rw [clB_2]
  go_enter Try.func50, Try.ntmps50
  go_wp2_with (go_at_call 71; refine (in_spec _ _ _ _).mono ?_; rintro e w1 ⟨rfl, rfl⟩)
  go_ret
  refine ⟨rfl, ?_⟩
  (repeat (first | with_reducible exact Below.refl _ _ | with_reducible assumption | with_reducible refine balloc ?_ _ | with_reducible refine bdrew ?_ | with_reducible refine below_drewN ?_ _ | with_reducible refine bset ?_ ?_ _ | with_reducible exact Nat.le_refl _ | with_reducible refine bsize ?_ | (dsimp only; refine Nat.le_trans ?_ (Nat.le_add_right _ _)) | with_reducible refine Nat.le_trans ?_ (Nat.le_add_right _ _) | (with_reducible refine bstep ?_ (by assumption))))
set_option maxHeartbeats 1600000 in
theorem cl_spec_4 (m a : Int) (hm : 1 ≤ m ∧ m ≤ 10) (w : World) :
    Calls Try.prog 50 #[.int .i64 m, .agg #[.int .i64 4, .int .i64 a, .int .i64 0]] w fun e w' => e = .returned (.bool (clB m 4 a 0)) ∧ Below w.heap.size w w' := by
  rw [clB_4]
  go_enter Try.func50, Try.ntmps50
  go_wp2_with (go_at_call 71; refine (in_spec _ _ _ _).mono ?_; rintro e w1 ⟨rfl, rfl⟩)
  go_ret
  refine ⟨rfl, ?_⟩
  (repeat (first | with_reducible exact Below.refl _ _ | with_reducible assumption | with_reducible refine balloc ?_ _ | with_reducible refine bdrew ?_ | with_reducible refine below_drewN ?_ _ | with_reducible refine bset ?_ ?_ _ | with_reducible exact Nat.le_refl _ | with_reducible refine bsize ?_ | (dsimp only; refine Nat.le_trans ?_ (Nat.le_add_right _ _)) | with_reducible refine Nat.le_trans ?_ (Nat.le_add_right _ _) | (with_reducible refine bstep ?_ (by assumption))))
set_option maxHeartbeats 1600000 in
theorem cl_spec_5 (m a : Int) (hm : 1 ≤ m ∧ m ≤ 10) (w : World) :
    Calls Try.prog 50 #[.int .i64 m, .agg #[.int .i64 5, .int .i64 a, .int .i64 0]] w fun e w' => e = .returned (.bool (clB m 5 a 0)) ∧ Below w.heap.size w w' := by
  rw [clB_5]
  go_enter Try.func50, Try.ntmps50
  go_wp2_with (go_at_call 71; refine (in_spec _ _ _ _).mono ?_; rintro e w1 ⟨rfl, rfl⟩)
  go_ret
  refine ⟨rfl, ?_⟩
  (repeat (first | with_reducible exact Below.refl _ _ | with_reducible assumption | with_reducible refine balloc ?_ _ | with_reducible refine bdrew ?_ | with_reducible refine below_drewN ?_ _ | with_reducible refine bset ?_ ?_ _ | with_reducible exact Nat.le_refl _ | with_reducible refine bsize ?_ | (dsimp only; refine Nat.le_trans ?_ (Nat.le_add_right _ _)) | with_reducible refine Nat.le_trans ?_ (Nat.le_add_right _ _) | (with_reducible refine bstep ?_ (by assumption))))
set_option maxHeartbeats 1600000 in
theorem cl_spec_3 (m a b : Int) (hm : 1 ≤ m ∧ m ≤ 10) (w : World) :
    Calls Try.prog 50 #[.int .i64 m, .agg #[.int .i64 3, .int .i64 a, .int .i64 b]] w fun e w' => e = .returned (.bool (clB m 3 a b)) ∧ Below w.heap.size w w' := by
  rw [clB_3]
  cases h1 : inB a 1 m
  · rw [Bool.false_and]
    go_enter Try.func50, Try.ntmps50
    go_wp2_with (go_at_call 71; refine (in_spec _ _ _ _).mono ?_; rintro e w1 ⟨rfl, rfl⟩; rw [h1])
    go_ret
    refine ⟨rfl, ?_⟩
    (repeat (first | with_reducible exact Below.refl _ _ | with_reducible assumption | with_reducible refine balloc ?_ _ | with_reducible refine bdrew ?_ | with_reducible refine below_drewN ?_ _ | with_reducible refine bset ?_ ?_ _ | with_reducible exact Nat.le_refl _ | with_reducible refine bsize ?_ | (dsimp only; refine Nat.le_trans ?_ (Nat.le_add_right _ _)) | with_reducible refine Nat.le_trans ?_ (Nat.le_add_right _ _) | (with_reducible refine bstep ?_ (by assumption))))
  · rw [Bool.true_and]
    cases h2 : inB b 0 (m - 1)
    all_goals
      go_enter Try.func50, Try.ntmps50
      go_wp2_with (go_at_call 71; refine (in_spec _ _ _ _).mono ?_; rintro e w1 ⟨rfl, rfl⟩; first | rw [h1] | rw [h2])
      go_ret
      refine ⟨rfl, ?_⟩
      (repeat (first | with_reducible exact Below.refl _ _ | with_reducible assumption | with_reducible refine balloc ?_ _ | with_reducible refine bdrew ?_ | with_reducible refine below_drewN ?_ _ | with_reducible refine bset ?_ ?_ _ | with_reducible exact Nat.le_refl _ | with_reducible refine bsize ?_ | (dsimp only; refine Nat.le_trans ?_ (Nat.le_add_right _ _)) | with_reducible refine Nat.le_trans ?_ (Nat.le_add_right _ _) | (with_reducible refine bstep ?_ (by assumption))))
set_option maxHeartbeats 1600000 in
theorem cl_spec_b (m k a b : Int) (hm : 1 ≤ m ∧ m ≤ 10) (h3 : k ≠ 3) (hb : b ≠ 0) (w : World) :
    Calls Try.prog 50 #[.int .i64 m, .agg #[.int .i64 k, .int .i64 a, .int .i64 b]] w fun e w' => e = .returned (.bool (false)) ∧ Below w.heap.size w w' := by
  have hc : (k != 3 && b != 0) = true := by simp [h3, hb]
  go_enter Try.func50, Try.ntmps50
  go_wp2_with fail
  go_ret
  refine ⟨rfl, ?_⟩
  (repeat (first | with_reducible exact Below.refl _ _ | with_reducible assumption | with_reducible refine balloc ?_ _ | with_reducible refine bdrew ?_ | with_reducible refine below_drewN ?_ _ | with_reducible refine bset ?_ ?_ _ | with_reducible exact Nat.le_refl _ | with_reducible refine bsize ?_ | (dsimp only; refine Nat.le_trans ?_ (Nat.le_add_right _ _)) | with_reducible refine Nat.le_trans ?_ (Nat.le_add_right _ _) | (with_reducible refine bstep ?_ (by assumption))))
set_option maxHeartbeats 1600000 in
theorem cl_spec_no (m k a b : Int) (hm : 1 ≤ m ∧ m ≤ 10) (h0 : k ≠ 0) (h1 : k ≠ 1) (h2 : k ≠ 2) (h3 : k ≠ 3) (h4 : k ≠ 4) (h5 : k ≠ 5) (hb : b = 0) (w : World) :
    Calls Try.prog 50 #[.int .i64 m, .agg #[.int .i64 k, .int .i64 a, .int .i64 b]] w fun e w' => e = .returned (.bool (false)) ∧ Below w.heap.size w w' := by
  subst hb
  go_enter Try.func50, Try.ntmps50
  go_wp2_with fail
  go_ret
  refine ⟨rfl, ?_⟩
  (repeat (first | with_reducible exact Below.refl _ _ | with_reducible assumption | with_reducible refine balloc ?_ _ | with_reducible refine bdrew ?_ | with_reducible refine below_drewN ?_ _ | with_reducible refine bset ?_ ?_ _ | with_reducible exact Nat.le_refl _ | with_reducible refine bsize ?_ | (dsimp only; refine Nat.le_trans ?_ (Nat.le_add_right _ _)) | with_reducible refine Nat.le_trans ?_ (Nat.le_add_right _ _) | (with_reducible refine bstep ?_ (by assumption))))
/-- The model's clue. -/
theorem cl_spec (m k a b : Int) (hm : 1 ≤ m ∧ m ≤ 10) (w : World) :
    Calls Try.prog 50 #[.int .i64 m, .agg #[.int .i64 k, .int .i64 a, .int .i64 b]] w fun e w' => e = .returned (.bool (clB m k a b)) ∧ Below w.heap.size w w' := by
  by_cases h3 : k = 3
  · subst h3; exact cl_spec_3 m a b hm w
  · by_cases hb : b = 0
    · subst hb
      by_cases h0 : k = 0
      · subst h0; exact cl_spec_0 m a hm w
      · by_cases h1 : k = 1
        · subst h1; exact cl_spec_1 m a hm w
        · by_cases h2 : k = 2
          · subst h2; exact cl_spec_2 m a hm w
          · by_cases h4 : k = 4
            · subst h4; exact cl_spec_4 m a hm w
            · by_cases h5 : k = 5
              · subst h5; exact cl_spec_5 m a hm w
              · rw [clB_other h0 h1 h2 h3 h4 h5]
                exact cl_spec_no m k a 0 hm h0 h1 h2 h3 h4 h5 rfl w
    · rw [clB_b h3 hb]
      exact cl_spec_b m k a b hm h3 hb w
end Go.Proofs.Ytiafmojmanhdoaa

/- Is it a puzzle: of the model. -/
namespace Go.Proofs.Ytiafmojmanhdoaa
open Go.ChangeShapes Go.WideShapes Go.ChangeAt Go.RowKit Go.Joins
set_option maxRecDepth 100000
set_option linter.unusedVariables false
set_option linter.unusedSimpArgs false


def clP (m : Int) (p : ClueV) : Bool := clB m p.k p.a p.b
def pzB (m : Int) (l : List ClueV) : Bool := miB m && (decide (l.length ≤ 8) && l.all (clP m))
theorem pzB_no1 {m : Int} {l : List ClueV} (h : miB m = false) : pzB m l = false := by simp [pzB, h]
theorem pzB_no2 {m : Int} {l : List ClueV} (h : ¬ l.length ≤ 8) : pzB m l = false := by simp [pzB, h]
theorem pzB_no3 {m : Int} {l : List ClueV} {k : Nat} {p : ClueV} (hp : l[k]? = some p) (h : clB m p.k p.a p.b = false) : pzB m l = false := by
  have h1 : l.all (clP m) = false := by
    rw [Bool.eq_false_iff]
    intro hh
    have h2 := (List.all_eq_true.1 hh) p (List.mem_of_getElem? hp)
    unfold clP at h2
    rw [h] at h2
    cases h2
  simp [pzB, h1]
theorem pzB_all {m : Int} {l : List ClueV} (h1 : miB m = true) (h2 : l.length ≤ 8) (h : ∀ j p, j < l.length → l[j]? = some p → clP m p = true) : pzB m l = true := by
  have h3 : l.all (clP m) = true := by
    rw [List.all_eq_true]
    intro p hp
    obtain ⟨j, hj⟩ := List.getElem?_of_mem hp
    exact h j p ((List.getElem?_eq_some_iff.1 hj).1) hj
  simp [pzB, h1, h2, h3]
theorem pzB_yes {m : Int} {l : List ClueV} (h : pzB m l = true) : miB m = true ∧ l.length ≤ 8 ∧ ∀ p ∈ l, clB m p.k p.a p.b = true := by
  simp only [pzB, Bool.and_eq_true, decide_eq_true_eq, List.all_eq_true] at h
  exact ⟨h.1, h.2.1, h.2.2⟩
set_option maxHeartbeats 3200000 in
theorem good9_spec (m : Int) (bm : (-9223372036854775808 ≤ m ∧ m ≤ 9223372036854775807)) (v : Value) (l : List ClueV) (w : World) (h : RowG 3 fClue w v l) :
    Calls Try.prog 57 #[.agg #[.int .i64 m, v]] w fun e w' => e = .returned (.bool (pzB m l)) ∧ Below w.heap.size w w' := by
  have h' := h
  obtain ⟨a0, c0, rfl, hl1, hl2⟩ := row_shape h'
  clear h'
  cases h1 : miB m
  · rw [pzB_no1 h1]
    clear h
    go_enter Try.func57, Try.ntmps57
    go_wp2_with (go_at_call 49; refine (mi_spec _ _).mono ?_; rintro e w1 ⟨rfl, rfl⟩; rw [h1])
    go_ret
    refine ⟨rfl, ?_⟩
    (repeat (first | with_reducible exact Below.refl _ _ | with_reducible assumption | with_reducible refine balloc ?_ _ | with_reducible refine bdrew ?_ | with_reducible refine below_drewN ?_ _ | with_reducible refine bset ?_ ?_ _ | with_reducible exact Nat.le_refl _ | with_reducible refine bsize ?_ | (dsimp only; refine Nat.le_trans ?_ (Nat.le_add_right _ _)) | with_reducible refine Nat.le_trans ?_ (Nat.le_add_right _ _) | (with_reducible refine bstep ?_ (by assumption))))
  by_cases h2 : l.length ≤ 8
  case neg =>
    rw [pzB_no2 h2]
    clear h
    go_enter Try.func57, Try.ntmps57
    go_wp2_with (go_at_call 49; refine (mi_spec _ _).mono ?_; rintro e w1 ⟨rfl, rfl⟩; rw [h1])
    go_ret
    refine ⟨rfl, ?_⟩
    (repeat (first | with_reducible exact Below.refl _ _ | with_reducible assumption | with_reducible refine balloc ?_ _ | with_reducible refine bdrew ?_ | with_reducible refine below_drewN ?_ _ | with_reducible refine bset ?_ ?_ _ | with_reducible exact Nat.le_refl _ | with_reducible refine bsize ?_ | (dsimp only; refine Nat.le_trans ?_ (Nat.le_add_right _ _)) | with_reducible refine Nat.le_trans ?_ (Nat.le_add_right _ _) | (with_reducible refine bstep ?_ (by assumption))))
  have hm := miB_yes h1
  obtain ⟨R, hR⟩ : ∃ R, Hid (pzB m l = R) := ⟨_, Lib.hid rfl⟩
  rw [hR.out]
  rcases h with ⟨hv, rfl⟩ | ⟨a, cap, hv, hL⟩
  · injection hv with q1 q2 q3
    subst q1 q3
    clear q2
    go_enter Try.func57, Try.ntmps57
    go_wp2_with (go_at_call 49; refine (mi_spec _ _).mono ?_; rintro e w1 ⟨rfl, rfl⟩; rw [h1])
    go_loopw [18] (fun i wr => i = .int .i64 0 ∧ Below w.heap.size w wr) (fun _ _ => 0)
    case atStart => exact ⟨rfl, by (repeat (first | with_reducible exact Below.refl _ _ | with_reducible assumption | with_reducible refine balloc ?_ _ | with_reducible refine bdrew ?_ | with_reducible refine below_drewN ?_ _ | with_reducible refine bset ?_ ?_ _ | with_reducible exact Nat.le_refl _ | with_reducible refine bsize ?_ | (dsimp only; refine Nat.le_trans ?_ (Nat.le_add_right _ _)) | with_reducible refine Nat.le_trans ?_ (Nat.le_add_right _ _) | (with_reducible refine bstep ?_ (by assumption))))⟩
    case round =>
      obtain ⟨rfl, hbel⟩ := hrel
      go_wp2
      go_ret
      refine ⟨by rw [← hR.out, pzB_all h1 h2 (by simp)]; rfl, ?_⟩
      (repeat (first | with_reducible exact Below.refl _ _ | with_reducible assumption | with_reducible refine balloc ?_ _ | with_reducible refine bdrew ?_ | with_reducible refine below_drewN ?_ _ | with_reducible refine bset ?_ ?_ _ | with_reducible exact Nat.le_refl _ | with_reducible refine bsize ?_ | (dsimp only; refine Nat.le_trans ?_ (Nat.le_add_right _ _)) | with_reducible refine Nat.le_trans ?_ (Nat.le_add_right _ _) | (with_reducible refine bstep ?_ (by assumption))))
  · injection hv with q1 q2 q3
    subst q1 q3
    clear q2
    have hLH := Lib.hid hL
    clear hL
    go_enter Try.func57, Try.ntmps57
    go_wp2_with (go_at_call 49; refine (mi_spec _ _).mono ?_; rintro e w1 ⟨rfl, rfl⟩; rw [h1])
    go_loopw [18] (fun i wr => ∃ k : Nat, k ≤ l.length ∧ i = .int .i64 k ∧ Hid (∀ j p, j < k → l[j]? = some p → clP m p = true) ∧ Below w.heap.size w wr ∧ wr.cell? ⟨w.heap.size, 0, none⟩ = some (.int .i64 m) ∧ w.heap.size < wr.heap.size) (fun i _ => l.length - (intOf i).toNat)
    case atStart => exact ⟨0, Nat.zero_le _, rfl, Lib.hid (fun j p h _ => absurd h (by omega)), by (repeat (first | with_reducible exact Below.refl _ _ | with_reducible assumption | with_reducible refine balloc ?_ _ | with_reducible refine bdrew ?_ | with_reducible refine below_drewN ?_ _ | with_reducible refine bset ?_ ?_ _ | with_reducible exact Nat.le_refl _ | with_reducible refine bsize ?_ | (dsimp only; refine Nat.le_trans ?_ (Nat.le_add_right _ _)) | with_reducible refine Nat.le_trans ?_ (Nat.le_add_right _ _) | (with_reducible refine bstep ?_ (by assumption)))), by simp [go_sem], by simp⟩
    case round =>
      obtain ⟨k, hk, rfl, hall, hbel, q0, qz⟩ := hrel
      have hL := hLH.out
      by_cases hlt : k < l.length
      · obtain ⟨p, hp⟩ : ∃ p, l[k]? = some p := ⟨_, List.getElem?_eq_getElem hlt⟩
        have hL2 := liesG_below hL hbel
        have hc := hL2.hcell k p hp
        have e0 := hc 0 p.k rfl
        rw [Nat.add_zero] at e0
        have e1 : wr.cell? ⟨(a.add (k * 3)).block, (a.add (k * 3)).off + 1, none⟩ = some (.int .i64 p.a) := by
          have h := hc 1 p.a rfl
          rw [← Deep.add_add] at h
          exact h
        have e2 : wr.cell? ⟨(a.add (k * 3)).block, (a.add (k * 3)).off + 2, none⟩ = some (.int .i64 p.b) := by
          have h := hc 2 p.b rfl
          rw [← Deep.add_add] at h
          exact h
        clear hc
        have HC := Lib.hid (fun W => cl_spec m p.k p.a p.b hm W)
        clear hL hL2
        cases hP : clB m p.k p.a p.b
        · have hno := Lib.hid (pzB_no3 hp hP)
          rw [hP] at HC
          clear hP hp hall
          go_wp2_with fail
          refine (HC.out _).mono ?_
          rintro e w2 ⟨rfl, hb2⟩
          go_wp2
          go_ret
          refine ⟨by rw [← hR.out, hno.out]; rfl, ?_⟩
          (repeat (first | with_reducible exact Below.refl _ _ | with_reducible assumption | with_reducible refine balloc ?_ _ | with_reducible refine bdrew ?_ | with_reducible refine below_drewN ?_ _ | with_reducible refine bset ?_ ?_ _ | with_reducible exact Nat.le_refl _ | with_reducible refine bsize ?_ | (dsimp only; refine Nat.le_trans ?_ (Nat.le_add_right _ _)) | with_reducible refine Nat.le_trans ?_ (Nat.le_add_right _ _) | (with_reducible refine bstep ?_ (by assumption))))
        · have hnext : Hid (∀ j p, j < k + 1 → l[j]? = some p → clP m p = true) := by
            have h := hall.out
            refine Lib.hid (fun j q hj hq => ?_)
            by_cases e : j = k
            · subst e
              rw [hp] at hq
              injection hq with hq
              subst hq
              exact hP
            · exact h j q (by omega) hq
          rw [hP] at HC
          clear hP hp hall
          go_wp2_with fail
          refine (HC.out _).mono ?_
          rintro e w2 ⟨rfl, hb2⟩
          have hb0 : Below wr.heap.size wr w2 := by (repeat (first | with_reducible exact Below.refl _ _ | with_reducible assumption | with_reducible refine balloc ?_ _ | with_reducible refine bdrew ?_ | with_reducible refine below_drewN ?_ _ | with_reducible refine bset ?_ ?_ _ | with_reducible exact Nat.le_refl _ | with_reducible refine bsize ?_ | (dsimp only; refine Nat.le_trans ?_ (Nat.le_add_right _ _)) | with_reducible refine Nat.le_trans ?_ (Nat.le_add_right _ _) | (with_reducible refine bstep ?_ (by assumption))))
          have q0' := keepa hb0 qz q0
          have qz' := Nat.lt_of_lt_of_le qz hb0.size
          have hbel' := bstep hbel hb0
          clear hb0 hb2
          go_wp2
          go_roundw
          case rel => exact ⟨k + 1, by omega, by go_num, hnext, by (repeat (first | with_reducible exact Below.refl _ _ | with_reducible assumption | with_reducible refine balloc ?_ _ | with_reducible refine bdrew ?_ | with_reducible refine below_drewN ?_ _ | with_reducible refine bset ?_ ?_ _ | with_reducible exact Nat.le_refl _ | with_reducible refine bsize ?_ | (dsimp only; refine Nat.le_trans ?_ (Nat.le_add_right _ _)) | with_reducible refine Nat.le_trans ?_ (Nat.le_add_right _ _) | (with_reducible refine bstep ?_ (by assumption)))), by first | assumption | (simp [go_sem]; done) | (simp [go_sem, *]; done), by first | assumption | (simp; omega)⟩
          case measure => simp [intOf]; omega
      · have hkn : k = l.length := by omega
        have hyes := Lib.hid (pzB_all (l := l) h1 h2 (fun j p hj hq => hall.out j p (by omega) hq))
        clear hL hall
        go_wp2
        go_ret
        refine ⟨by rw [← hR.out, hyes.out]; rfl, ?_⟩
        (repeat (first | with_reducible exact Below.refl _ _ | with_reducible assumption | with_reducible refine balloc ?_ _ | with_reducible refine bdrew ?_ | with_reducible refine below_drewN ?_ _ | with_reducible refine bset ?_ ?_ _ | with_reducible exact Nat.le_refl _ | with_reducible refine bsize ?_ | (dsimp only; refine Nat.le_trans ?_ (Nat.le_add_right _ _)) | with_reducible refine Nat.le_trans ?_ (Nat.le_add_right _ _) | (with_reducible refine bstep ?_ (by assumption))))
end Go.Proofs.Ytiafmojmanhdoaa

/- Puzzles: all lists of wells, stops with a tank, the greatest distance (plain). -/
namespace Go.Proofs.Ytiafmojmanhdoaa
open Go.ChangeShapes Go.WideShapes Go.ChangeAt Go.RowKit Go.Joins
set_option maxRecDepth 100000
set_option linter.unusedVariables false
set_option linter.unusedSimpArgs false

/-- Are wells rising, behind a mile, before the end? -/
def risB (m : Int) : Int → List Int → Bool
  | _, [] => true
  | b, x :: l => inB x (b + 1) (m - 1) && risB m x l
theorem risB_cons {m b x : Int} {l : List Int} (h : risB m b (x :: l) = true) : b + 1 ≤ x ∧ x ≤ m - 1 ∧ risB m x l = true := by
  simp only [risB, inB, Bool.and_eq_true, decide_eq_true_eq] at h
  exact ⟨h.1.1, h.1.2, h.2⟩
theorem risB_mono {m b b' : Int} {l : List Int} (h : risB m b l = true) (hb : b' ≤ b) : risB m b' l = true := by
  cases l with
  | nil => rfl
  | cons x l =>
    obtain ⟨h1, h2, h3⟩ := risB_cons h
    simp only [risB, inB, Bool.and_eq_true, decide_eq_true_eq]
    exact ⟨⟨by omega, h2⟩, h3⟩
/-- The lists, not empty, of wells from a mile on; k miles are left. -/
def wsT : Nat → Int → List (List Int)
  | 0, _ => []
  | k + 1, f => [f] :: ((wsT k (f + 1)).map (f :: ·) ++ wsT k (f + 1))
/-- All lists of wells. -/
def wsA (m : Int) : List (List Int) := [] :: wsT (m - 1).toNat 1
/-- Those that begin with some wells, k miles being left from mile f on. -/
def wsM (k : Nat) (f : Int) (ws : List Int) : List (List Int) := (wsT k f).map (ws ++ ·)
theorem wsM_0 (f : Int) (ws : List Int) : wsM 0 f ws = [] := rfl
theorem wsM_succ (k : Nat) (f : Int) (ws : List Int) : wsM (k + 1) f ws = ((ws ++ [f]) :: wsM k (f + 1) (ws ++ [f])) ++ wsM k (f + 1) ws := by
  simp [wsM, wsT, List.map_append, List.map_map, Function.comp_def]
theorem wsA_eq (m : Int) : wsA m = [] :: wsM (m - 1).toNat 1 [] := by simp [wsA, wsM]
theorem wsT_len (k : Nat) (f : Int) : (wsT k f).length + 1 = 2 ^ k := by
  induction k generalizing f with
  | zero => rfl
  | succ k ih =>
    simp only [wsT, List.length_cons, List.length_append, List.length_map]
    have := ih (f + 1)
    rw [Nat.pow_succ]
    omega
theorem wsM_len (k : Nat) (f : Int) (ws : List Int) : (wsM k f ws).length + 1 = 2 ^ k := by rw [wsM, List.length_map]; exact wsT_len k f
theorem wsA_len {m : Int} (h : m ≤ 10) : (wsA m).length ≤ 512 := by
  have h1 := wsT_len (m - 1).toNat 1
  have h2 : (2 : Nat) ^ (m - 1).toNat ≤ 2 ^ 9 := Nat.pow_le_pow_right (by omega) (by omega)
  rw [wsA, List.length_cons]
  have : (2 : Nat) ^ 9 = 512 := by decide
  omega
theorem wsT_ris {m : Int} (k : Nat) : ∀ (f b : Int), b + 1 ≤ f → f + (k : Int) ≤ m → ∀ ws ∈ wsT k f, risB m b ws = true := by
  induction k with
  | zero => intro f b _ _ ws h; simp [wsT] at h
  | succ k ih =>
    intro f b hb hm ws h
    simp only [wsT, List.mem_cons, List.mem_append, List.mem_map] at h
    rcases h with rfl | ⟨l, hl, rfl⟩ | h
    · simp only [risB, inB, Bool.and_eq_true, decide_eq_true_eq]; exact ⟨⟨by omega, by omega⟩, trivial⟩
    · have := ih (f + 1) f (by omega) (by omega) l hl
      simp only [risB, inB, Bool.and_eq_true, decide_eq_true_eq]
      exact ⟨⟨by omega, by omega⟩, this⟩
    · exact ih (f + 1) b (by omega) (by omega) ws h
theorem wsA_ris {m : Int} (h1 : 1 ≤ m) {ws : List Int} (h : ws ∈ wsA m) : risB m 0 ws = true := by
  rw [wsA, List.mem_cons] at h
  rcases h with rfl | h
  · rfl
  · exact wsT_ris (m := m) _ 1 0 (by omega) (by omega) ws h
theorem ris_len {m : Int} : ∀ {b : Int} {l : List Int}, 0 ≤ b → risB m b l = true → (l.length : Int) + b ≤ (if l.length = 0 then b else m - 1)
  | b, [], _, _ => by simp
  | b, x :: l, h0, h => by
    obtain ⟨h1, h2, h3⟩ := risB_cons h
    have := ris_len (by omega) h3
    simp only [List.length_cons, Nat.add_eq_zero_iff, Nat.one_ne_zero, and_false, if_false]
    split at this
    · next e => rw [e]; simp; omega
    · push_cast; omega
theorem ris_len9 {m : Int} (hm : m ≤ 10) {l : List Int} (h : risB m 0 l = true) : l.length ≤ 9 := by
  have := ris_len (by omega) h
  split at this <;> omega
theorem ris_bd {m : Int} : ∀ {b : Int} {l : List Int}, risB m b l = true → ∀ x ∈ l, b + 1 ≤ x ∧ x ≤ m - 1
  | b, [], _, x, hx => by simp at hx
  | b, y :: l, h, x, hx => by
    obtain ⟨h1, h2, h3⟩ := risB_cons h
    rcases List.mem_cons.1 hx with rfl | hx
    · exact ⟨h1, h2⟩
    · have := ris_bd h3 x hx; omega
theorem ris_next {m : Int} : ∀ {b : Int} {l : List Int}, risB m b l = true → ∀ (i : Nat) (x y : Int), (b :: l)[i]? = some x → (b :: l)[i + 1]? = some y → x < y
  | b, [], _, i, x, y, hx, hy => by simp at hy
  | b, z :: l, h, i, x, y, hx, hy => by
    obtain ⟨h1, h2, h3⟩ := risB_cons h
    rcases i with _ | i
    · simp at hx hy; omega
    · rw [List.getElem?_cons_succ] at hx hy
      exact ris_next h3 i x y hx hy
/-- The places of a road: the start, the wells, the end. -/
def plZ (m : Int) (ws : List Int) : List Int := 0 :: (ws ++ [m])
theorem ris_snoc {m : Int} : ∀ {b : Int} {l : List Int}, b < m → risB m b l = true → risB (m + 1) b (l ++ [m]) = true
  | b, [], hb, h => by simp [risB, inB]; omega
  | b, x :: l, hb, h => by
    obtain ⟨h1, h2, h3⟩ := risB_cons h
    have := ris_snoc (by omega) h3
    simp only [List.cons_append, risB, inB, Bool.and_eq_true, decide_eq_true_eq]
    exact ⟨⟨by omega, by omega⟩, this⟩
theorem plZ_next {m : Int} {ws : List Int} (h1 : 1 ≤ m) (h : risB m 0 ws = true) {i : Nat} {x y : Int} (hx : (plZ m ws)[i]? = some x) (hy : (plZ m ws)[i + 1]? = some y) : x < y :=
  ris_next (ris_snoc (by omega) h) i x y hx hy
theorem plZ_len (m : Int) (ws : List Int) : (plZ m ws).length = ws.length + 2 := by simp [plZ]
theorem plZ_lt {m : Int} {ws : List Int} (h1 : 1 ≤ m) (h : risB m 0 ws = true) : ∀ (e i : Nat) (x y : Int), (plZ m ws)[i]? = some x → (plZ m ws)[i + e + 1]? = some y → x < y := by
  intro e
  induction e with
  | zero => intro i x y hx hy; exact plZ_next h1 h hx hy
  | succ e ih =>
    intro i x y hx hy
    have hlt := (List.getElem?_eq_some_iff.1 hy).1
    obtain ⟨z, hz⟩ : ∃ z, (plZ m ws)[i + e + 1]? = some z := ⟨_, List.getElem?_eq_getElem (by omega)⟩
    have h2 := ih i x z hx hz
    have h3 := plZ_next h1 h hz hy
    omega
theorem plZ_bd {m : Int} {ws : List Int} (h1 : 1 ≤ m) (h : risB m 0 ws = true) {x : Int} (hx : x ∈ plZ m ws) : 0 ≤ x ∧ x ≤ m := by
  simp only [plZ, List.mem_cons, List.mem_append, List.mem_singleton, List.not_mem_nil, or_false] at hx
  rcases hx with rfl | hx | rfl
  · omega
  · have := ris_bd h x hx; omega
  · omega
/-- The farthest well no farther than a place. -/
def nxZ (ws : List Int) (lim at' : Int) : Int := ws.foldl (fun x w => if w ≤ lim then max x w else x) at'
theorem nxZ_snoc (ws : List Int) (w lim a : Int) : nxZ (ws ++ [w]) lim a = if w ≤ lim then max (nxZ ws lim a) w else nxZ ws lim a := by simp [nxZ]
theorem nxZ_ge (ws : List Int) (lim a : Int) : a ≤ nxZ ws lim a ∧ ∀ w ∈ ws, w ≤ lim → w ≤ nxZ ws lim a := by
  induction ws generalizing a with
  | nil => exact ⟨Int.le_refl _, by simp⟩
  | cons x l ih =>
    have h := ih (if x ≤ lim then max a x else a)
    refine ⟨Int.le_trans ?_ h.1, fun w hw hl => ?_⟩
    · split <;> omega
    · rcases List.mem_cons.1 hw with rfl | hw
      · refine Int.le_trans ?_ h.1
        rw [if_pos hl]; omega
      · exact h.2 w hw hl
theorem nxZ_in (ws : List Int) (lim a : Int) : nxZ ws lim a = a ∨ (nxZ ws lim a ∈ ws ∧ nxZ ws lim a ≤ lim) := by
  induction ws generalizing a with
  | nil => exact Or.inl rfl
  | cons x l ih =>
    have e : nxZ (x :: l) lim a = nxZ l lim (if x ≤ lim then max a x else a) := rfl
    rw [e]
    rcases ih (if x ≤ lim then max a x else a) with h | ⟨h1, h2⟩
    · rw [h]
      by_cases hx : x ≤ lim
      · rw [if_pos hx]
        by_cases hm : a ≤ x
        · exact Or.inr ⟨by rw [show max a x = x by omega]; exact List.mem_cons_self .., by omega⟩
        · exact Or.inl (by omega)
      · rw [if_neg hx]; exact Or.inl rfl
    · exact Or.inr ⟨List.mem_cons_of_mem _ h1, h2⟩
theorem nxZ_is {ws : List Int} {lim a y : Int} (hy : y ∈ ws) (hl : y ≤ lim) (ha : a ≤ y) (h : ∀ w ∈ ws, w ≤ lim → w ≤ y) : nxZ ws lim a = y := by
  have h1 := (nxZ_ge ws lim a).2 y hy hl
  rcases nxZ_in ws lim a with h2 | ⟨h2, h3⟩
  · omega
  · have := h _ h2 h3; omega
/-- Stops made with a tank from a place on, with so much patience; -1 if the end is not come to. -/
def stZ (m : Int) (ws : List Int) (t : Int) : Nat → Int → Int → Int
  | 0, _, _ => -1
  | f + 1, a, s => if a + t < m then (if nxZ ws (a + t) a = a then -1 else stZ m ws t f (nxZ ws (a + t) a) (s + 1)) else s
def stopsZ (m : Int) (ws : List Int) (t : Int) : Int := stZ m ws t 11 0 0
/-- A place, told in tanks. -/
def shA (t x : Int) : Int × Int := (lowN x t, lowD x t)
theorem sh_am : ∀ t < 11, 1 ≤ t → ∀ x < 11, rpB (shA (t : Nat) (x : Nat)).1 (shA (t : Nat) (x : Nat)).2 = true := by decide +kernel
theorem sh_cm : ∀ t < 11, 1 ≤ t → ∀ x < 11, ∀ y < 11, x < y → cmI (shA (t : Nat) (x : Nat)).1 (shA (t : Nat) (x : Nat)).2 (shA (t : Nat) (y : Nat)).1 (shA (t : Nat) (y : Nat)).2 < 0 := by decide +kernel
theorem sh_nr : ∀ t < 11, 1 ≤ t → ∀ x < 11, ∀ y < 11, x ≤ y → nrB (shA (t : Nat) (x : Nat)) (shA (t : Nat) (y : Nat)) = decide (((y : Nat) : Int) - (x : Nat) ≤ (t : Nat)) := by decide +kernel
theorem sh_0 : ∀ t < 11, 1 ≤ t → shA (t : Nat) 0 = (0, 1) := by decide +kernel
theorem sh_one : ∀ x < 11, shA 1 (x : Nat) = (((x : Nat) : Int), 1) := by decide +kernel
theorem sh_dif : ∀ x < 11, ∀ y < 11, x ≤ y → difP (((x : Nat) : Int), 1) (((y : Nat) : Int), 1) = (((y : Nat) : Int) - (x : Nat), 1) := by decide +kernel
theorem sh_mx : ∀ x < 11, ∀ y < 11, mxP (((x : Nat) : Int), 1) (((y : Nat) : Int), 1) = (max ((x : Nat) : Int) ((y : Nat) : Int), 1) := by decide +kernel
theorem nat_of {x : Int} (h0 : 0 ≤ x) (h1 : x ≤ 10) : ∃ n : Nat, x = n ∧ n < 11 := ⟨x.toNat, by omega, by omega⟩
theorem sh_amI {t x : Int} (t1 : 1 ≤ t) (t2 : t ≤ 10) (x0 : 0 ≤ x) (x1 : x ≤ 10) : rpB (shA t x).1 (shA t x).2 = true := by
  obtain ⟨a, rfl, ha⟩ := nat_of (by omega) t2; obtain ⟨b, rfl, hb⟩ := nat_of x0 x1
  exact sh_am a ha (by omega) b hb
theorem sh_cmI {t x y : Int} (t1 : 1 ≤ t) (t2 : t ≤ 10) (x0 : 0 ≤ x) (hxy : x < y) (y1 : y ≤ 10) : cmI (shA t x).1 (shA t x).2 (shA t y).1 (shA t y).2 < 0 := by
  obtain ⟨a, rfl, ha⟩ := nat_of (by omega) t2; obtain ⟨b, rfl, hb⟩ := nat_of x0 (by omega); obtain ⟨c, rfl, hc⟩ := nat_of (by omega) y1
  exact sh_cm a ha (by omega) b hb c hc (by omega)
theorem sh_nrI {t x y : Int} (t1 : 1 ≤ t) (t2 : t ≤ 10) (x0 : 0 ≤ x) (hxy : x ≤ y) (y1 : y ≤ 10) : nrB (shA t x) (shA t y) = decide (y - x ≤ t) := by
  obtain ⟨a, rfl, ha⟩ := nat_of (by omega) t2; obtain ⟨b, rfl, hb⟩ := nat_of x0 (by omega); obtain ⟨c, rfl, hc⟩ := nat_of (by omega) y1
  exact sh_nr a ha (by omega) b hb c hc (by omega)
theorem sh_0I {t : Int} (t1 : 1 ≤ t) (t2 : t ≤ 10) : shA t 0 = (0, 1) := by
  obtain ⟨a, rfl, ha⟩ := nat_of (by omega) t2
  exact sh_0 a ha (by omega)
/-- The road of some wells, told in tanks. -/
def rdL (t : Int) (ws : List Int) : List (Int × Int) := ws.map (shA t)
theorem plL_sh {m t : Int} (t1 : 1 ≤ t) (t2 : t ≤ 10) (ws : List Int) : plL (shA t m).1 (shA t m).2 (rdL t ws) = (plZ m ws).map (shA t) := by
  simp only [plL, endL, rdL, plZ, List.map_cons, List.map_append, List.map_nil, sh_0I t1 t2]
theorem rd_ok {m t : Int} (m1 : 1 ≤ m) (m2 : m ≤ 10) (t1 : 1 ≤ t) (t2 : t ≤ 10) {ws : List Int} (h : risB m 0 ws = true) : rdB (shA t m).1 (shA t m).2 (rdL t ws) = true := by
  unfold rdB
  rw [Bool.and_eq_true, Bool.and_eq_true, Bool.or_eq_true]
  refine ⟨sh_amI t1 t2 (by omega) m2, ?_, Or.inr ?_⟩
  · unfold lsrB
    rw [Bool.and_eq_true, decide_eq_true_eq, List.all_eq_true]
    have := ris_len9 m2 h
    refine ⟨by rw [rdL, List.length_map]; omega, fun p hp => ?_⟩
    obtain ⟨x, hx, rfl⟩ := List.mem_map.1 hp
    have := ris_bd h x hx
    exact sh_amI t1 t2 (by omega) (by omega)
  · have e : (0, 1) :: (rdL t ws ++ [((shA t m).1, (shA t m).2)]) = (plZ m ws).map (shA t) := plL_sh t1 t2 ws
    unfold incB
    rw [e, List.all_eq_true]
    intro i hi
    have hi' := List.mem_range.1 hi
    rw [List.length_map, plZ_len] at hi'
    obtain ⟨x, hx⟩ : ∃ x, (plZ m ws)[i]? = some x := ⟨_, List.getElem?_eq_getElem (by rw [plZ_len]; omega)⟩
    obtain ⟨y, hy⟩ : ∃ y, (plZ m ws)[i + 1]? = some y := ⟨_, List.getElem?_eq_getElem (by rw [plZ_len]; omega)⟩
    have hlt := plZ_next m1 h hx hy
    have bx := plZ_bd m1 h (List.mem_of_getElem? hx)
    have by' := plZ_bd m1 h (List.mem_of_getElem? hy)
    rw [cmAt_is _ i (shA t x) (shA t y) (by rw [List.getElem?_map, hx]; rfl) (by rw [List.getElem?_map, hy]; rfl), decide_eq_true_eq]
    exact sh_cmI t1 t2 (by omega) hlt (by omega)
theorem can_ok {m t : Int} (m1 : 1 ≤ m) (m2 : m ≤ 10) (t1 : 1 ≤ t) (t2 : t ≤ 10) {ws : List Int} (h : risB m 0 ws = true) :
    cgB (shA t m).1 (shA t m).2 (rdL t ws) = true ↔ ∀ (i : Nat) (x y : Int), (plZ m ws)[i]? = some x → (plZ m ws)[i + 1]? = some y → y - x ≤ t := by
  have hr := rd_ok m1 m2 t1 t2 h
  have h1 := fw_all (rd_mono hr) (by rw [plL_len]; omega)
  rw [plL_len, show (rdL t ws).length + 1 + 1 - 1 = (rdL t ws).length + 1 by omega, go_iff hr] at h1
  unfold cgB
  rw [hr, Bool.true_and, decide_eq_true_eq, h1]
  rw [plL_sh t1 t2]
  constructor
  · intro ha i x y hx hy
    have bx := plZ_bd m1 h (List.mem_of_getElem? hx)
    have by' := plZ_bd m1 h (List.mem_of_getElem? hy)
    have hlt := plZ_next m1 h hx hy
    have := ha i (shA t x) (shA t y) (by rw [List.getElem?_map, hx]; rfl) (by rw [List.getElem?_map, hy]; rfl)
    rw [sh_nrI t1 t2 (by omega) (by omega) (by omega)] at this
    exact of_decide_eq_true this
  · intro ha i p q hp hq
    rw [List.getElem?_map, Option.map_eq_some_iff] at hp hq
    obtain ⟨x, hx, rfl⟩ := hp
    obtain ⟨y, hy, rfl⟩ := hq
    have bx := plZ_bd m1 h (List.mem_of_getElem? hx)
    have by' := plZ_bd m1 h (List.mem_of_getElem? hy)
    have hlt := plZ_next m1 h hx hy
    rw [sh_nrI t1 t2 (by omega) (by omega) (by omega)]
    exact decide_eq_true (ha i x y hx hy)
/-- Where a gap is too long the end is not come to. -/
theorem st_no {m t : Int} (m1 : 1 ≤ m) {ws : List Int} (h : risB m 0 ws = true) {i : Nat} {x y : Int} (hx : (plZ m ws)[i]? = some x) (hy : (plZ m ws)[i + 1]? = some y) (hg : t < y - x) :
    ∀ (f : Nat) (a s : Int), a ≤ x → stZ m ws t f a s = -1
  | 0, _, _, _ => rfl
  | f + 1, a, s, ha => by
    have by' := plZ_bd m1 h (List.mem_of_getElem? hy)
    have hw : ∀ w ∈ ws, w ≤ a + t → w ≤ x := by
      intro w hw hl
      obtain ⟨j, hj, hj2⟩ := List.mem_iff_getElem.1 hw
      have hz : (plZ m ws)[j + 1]? = some w := by
        rw [plZ, List.getElem?_cons_succ, List.getElem?_append_left hj, List.getElem?_eq_getElem hj, hj2]
      rcases Nat.lt_or_ge (j + 1) (i + 1) with hc | hc
      · rcases Nat.lt_or_ge (j + 1) i with hd | hd
        · have := plZ_lt m1 h (i - (j + 1) - 1) (j + 1) w x hz (by rw [show j + 1 + (i - (j + 1) - 1) + 1 = i by omega]; exact hx); omega
        · have e : j + 1 = i := by omega
          rw [e, hx] at hz; injection hz with hz; omega
      · rcases Nat.lt_or_ge (i + 1) (j + 1) with hd | hd
        · have := plZ_lt m1 h (j + 1 - (i + 1) - 1) (i + 1) y w hy (by rw [show i + 1 + (j + 1 - (i + 1) - 1) + 1 = j + 1 by omega]; exact hz); omega
        · have e : j + 1 = i + 1 := by omega
          rw [e, hy] at hz; injection hz with hz; omega
    unfold stZ
    rw [if_pos (by omega)]
    split
    · rfl
    · refine st_no m1 h hx hy hg f _ _ ?_
      rcases nxZ_in ws (a + t) a with e | ⟨e1, e2⟩
      · omega
      · exact hw _ e1 e2
def zAt (m : Int) (ws : List Int) (i : Nat) : Int := (plZ m ws).getD i 0
theorem zAt_get {m : Int} {ws : List Int} {i : Nat} (h : i < ws.length + 2) : (plZ m ws)[i]? = some (zAt m ws i) := by
  rw [zAt, List.getD_eq_getElem?_getD, List.getElem?_eq_getElem (by rw [plZ_len]; exact h)]; rfl
theorem zAt_lt {m : Int} {ws : List Int} (m1 : 1 ≤ m) (h : risB m 0 ws = true) {i j : Nat} (hij : i < j) (hj : j < ws.length + 2) : zAt m ws i < zAt m ws j :=
  plZ_lt m1 h (j - i - 1) i _ _ (zAt_get (by omega)) (by rw [show i + (j - i - 1) + 1 = j by omega]; exact zAt_get hj)
theorem zAt_last (m : Int) (ws : List Int) : zAt m ws (ws.length + 1) = m := by
  rw [zAt, List.getD_eq_getElem?_getD, plZ, List.getElem?_cons_succ, List.getElem?_append_right (Nat.le_refl _), Nat.sub_self]; rfl
theorem zAt_well {m : Int} {ws : List Int} {i : Nat} (h1 : 1 ≤ i) (h2 : i < ws.length + 1) : ws[i - 1]? = some (zAt m ws i) := by
  have h := zAt_get (m := m) (ws := ws) (i := i) (by omega)
  obtain ⟨j, rfl⟩ : ∃ j, i = j + 1 := ⟨i - 1, by omega⟩
  rw [plZ, List.getElem?_cons_succ, List.getElem?_append_left (by omega)] at h
  simpa using h
theorem atP_sh {m t : Int} (t1 : 1 ≤ t) (t2 : t ≤ 10) {ws : List Int} {i : Nat} (h : i < ws.length + 2) : atP9 (shA t m).1 (shA t m).2 (rdL t ws) i = shA t (zAt m ws i) := by
  rw [atP9, List.getD_eq_getElem?_getD, plL_sh t1 t2, List.getElem?_map, zAt_get h]; rfl
theorem nrI_sh {m t : Int} (m1 : 1 ≤ m) (m2 : m ≤ 10) (t1 : 1 ≤ t) (t2 : t ≤ 10) {ws : List Int} (h : risB m 0 ws = true) {i j : Nat} (hij : i ≤ j) (hj : j < ws.length + 2) :
    nrI (shA t m).1 (shA t m).2 (rdL t ws) i j = decide (zAt m ws j - zAt m ws i ≤ t) := by
  have bi := plZ_bd m1 h (List.mem_of_getElem? (zAt_get (m := m) (ws := ws) (i := i) (by omega)))
  have bj := plZ_bd m1 h (List.mem_of_getElem? (zAt_get (m := m) (ws := ws) (i := j) hj))
  rw [nrI, atP_sh t1 t2 (by omega), atP_sh t1 t2 hj]
  refine sh_nrI t1 t2 (by omega) ?_ (by omega)
  rcases Nat.lt_or_ge i j with hc | hc
  · exact Int.le_of_lt (zAt_lt m1 h hc hj)
  · rw [show i = j by omega]; exact Int.le_refl _
/-- The greedy run makes as many stops. -/
theorem st_yes {m t : Int} (m1 : 1 ≤ m) (m2 : m ≤ 10) (t1 : 1 ≤ t) (t2 : t ≤ 10) {ws : List Int} (h : risB m 0 ws = true) (hc : CanP (shA t m).1 (shA t m).2 (rdL t ws)) :
    ∀ (f g i : Nat) (s : Int), i < ws.length + 1 → ws.length ≤ f + i → ws.length + 1 ≤ g + i → stZ m ws t g (zAt m ws i) s = s + (grR (shA t m).1 (shA t m).2 (rdL t ws) f i).length := by
  have hl : (rdL t ws).length = ws.length := by rw [rdL, List.length_map]
  intro f
  induction f with
  | zero =>
    intro g i s hi hf hg
    have e : i = ws.length := by omega
    subst e
    obtain ⟨g', rfl⟩ : ∃ g', g = g' + 1 := ⟨g - 1, by omega⟩
    have h1 := nrI_one hc (i := ws.length) (by omega)
    rw [nrI_sh m1 m2 t1 t2 h (by omega) (by omega), decide_eq_true_eq, zAt_last] at h1
    unfold stZ
    rw [if_neg (by omega)]
    simp [grR]
  | succ f ih =>
    intro g i s hi hf hg
    obtain ⟨g', rfl⟩ : ∃ g', g = g' + 1 := ⟨g - 1, by omega⟩
    unfold grR stZ
    rw [hl, nrI_sh m1 m2 t1 t2 h (by omega) (by omega), zAt_last]
    simp only [decide_eq_true_eq]
    by_cases hn : m - zAt m ws i ≤ t
    · rw [if_pos hn, if_neg (by omega)]; simp
    · rw [if_neg hn, if_pos (by omega)]
      have hG := grN_is hc (i := i) (by omega) (by rw [hl, nrI_sh m1 m2 t1 t2 h (by omega) (by omega), zAt_last]; simpa using hn)
      obtain ⟨x, hx⟩ : ∃ x, grN (shA t m).1 (shA t m).2 (rdL t ws) i = x := ⟨_, rfl⟩
      rw [hx] at hG ⊢
      have g1 := hG.lt
      have g2 := hG.le
      rw [hl] at g2
      have g3 := hG.yes
      rw [nrI_sh m1 m2 t1 t2 h (by omega) (by omega), decide_eq_true_eq] at g3
      have hlt := zAt_lt m1 h g1 (by omega)
      have e : nxZ ws (zAt m ws i + t) (zAt m ws i) = zAt m ws x := by
        refine nxZ_is (List.mem_of_getElem? (zAt_well (m := m) (by omega) g2)) (by omega) (by omega) (fun w hw hwl => ?_)
        obtain ⟨j, hj, hj2⟩ := List.mem_iff_getElem.1 hw
        have hz : w = zAt m ws (j + 1) := by
          have := zAt_well (m := m) (ws := ws) (i := j + 1) (by omega) (by omega)
          rw [show j + 1 - 1 = j by omega, List.getElem?_eq_getElem hj, hj2] at this
          injection this
        subst hz
        rcases Nat.lt_or_ge x (j + 1) with hd | hd
        · have g4 := hG.no (j + 1) hd (by omega)
          rw [nrI_sh m1 m2 t1 t2 h (by omega) (by omega)] at g4
          have := of_decide_eq_false g4
          omega
        · rcases Nat.lt_or_ge (j + 1) x with hd2 | hd2
          · exact Int.le_of_lt (zAt_lt m1 h hd2 (by omega))
          · rw [show j + 1 = x by omega]; exact Int.le_refl _
      rw [e, if_neg (by omega), ih g' x (s + 1) g2 (by omega) (by omega)]
      simp
      omega
/-- How stops on the road of wells go with those told by miles. -/
theorem stops_is {m t : Int} (m1 : 1 ≤ m) (m2 : m ≤ 10) (t1 : 1 ≤ t) (t2 : t ≤ 10) {ws : List Int} (h : risB m 0 ws = true) :
    (cgB (shA t m).1 (shA t m).2 (rdL t ws) = true ∧ stopsZ m ws t = (grL (shA t m).1 (shA t m).2 (rdL t ws)).length) ∨ (cgB (shA t m).1 (shA t m).2 (rdL t ws) = false ∧ stopsZ m ws t = -1 ∧ grL (shA t m).1 (shA t m).2 (rdL t ws) = []) := by
  have h9 := ris_len9 m2 h
  cases hc : cgB (shA t m).1 (shA t m).2 (rdL t ws)
  · right
    refine ⟨rfl, ?_, by simp [grL, hc]⟩
    have hn : ¬ ∀ (i : Nat) (x y : Int), (plZ m ws)[i]? = some x → (plZ m ws)[i + 1]? = some y → y - x ≤ t := by
      rw [← can_ok m1 m2 t1 t2 h, hc]; simp
    obtain ⟨i, hi⟩ := Classical.not_forall.1 hn
    obtain ⟨x, hi⟩ := Classical.not_forall.1 hi
    obtain ⟨y, hi⟩ := Classical.not_forall.1 hi
    have ⟨hx, hi⟩ := Classical.not_imp.1 hi
    have ⟨hy, hi⟩ := Classical.not_imp.1 hi
    refine st_no m1 h hx hy (by omega) 11 0 0 ?_
    exact (plZ_bd m1 h (List.mem_of_getElem? hx)).1
  · left
    refine ⟨rfl, ?_⟩
    have := st_yes m1 m2 t1 t2 h (canP_of hc) ((rdL t ws).length + 1) 11 0 0 (by omega) (by rw [rdL, List.length_map]; omega) (by omega)
    rw [show zAt m ws 0 = 0 by rfl] at this
    rw [stopsZ, this, grL, if_pos hc, List.length_map]
    simp [grS]
/-- The greatest distance. -/
def gpZ : List Int → Int → Int → Int
  | [], _, x => x
  | w :: l, a, x => gpZ l w (max x (w - a))
def gapZ (m : Int) (ws : List Int) : Int := gpZ (ws ++ [m]) 0 0
theorem gap_fold {m : Int} (m2 : m ≤ 10) : ∀ (l : List Int) (a x : Int), 0 ≤ a → a ≤ 10 → 0 ≤ x → x ≤ 10 → risB (m + 1) a l = true → lgF (gpL (l.map (shA 1)) (shA 1 a)) (x, 1) = (gpZ l a x, 1)
  | [], a, x, _, _, _, _, _ => rfl
  | w :: l, a, x, a0, a1, x0, x1, h => by
    obtain ⟨h1, h2, h3⟩ := risB_cons h
    have e1 : shA 1 a = (a, 1) := by obtain ⟨b, rfl, hb⟩ := nat_of a0 a1; exact sh_one b hb
    have e2 : shA 1 w = (w, 1) := by obtain ⟨b, rfl, hb⟩ := nat_of (x := w) (by omega) (by omega); exact sh_one b hb
    have e3 : difP (a, 1) (w, 1) = (w - a, 1) := by
      obtain ⟨b, rfl, hb⟩ := nat_of a0 a1; obtain ⟨c, rfl, hc⟩ := nat_of (x := w) (by omega) (by omega)
      exact sh_dif b hb c hc (by omega)
    have e4 : mxP (x, 1) (w - a, 1) = (max x (w - a), 1) := by
      obtain ⟨b, rfl, hb⟩ := nat_of x0 x1; obtain ⟨c, hc, hc2⟩ := nat_of (x := w - a) (by omega) (by omega)
      rw [hc]; exact sh_mx b hb c hc2
    have ih := gap_fold m2 l w (max x (w - a)) (by omega) (by omega) (by omega) (by omega) h3
    rw [List.map_cons, e1, e2, gpL, e3]
    show lgF (gpL (l.map (shA 1)) (w, 1)) (mxP (x, 1) (w - a, 1)) = _
    rw [e4, ← e2, ih]
    rfl
theorem gap_is {m : Int} (m1 : 1 ≤ m) (m2 : m ≤ 10) {ws : List Int} (h : risB m 0 ws = true) : (lgO (shA 1 m).1 (shA 1 m).2 (rdL 1 ws)).1 = gapZ m ws := by
  have hr := rd_ok m1 m2 (t := 1) (by omega) (by omega) h
  have hs := ris_snoc (by omega : (0 : Int) < m) h
  have := gap_fold m2 (ws ++ [m]) 0 0 (by omega) (by omega) (by omega) (by omega) hs
  rw [sh_0I (by omega) (by omega), List.map_append] at this
  unfold lgO
  rw [if_pos hr]
  show (lgF (gpL (rdL 1 ws ++ [shA 1 m]) (0, 1)) (0, 1)).1 = _
  rw [show rdL 1 ws ++ [shA 1 m] = List.map (shA 1) ws ++ List.map (shA 1) [m] from rfl, this]
  rfl
/-- Do wells fit a clue? -/
def hasB (ws : List Int) (a : Int) : Bool := ws.any (fun x => decide (x = a))
def fitB (m : Int) (p : ClueV) (ws : List Int) : Bool :=
  if p.k = 0 then hasB ws p.a else if p.k = 1 then !hasB ws p.a else if p.k = 2 then decide ((ws.length : Int) = p.a) else if p.k = 3 then decide (stopsZ m ws p.a = p.b) else if p.k = 4 then decide (stopsZ m ws p.a < 0) else decide (gapZ m ws = p.a)
def fitL (m : Int) (cs : List ClueV) (ws : List Int) : Bool := cs.all (fun p => fitB m p ws)
/-- All wells that fit some clues, in order. -/
def solL (m : Int) (cs : List ClueV) : List (List Int) := (wsA m).filter (fitL m cs)
theorem solL_nil (m : Int) : solL m [] = wsA m := by simp [solL, fitL]
theorem solL_snoc (m : Int) (cs : List ClueV) (p : ClueV) : solL m (cs ++ [p]) = (solL m cs).filter (fitB m p) := by
  simp only [solL, List.filter_filter]
  refine List.filter_congr (fun ws _ => ?_)
  simp only [fitL, List.all_append, List.all_cons, List.all_nil, Bool.and_true]
  cases cs.all (fun p => fitB m p ws) <;> cases fitB m p ws <;> rfl
theorem solL_len {m : Int} (h : m ≤ 10) (cs : List ClueV) : (solL m cs).length ≤ 512 := Nat.le_trans (List.length_filter_le ..) (wsA_len h)
theorem solL_ris {m : Int} (h : 1 ≤ m) {cs : List ClueV} {ws : List Int} (hw : ws ∈ solL m cs) : risB m 0 ws = true := wsA_ris h (List.mem_filter.1 hw).1
end Go.Proofs.Ytiafmojmanhdoaa

/- Puzzles: wells that are read, stops and distances, of the model. -/
namespace Go.Proofs.Ytiafmojmanhdoaa
open Go.ChangeShapes Go.WideShapes Go.ChangeAt Go.RowKit Go.Joins
set_option maxRecDepth 100000
set_option linter.unusedVariables false
set_option linter.unusedSimpArgs false

/-- Whole numbers that lie behind an address, if there are any. -/
def IntsAt (w : World) (a0 : Option Addr) (l : List Int) : Prop := ∀ (k : Nat) (x : Int), l[k]? = some x → ∃ a : Addr, a0 = some a ∧ w.cell? (a.add k) = some (.int .i64 x) ∧ -9223372036854775808 ≤ x ∧ x ≤ 9223372036854775807
theorem ints_of {w : World} {v : Value} {l : List Int} (h : RowG 1 fInt w v l) : ∃ a0 c0, v = .slice a0 l.length c0 ∧ l.length ≤ c0 ∧ c0 ≤ 9223372036854775807 ∧ IntsAt w a0 l := by
  rcases h with ⟨rfl, rfl⟩ | ⟨a, cap, rfl, hL⟩
  · exact ⟨none, 0, rfl, by simp, by simp, fun k x hx => by simp at hx⟩
  · refine ⟨some a, cap, rfl, hL.hlc, hL.hcap, fun k x hx => ?_⟩
    have hc := hL.hcell k x hx 0 x rfl
    rw [Nat.mul_one, Nat.add_zero] at hc
    have hb := hL.hbd x (List.mem_of_getElem? hx) x (by simp [fInt])
    exact ⟨a, rfl, hc, hb⟩
theorem IntsAt.later {w w' : World} {a0 : Option Addr} {l : List Int} (h : IntsAt w a0 l) (hb : Below w.heap.size w w') : IntsAt w' a0 l := by
  intro k x hx
  obtain ⟨a, e, hc, hbd⟩ := h k x hx
  exact ⟨a, e, (hb.cell (cell_lt hc)).trans hc, hbd⟩
theorem most9 (a b : Int) (w : World) :
    Calls Try.prog 99 #[.int .i64 a, .int .i64 b] w fun e w' => e = .returned (.int .i64 (max a b)) ∧ w = w' := by
  by_cases h : b < a
  · have e : max a b = a := by omega
    rw [e]
    go_enter Try.func99, Try.ntmps99
    go_wp2
    go_ret
    exact ⟨rfl, rfl⟩
  · have e : max a b = b := by omega
    rw [e]
    go_enter Try.func99, Try.ntmps99
    go_wp2
    go_ret
    exact ⟨rfl, rfl⟩
theorem hasB_take {l : List Int} {k : Nat} {p x : Int} (hp : l[k]? = some p) (h : hasB (l.take k) x = false) (hne : p ≠ x) : hasB (l.take (k + 1)) x = false := by
  rw [List.take_add_one, hp]
  simp only [hasB, List.any_append, Option.toList, List.any_cons, List.any_nil, Bool.or_false] at h ⊢
  rw [h]; simpa using hne
theorem hasB_yes {l : List Int} {k : Nat} {x : Int} (hp : l[k]? = some x) : hasB l x = true := by
  simp only [hasB, List.any_eq_true, decide_eq_true_eq]
  exact ⟨x, List.mem_of_getElem? hp, rfl⟩
set_option maxHeartbeats 1600000 in
theorem has_spec (x : Int) (v : Value) (l : List Int) (w : World) (h : RowG 1 fInt w v l) :
    Calls Try.prog 73 #[v, .int .i64 x] w fun e w' => e = .returned (.bool (hasB l x)) ∧ w = w' := by
  obtain ⟨a0, c0, rfl, hl1, hl2, hI⟩ := ints_of h
  have HI := Lib.hid hI
  clear h hI
  obtain ⟨R, hR⟩ : ∃ R, Hid (hasB l x = R) := ⟨_, Lib.hid rfl⟩
  rw [hR.out]
  go_enter Try.func73, Try.ntmps73
  go_wp2
  go_loopw [9] (fun i wr => ∃ k : Nat, k ≤ l.length ∧ i = .int .i64 k ∧ Hid (hasB (l.take k) x = false) ∧ w = wr) (fun i _ => l.length - (intOf i).toNat)
  case atStart => exact ⟨0, Nat.zero_le _, rfl, Lib.hid (by simp [hasB]), rfl⟩
  case round =>
    obtain ⟨k, hk, rfl, hall, rfl⟩ := hrel
    by_cases hlt : k < l.length
    · obtain ⟨p, hp⟩ : ∃ p, l[k]? = some p := ⟨_, List.getElem?_eq_getElem hlt⟩
      obtain ⟨a, rfl, e0, b1, b2⟩ := HI.out k p hp
      by_cases hpx : p = x
      · subst hpx
        have hyes : Hid (R = true) := Lib.hid (by rw [← hR.out]; exact hasB_yes hp)
        clear hp hall
        go_wp2
        refine bodyPost_ret (v := .bool true) (by simp only [results, Try.results73]; go_simp) rfl ?_
        exact ⟨by rw [hyes.out], rfl⟩
      · have hnext := Lib.hid (hasB_take hp hall.out hpx)
        clear hp hall
        go_wp2
        go_roundw
        case rel => exact ⟨k + 1, by omega, by go_num, hnext, trivial⟩
        case measure => simp [intOf]; omega
    · have hno : Hid (R = false) := by
        refine Lib.hid ?_
        rw [← hR.out]
        have := hall.out
        rwa [List.take_of_length_le (by omega)] at this
      clear hall
      go_wp2
      refine bodyPost_ret (v := .bool false) (by simp only [results, Try.results73]; go_simp) rfl ?_
      exact ⟨by rw [hno.out], rfl⟩
/-- How many more steps the run of stops may have. -/
theorem stZ_step {m t : Int} {ws : List Int} {f : Nat} {a s : Int} (h : stZ m ws t (f + 1) a s = stZ m ws t (f + 1) a s) : True := trivial
theorem stZ_done {m t : Int} {ws : List Int} {f : Nat} {a s : Int} (h : ¬ a + t < m) : stZ m ws t (f + 1) a s = s := by unfold stZ; rw [if_neg h]
theorem stZ_stuck {m t : Int} {ws : List Int} {f : Nat} {a s : Int} (h : a + t < m) (hn : nxZ ws (a + t) a = a) : stZ m ws t (f + 1) a s = -1 := by unfold stZ; rw [if_pos h, if_pos hn]
theorem stZ_go {m t : Int} {ws : List Int} {f : Nat} {a s : Int} (h : a + t < m) (hn : nxZ ws (a + t) a ≠ a) : stZ m ws t (f + 1) a s = stZ m ws t f (nxZ ws (a + t) a) (s + 1) := by
  show (if a + t < m then (if nxZ ws (a + t) a = a then -1 else stZ m ws t f (nxZ ws (a + t) a) (s + 1)) else s) = _
  rw [if_pos h, if_neg hn]
theorem nxZ_take {l : List Int} {k : Nat} {p lim a : Int} (hp : l[k]? = some p) : nxZ (l.take (k + 1)) lim a = if p ≤ lim then max (nxZ (l.take k) lim a) p else nxZ (l.take k) lim a := by
  rw [List.take_add_one, hp]; exact nxZ_snoc ..
theorem nxZ_bd {ws : List Int} {m a lim : Int} (h : ∀ x ∈ ws, 0 ≤ x ∧ x ≤ m) (ha : 0 ≤ a) (hm : a ≤ m) (k : Nat) : a ≤ nxZ (ws.take k) lim a ∧ nxZ (ws.take k) lim a ≤ m := by
  refine ⟨(nxZ_ge _ _ _).1, ?_⟩
  rcases nxZ_in (ws.take k) lim a with e | ⟨e, _⟩
  · omega
  · exact (h _ (List.mem_of_mem_take e)).2
set_option maxHeartbeats 3200000 in
theorem stops_spec (m t : Int) (m1 : 1 ≤ m) (m2 : m ≤ 10) (t1 : 1 ≤ t) (t2 : t ≤ 10) (v : Value) (l : List Int) (hr : risB m 0 l = true) (w : World) (h : RowG 1 fInt w v l) :
    Calls Try.prog 74 #[.int .i64 m, v, .int .i64 t] w fun e w' => e = .returned (.int .i64 (stopsZ m l t)) ∧ w = w' := by
  obtain ⟨a0, c0, rfl, hl1, hl2, hI⟩ := ints_of h
  have HI := Lib.hid hI
  have HB := Lib.hid (show ∀ x ∈ l, 0 ≤ x ∧ x ≤ m from fun x hx => by have := ris_bd hr x hx; omega)
  clear h hI hr
  obtain ⟨R, hR⟩ : ∃ R, Hid (stopsZ m l t = R) := ⟨_, Lib.hid rfl⟩
  rw [hR.out]
  go_enter Try.func74, Try.ntmps74
  go_wp2
  go_loopw [7, 8] (fun a s wr => ∃ (f : Nat) (A S : Int), a = .int .i64 A ∧ s = .int .i64 S ∧ 0 ≤ A ∧ A ≤ m ∧ m < A + f ∧ 0 ≤ S ∧ S ≤ A ∧ Hid (stZ m l t f A S = R) ∧ w = wr) (fun a _ _ => (m - intOf a).toNat)
  case atStart => exact ⟨11, 0, 0, rfl, rfl, by omega, by omega, by omega, by omega, by omega, hR, rfl⟩
  case round =>
    obtain ⟨f, A, S, rfl, rfl, hA0, hA1, hf, hS0, hS1, hst, rfl⟩ := hrel
    obtain ⟨f', rfl⟩ : ∃ f', f = f' + 1 := ⟨f - 1, by omega⟩
    by_cases hlt : A + t < m
    · go_wp2
      go_loopw [9, 20] (fun x i wi => ∃ k : Nat, k ≤ l.length ∧ i = .int .i64 k ∧ x = .int .i64 (nxZ (l.take k) (A + t) A) ∧ w = wi) (fun _ i _ => l.length - (intOf i).toNat)
      case atStart => exact ⟨0, Nat.zero_le _, rfl, by simp [nxZ], rfl⟩
      case round =>
        obtain ⟨k, hk, rfl, rfl, rfl⟩ := hrel
        by_cases hkl : k < l.length
        · obtain ⟨p, hp⟩ : ∃ p, l[k]? = some p := ⟨_, List.getElem?_eq_getElem hkl⟩
          obtain ⟨a, rfl, e0, b1, b2⟩ := HI.out k p hp
          have hs := Lib.hid (nxZ_take (lim := A + t) (a := A) hp)
          clear hp
          by_cases hpl : p ≤ A + t
          · go_wp2_with (go_at_call 99; refine (most9 _ _ _).mono ?_; rintro e w2 ⟨rfl, rfl⟩)
            go_roundw
            case rel => exact ⟨k + 1, by omega, by go_num, by rw [hs.out, if_pos hpl], trivial⟩
            case measure => simp [intOf]; omega
          · go_wp2
            go_roundw
            case rel => exact ⟨k + 1, by omega, by go_num, by rw [hs.out, if_neg hpl], trivial⟩
            case measure => simp [intOf]; omega
        · have hb := nxZ_bd (lim := A + t) HB.out hA0 hA1 k
          have ek : l.take k = l := List.take_of_length_le (by omega)
          rw [ek] at hb ⊢
          clear ek
          by_cases hn : nxZ l (A + t) A = A
          · have hfin : Hid (R = -1) := Lib.hid (by rw [← hst.out]; exact stZ_stuck hlt hn)
            rw [hn]
            clear hn hb
            go_wp2
            refine bodyPost_ret (v := .int .i64 (-1)) (by simp only [results, Try.results74]; go_simp) rfl ?_
            exact ⟨by rw [hfin.out], rfl⟩
          · have hfin : Hid (stZ m l t f' (nxZ l (A + t) A) (S + 1) = R) := Lib.hid (by rw [← hst.out]; exact (stZ_go hlt hn).symm)
            generalize nxZ l (A + t) A = N at *
            go_wp2
            go_roundw
            case rel => exact ⟨f', N, S + 1, rfl, rfl, by omega, by omega, by omega, by omega, by omega, hfin, trivial⟩
            case measure => simp [intOf]; omega
    · have hfin : Hid (R = S) := Lib.hid (by rw [← hst.out]; exact stZ_done hlt)
      go_wp2
      refine bodyPost_ret (v := .int .i64 S) (by simp only [results, Try.results74]; go_simp) rfl ?_
      exact ⟨by rw [hfin.out], rfl⟩
set_option maxHeartbeats 1600000 in
/-- A copy of its own. -/
theorem own_spec (v : Value) (l : List Int) (hl : l.length ≤ 1000) (w : World) (h : RowG 1 fInt w v l) :
    Calls Try.prog 100 #[v] w (EndL 3 1 fInt l w) := by
  obtain ⟨i0, hi, hz0, hz1, hz2⟩ := info_parts infoInt
  rcases h with ⟨rfl, rfl⟩ | ⟨a, cap, rfl, hL⟩
  · go_enter Try.func100, Try.ntmps100
    go_wp2_with (at_builtin; refine wpList_append_own_none rfl _ _ 24 rfl w.heap.size 3 i0 1 Try.underlying24 hi (.slice (some ⟨w.heap.size, 0, none⟩) 0 0) 0 [] rfl ?own rfl ?_)
    case own => exact World.ownsRow_made (size := 1) w #[] 0 (Nat.le_refl _) (by unfold maxLen; omega) rfl
    go_wp2
    go_ret
    exact ⟨_, rfl, World.ownsRow_made (size := 1) w #[] 0 (Nat.le_refl _) (by unfold maxLen; omega) rfl, by (repeat (first | with_reducible exact Below.refl _ _ | with_reducible assumption | with_reducible refine balloc ?_ _ | with_reducible refine bdrew ?_ | with_reducible refine below_drewN ?_ _ | with_reducible refine bset ?_ ?_ _ | with_reducible exact Nat.le_refl _ | with_reducible refine bsize ?_ | (dsimp only; refine Nat.le_trans ?_ (Nat.le_add_right _ _)) | with_reducible refine Nat.le_trans ?_ (Nat.le_add_right _ _) | (with_reducible refine bstep ?_ (by assumption))))⟩
  · have hlc := hL.hlc
    have hcap := hL.hcap
    have HL := Lib.hid hL
    clear hL
    obtain ⟨n, hn⟩ : ∃ n, l.length = n := ⟨_, rfl⟩
    have hn2 := Lib.hid hn
    rw [hn] at hlc hl ⊢
    clear hn
    go_enter Try.func100, Try.ntmps100
    go_wp2_with (at_builtin; refine wpList_append_own _ rfl _ _ 24 rfl w.heap.size 3 i0 (.int .i64 0) 1 8 Try.underlying24 hi hz0 hz1 hz2 rfl (by decide) (.slice (some ⟨w.heap.size, 0, none⟩) 0 0) 0 [] rfl ?own a n cap (cellsG fInt l) rfl ?c0 ?c1 (cellsG_one _ _) ?c3 ?c4 ?c5 ?_)
    case own => exact World.ownsRow_made (size := 1) w #[] 0 (Nat.le_refl _) (by unfold maxLen; omega) rfl
    case c0 => rw [cellsG_len fInt_len, hn2.out]
    case c1 => exact liesG_cells fInt_len (by decide) (liesG_below HL.out (by (repeat (first | with_reducible exact Below.refl _ _ | with_reducible assumption | with_reducible refine balloc ?_ _ | with_reducible refine bdrew ?_ | with_reducible refine below_drewN ?_ _ | with_reducible refine bset ?_ ?_ _ | with_reducible exact Nat.le_refl _ | with_reducible refine bsize ?_ | (dsimp only; refine Nat.le_trans ?_ (Nat.le_add_right _ _)) | with_reducible refine Nat.le_trans ?_ (Nat.le_add_right _ _) | (with_reducible refine bstep ?_ (by assumption))))))
    case c3 => unfold maxLen; omega
    case c4 => omega
    case c5 => first | (simp; done) | (simp; omega)
    intro v' w4 hown' hgrow hnn
    have hbel : Below w.heap.size w w4 := grown_bel (base := w.heap.size) (by (repeat (first | with_reducible exact Below.refl _ _ | with_reducible assumption | with_reducible refine balloc ?_ _ | with_reducible refine bdrew ?_ | with_reducible refine below_drewN ?_ _ | with_reducible refine bset ?_ ?_ _ | with_reducible exact Nat.le_refl _ | with_reducible refine bsize ?_ | (dsimp only; refine Nat.le_trans ?_ (Nat.le_add_right _ _)) | with_reducible refine Nat.le_trans ?_ (Nat.le_add_right _ _) | (with_reducible refine bstep ?_ (by assumption))))) hgrow (World.ownsRow_made (size := 1) w #[] 0 (Nat.le_refl _) (by unfold maxLen; omega) rfl) (Nat.le_refl _)
    have hown2 : w4.ownsRow w.heap.size 3 1 v' l.length (cellsG fInt l) := by rw [hn2.out]; simpa using hown'
    clear hown' hgrow hnn
    go_wp2
    go_ret
    exact ⟨_, rfl, hown2, hbel⟩
set_option maxHeartbeats 3200000 in
theorem gap_spec (m : Int) (m1 : 1 ≤ m) (m2 : m ≤ 10) (v : Value) (l : List Int) (hr : risB m 0 l = true) (w : World) (h : RowG 1 fInt w v l) :
    Calls Try.prog 75 #[.int .i64 m, v] w fun e w' => e = .returned (.int .i64 (gapZ m l)) ∧ Below w.heap.size w w' := by
  obtain ⟨i0, hi, hz0, hz1, hz2⟩ := info_parts infoInt
  have h9 := ris_len9 m2 hr
  have HO := Lib.hid (own_spec v l (by omega) w h)
  have HB := Lib.hid (show ∀ x ∈ l ++ [m], 0 ≤ x ∧ x ≤ m from fun x hx => by
    rcases List.mem_append.1 hx with hx | hx
    · have := ris_bd hr x hx; omega
    · simp at hx; omega)
  obtain ⟨a0, c0, rfl, hl1, hl2⟩ := row_shape h
  clear h hr
  obtain ⟨n, hn⟩ : ∃ n, l.length = n := ⟨_, rfl⟩
  have hn2 := Lib.hid hn
  rw [hn] at hl1 h9 ⊢
  obtain ⟨R, hR⟩ : ∃ R, Hid (gapZ m l = R) := ⟨_, Lib.hid rfl⟩
  rw [hR.out]
  rw [hn] at HO
  clear hn
  go_enter Try.func75, Try.ntmps75
  go_wp2_with fail
  refine HO.out.mono ?_
  rintro e w1 ⟨v1, rfl, hown1, hb1⟩
  rw [hn2.out] at hown1
  obtain ⟨a1, c1, rfl⟩ := owns_shape hown1
  have hsz := hb1.size
  go_wp2_with (at_builtin; refine wpList_append_own _ rfl _ _ 24 rfl w.heap.size 3 i0 (.int .i64 0) 1 8 Try.underlying24 hi hz0 hz1 hz2 rfl (by decide) _ _ _ rfl (hown1.alloc _) ⟨w1.heap.size, 0, none⟩ 1 1 [.int .i64 m] ?c0 rfl ?c1 ?c2 ?c3 ?c4 ?c5 ?_)
  case c0 => simp [Act.eval, Act.put]
  case c1 => first | exact cell_one_new _ _ _ | (intro k u hk; match k, hk with | 0, hk => (simp at hk; subst hk; simp [go_sem]))
  case c2 => simp [Value.oneCell']
  case c3 => unfold maxLen; omega
  case c4 => omega
  case c5 => first | (simp; omega) | omega
  intro v4 w4 hown' hgrow _
  have hbel4 : Below w.heap.size w w4 := by
    refine (hb1.alloc hsz _).grown hgrow ?_ (fun g e => own_block hown1 e)
    simp; omega
  have hown4 : w4.ownsRow w.heap.size 3 1 v4 (l ++ [m]).length (cellsG fInt (l ++ [m])) := by
    rw [List.length_append, hn2.out, cellsG_append]; exact hown'
  clear hown' hgrow
  obtain ⟨a4, c4, rfl, hc1, hc2, hI⟩ := ints_of (rowG_own fInt_len hown4 (fun p hp y hy => by simp [fInt] at hy; subst hy; have := HB.out y hp; omega))
  have HI := Lib.hid hI
  have hlen : (l ++ [m]).length = n + 1 := by rw [List.length_append, hn2.out]; rfl
  have hlen2 := Lib.hid hlen
  rw [hlen] at hc1 ⊢
  clear hI hown4 hlen hown1 HO
  have HR2 : Hid (gpZ (l ++ [m]) 0 0 = R) := hR
  generalize l ++ [m] = L at *
  go_wp2
  go_loopw [5, 6, 15] (fun a x i wr => ∃ (k : Nat) (A X : Int), k ≤ n + 1 ∧ i = .int .i64 k ∧ a = .int .i64 A ∧ x = .int .i64 X ∧ 0 ≤ A ∧ A ≤ m ∧ 0 ≤ X ∧ X ≤ m ∧ Hid (gpZ (L.drop k) A X = R) ∧ w4 = wr) (fun _ _ i _ => n + 1 - (intOf i).toNat)
  case atStart => exact ⟨0, 0, 0, Nat.zero_le _, rfl, rfl, rfl, by omega, by omega, by omega, by omega, HR2, rfl⟩
  case round =>
    obtain ⟨k, A, X, hk, rfl, rfl, rfl, hA0, hA1, hX0, hX1, hst, rfl⟩ := hrel
    by_cases hlt : k < n + 1
    · obtain ⟨p, hp⟩ : ∃ p, L[k]? = some p := ⟨_, List.getElem?_eq_getElem (by rw [hlen2.out]; exact hlt)⟩
      obtain ⟨a, rfl, e0, b1, b2⟩ := HI.out k p hp
      have hb := HB.out p (List.mem_of_getElem? hp)
      have hnext : Hid (gpZ (L.drop (k + 1)) p (max X (p - A)) = R) := by
        refine Lib.hid ?_
        rw [← hst.out, List.drop_eq_getElem_cons (i := k) (by rw [hlen2.out]; exact hlt)]
        rw [List.getElem?_eq_getElem (by rw [hlen2.out]; exact hlt)] at hp
        injection hp with hp
        rw [hp]; rfl
      clear hp
      go_wp2_with (go_at_call 99; refine (most9 _ _ _).mono ?_; rintro e w2 ⟨rfl, rfl⟩)
      go_roundw
      case rel => exact ⟨k + 1, p, max X (p - A), by omega, by go_num, rfl, rfl, by omega, by omega, by omega, by omega, hnext, trivial⟩
      case measure => simp [intOf]; omega
    · have hfin : Hid (R = X) := Lib.hid (by rw [← hst.out, List.drop_of_length_le (by rw [hlen2.out]; omega)]; rfl)
      go_wp2
      refine bodyPost_ret (v := .int .i64 X) (by simp only [results, Try.results75]; go_simp) rfl ?_
      exact ⟨by rw [hfin.out], hbel4⟩
theorem clP_k {m k a b : Int} (h : clB m k a b = true) : (k = 0 ∨ k = 1 ∨ k = 2 ∨ k = 3 ∨ k = 4 ∨ k = 5) ∧ (k = 3 ∨ k = 4 → 1 ≤ a ∧ a ≤ m) ∧ 0 ≤ a ∧ a ≤ m ∧ 0 ≤ b ∧ b ≤ m := by
  simp only [clB, ofB, inB, Bool.or_eq_true, Bool.and_eq_true, decide_eq_true_eq] at h
  omega
set_option maxHeartbeats 6400000 in
theorem fits_spec (m k a b : Int) (m1 : 1 ≤ m) (m2 : m ≤ 10) (hc : clB m k a b = true) (v : Value) (l : List Int) (hr : risB m 0 l = true) (w : World) (h : RowG 1 fInt w v l) :
    Calls Try.prog 52 #[.int .i64 m, .agg #[.int .i64 k, .int .i64 a, .int .i64 b], v] w fun e w' => e = .returned (.bool (fitB m ⟨k, a, b⟩ l)) ∧ Below w.heap.size w w' := by
  obtain ⟨hk, hab, ha0, ha1, hb0, hb1⟩ := clP_k hc
  have h9 := ris_len9 m2 hr
  have HH := Lib.hid (fun W (hB : Below w.heap.size w W) => has_spec a v l W (rowG_below h hB))
  have HG := Lib.hid (fun W (hB : Below w.heap.size w W) => gap_spec m m1 m2 v l hr W (rowG_below h hB))
  have HS := Lib.hid (fun (ht : 1 ≤ a ∧ a ≤ m) W (hB : Below w.heap.size w W) => stops_spec m a m1 m2 ht.1 (by omega) v l hr W (rowG_below h hB))
  obtain ⟨a0, c0, rfl, hl1, hl2⟩ := row_shape h
  clear h hr
  rcases hk with rfl | rfl | rfl | rfl | rfl | rfl
  · have e : fitB m ⟨0, a, b⟩ l = hasB l a := rfl
    rw [e]; clear e
    generalize hasB l a = R at *
    go_enter Try.func52, Try.ntmps52
    go_wp2_with fail
    refine (HH.out _ (by (repeat (first | with_reducible exact Below.refl _ _ | with_reducible assumption | with_reducible refine balloc ?_ _ | with_reducible refine bdrew ?_ | with_reducible refine below_drewN ?_ _ | with_reducible refine bset ?_ ?_ _ | with_reducible exact Nat.le_refl _ | with_reducible refine bsize ?_ | (dsimp only; refine Nat.le_trans ?_ (Nat.le_add_right _ _)) | with_reducible refine Nat.le_trans ?_ (Nat.le_add_right _ _) | (with_reducible refine bstep ?_ (by assumption)))))).mono ?_
    rintro e w1 ⟨rfl, rfl⟩
    go_wp2
    go_ret
    exact ⟨rfl, by (repeat (first | with_reducible exact Below.refl _ _ | with_reducible assumption | with_reducible refine balloc ?_ _ | with_reducible refine bdrew ?_ | with_reducible refine below_drewN ?_ _ | with_reducible refine bset ?_ ?_ _ | with_reducible exact Nat.le_refl _ | with_reducible refine bsize ?_ | (dsimp only; refine Nat.le_trans ?_ (Nat.le_add_right _ _)) | with_reducible refine Nat.le_trans ?_ (Nat.le_add_right _ _) | (with_reducible refine bstep ?_ (by assumption))))⟩
  · have e : fitB m ⟨1, a, b⟩ l = !hasB l a := rfl
    rw [e]; clear e
    generalize hasB l a = R at *
    go_enter Try.func52, Try.ntmps52
    go_wp2_with fail
    refine (HH.out _ (by (repeat (first | with_reducible exact Below.refl _ _ | with_reducible assumption | with_reducible refine balloc ?_ _ | with_reducible refine bdrew ?_ | with_reducible refine below_drewN ?_ _ | with_reducible refine bset ?_ ?_ _ | with_reducible exact Nat.le_refl _ | with_reducible refine bsize ?_ | (dsimp only; refine Nat.le_trans ?_ (Nat.le_add_right _ _)) | with_reducible refine Nat.le_trans ?_ (Nat.le_add_right _ _) | (with_reducible refine bstep ?_ (by assumption)))))).mono ?_
    rintro e w1 ⟨rfl, rfl⟩
    go_wp2
    go_ret
    exact ⟨rfl, by (repeat (first | with_reducible exact Below.refl _ _ | with_reducible assumption | with_reducible refine balloc ?_ _ | with_reducible refine bdrew ?_ | with_reducible refine below_drewN ?_ _ | with_reducible refine bset ?_ ?_ _ | with_reducible exact Nat.le_refl _ | with_reducible refine bsize ?_ | (dsimp only; refine Nat.le_trans ?_ (Nat.le_add_right _ _)) | with_reducible refine Nat.le_trans ?_ (Nat.le_add_right _ _) | (with_reducible refine bstep ?_ (by assumption))))⟩
  · have e : fitB m ⟨2, a, b⟩ l = decide ((l.length : Int) = a) := rfl
    rw [e]; clear e
    generalize l.length = n at *
    go_enter Try.func52, Try.ntmps52
    by_cases hq : (n : Int) = a
    all_goals
      go_wp2
      go_ret
      exact ⟨by simp [hq], by (repeat (first | with_reducible exact Below.refl _ _ | with_reducible assumption | with_reducible refine balloc ?_ _ | with_reducible refine bdrew ?_ | with_reducible refine below_drewN ?_ _ | with_reducible refine bset ?_ ?_ _ | with_reducible exact Nat.le_refl _ | with_reducible refine bsize ?_ | (dsimp only; refine Nat.le_trans ?_ (Nat.le_add_right _ _)) | with_reducible refine Nat.le_trans ?_ (Nat.le_add_right _ _) | (with_reducible refine bstep ?_ (by assumption))))⟩
  · have e : fitB m ⟨3, a, b⟩ l = decide (stopsZ m l a = b) := rfl
    rw [e]; clear e
    have HS2 := Lib.hid (HS.out (hab (Or.inl rfl)))
    clear hab HS
    generalize stopsZ m l a = S at *
    go_enter Try.func52, Try.ntmps52
    go_wp2_with fail
    by_cases hq : S = b
    all_goals
      go_region_held3 (fun W => Below w.heap.size w W ∧ W.cell? ⟨w.heap.size, 0, none⟩ = some (.int .i64 3) ∧ W.cell? ⟨w.heap.size, 1, none⟩ = some (.int .i64 a) ∧ W.cell? ⟨w.heap.size, 2, none⟩ = some (.int .i64 b)) (((go_split_ands; (repeat' with_reducible apply And.intro) <;> first | with_reducible assumption | with_reducible exact Below.refl _ _ | with_reducible exact Res8.drew (by with_reducible assumption) | with_reducible exact Res8.drew (Res8.alloc (by with_reducible assumption) _) | with_reducible exact Res8.alloc (by with_reducible assumption) _ | with_reducible exact (Res8.set (Res8.set (by with_reducible assumption) 0 _ (by omega)) 1 _ (by omega)) | with_reducible exact Res8.drew (Res8.set (Res8.set (by with_reducible assumption) 0 _ (by omega)) 1 _ (by omega)) | ((repeat (first | with_reducible exact Below.refl _ _ | with_reducible assumption | with_reducible refine balloc ?_ _ | with_reducible refine bdrew ?_ | with_reducible refine below_drewN ?_ _ | with_reducible refine bset ?_ ?_ _ | with_reducible exact Nat.le_refl _ | with_reducible refine bsize ?_ | (dsimp only; refine Nat.le_trans ?_ (Nat.le_add_right _ _)) | with_reducible refine Nat.le_trans ?_ (Nat.le_add_right _ _) | (with_reducible refine bstep ?_ (by assumption)))); done) | (simp [go_sem]; done) | (simp; omega) | (simp [go_sem, *]; done) | go_keep))) (first | (go_at_call 74; refine Calls.mono (HS2.out _ (by go_split_ands; assumption)) ?_; rintro e w1 ⟨rfl, rfl⟩))
      all_goals
        go_wp2
        go_ret
        exact ⟨by simp [hq], by (repeat (first | with_reducible exact Below.refl _ _ | with_reducible assumption | with_reducible refine balloc ?_ _ | with_reducible refine bdrew ?_ | with_reducible refine below_drewN ?_ _ | with_reducible refine bset ?_ ?_ _ | with_reducible exact Nat.le_refl _ | with_reducible refine bsize ?_ | (dsimp only; refine Nat.le_trans ?_ (Nat.le_add_right _ _)) | with_reducible refine Nat.le_trans ?_ (Nat.le_add_right _ _) | (with_reducible refine bstep ?_ (by assumption))))⟩
  · have e : fitB m ⟨4, a, b⟩ l = decide (stopsZ m l a < 0) := rfl
    rw [e]; clear e
    have HS2 := Lib.hid (HS.out (hab (Or.inr rfl)))
    clear hab HS
    generalize stopsZ m l a = S at *
    go_enter Try.func52, Try.ntmps52
    by_cases hq : S < 0
    all_goals
      go_wp2_with fail
      refine (HS2.out _ (by (repeat (first | with_reducible exact Below.refl _ _ | with_reducible assumption | with_reducible refine balloc ?_ _ | with_reducible refine bdrew ?_ | with_reducible refine below_drewN ?_ _ | with_reducible refine bset ?_ ?_ _ | with_reducible exact Nat.le_refl _ | with_reducible refine bsize ?_ | (dsimp only; refine Nat.le_trans ?_ (Nat.le_add_right _ _)) | with_reducible refine Nat.le_trans ?_ (Nat.le_add_right _ _) | (with_reducible refine bstep ?_ (by assumption)))))).mono ?_
      rintro e w1 ⟨rfl, rfl⟩
      go_wp2
      go_ret
      exact ⟨by simp [hq], by (repeat (first | with_reducible exact Below.refl _ _ | with_reducible assumption | with_reducible refine balloc ?_ _ | with_reducible refine bdrew ?_ | with_reducible refine below_drewN ?_ _ | with_reducible refine bset ?_ ?_ _ | with_reducible exact Nat.le_refl _ | with_reducible refine bsize ?_ | (dsimp only; refine Nat.le_trans ?_ (Nat.le_add_right _ _)) | with_reducible refine Nat.le_trans ?_ (Nat.le_add_right _ _) | (with_reducible refine bstep ?_ (by assumption))))⟩
  · have e : fitB m ⟨5, a, b⟩ l = decide (gapZ m l = a) := rfl
    rw [e]; clear e
    generalize gapZ m l = S at *
    go_enter Try.func52, Try.ntmps52
    go_wp2_with fail
    by_cases hq : S = a
    all_goals
      go_region_held3 (fun W => Below w.heap.size w W ∧ W.cell? ⟨w.heap.size, 0, none⟩ = some (.int .i64 5) ∧ W.cell? ⟨w.heap.size, 1, none⟩ = some (.int .i64 a) ∧ W.cell? ⟨w.heap.size, 2, none⟩ = some (.int .i64 b) ∧ w.heap.size < W.heap.size) (((go_split_ands; (repeat' with_reducible apply And.intro) <;> first | with_reducible assumption | with_reducible exact Below.refl _ _ | with_reducible exact Res8.drew (by with_reducible assumption) | with_reducible exact Res8.drew (Res8.alloc (by with_reducible assumption) _) | with_reducible exact Res8.alloc (by with_reducible assumption) _ | with_reducible exact (Res8.set (Res8.set (by with_reducible assumption) 0 _ (by omega)) 1 _ (by omega)) | with_reducible exact Res8.drew (Res8.set (Res8.set (by with_reducible assumption) 0 _ (by omega)) 1 _ (by omega)) | ((repeat (first | with_reducible exact Below.refl _ _ | with_reducible assumption | with_reducible refine balloc ?_ _ | with_reducible refine bdrew ?_ | with_reducible refine below_drewN ?_ _ | with_reducible refine bset ?_ ?_ _ | with_reducible exact Nat.le_refl _ | with_reducible refine bsize ?_ | (dsimp only; refine Nat.le_trans ?_ (Nat.le_add_right _ _)) | with_reducible refine Nat.le_trans ?_ (Nat.le_add_right _ _) | (with_reducible refine bstep ?_ (by assumption)))); done) | (simp [go_sem]; done) | (simp; omega) | (simp [go_sem, *]; done) | go_keep))) (first | (go_at_call 75; refine Calls.mono (HG.out _ (by go_split_ands; assumption)) ?_; rintro e w1 ⟨rfl, hb3⟩; go_split_ands; (have f0 : Below w.heap.size w w1 := bstep (by assumption) hb3); (have f1 := keepa hb3 (by assumption) (by assumption : _ = some (.int .i64 5))); (have f2 := keepa hb3 (by assumption) (by assumption : _ = some (.int .i64 a))); (have f3 := keepa hb3 (by assumption) (by assumption : _ = some (.int .i64 b))); (have f4 := Nat.lt_of_lt_of_le (by assumption) hb3.size)))
      all_goals
        go_wp2
        go_ret
        exact ⟨by simp [hq], by (repeat (first | with_reducible exact Below.refl _ _ | with_reducible assumption | with_reducible refine balloc ?_ _ | with_reducible refine bdrew ?_ | with_reducible refine below_drewN ?_ _ | with_reducible refine bset ?_ ?_ _ | with_reducible exact Nat.le_refl _ | with_reducible refine bsize ?_ | (dsimp only; refine Nat.le_trans ?_ (Nat.le_add_right _ _)) | with_reducible refine Nat.le_trans ?_ (Nat.le_add_right _ _) | (with_reducible refine bstep ?_ (by assumption))))⟩
end Go.Proofs.Ytiafmojmanhdoaa

/- Lists of lists of whole numbers that a call owns. -/
namespace Go.Proofs.Ytiafmojmanhdoaa
open Go.ChangeShapes Go.WideShapes Go.ChangeAt Go.RowKit Go.Joins
set_option maxRecDepth 100000
set_option linter.unusedVariables false
set_option linter.unusedSimpArgs false

abbrev ZL := List (Value × List Int)
def Apart (p q : Value × List Int) : Prop := ∀ g, p.1.ownBlock = some g → q.1.ownBlock ≠ some g
/-- Lists of whole numbers, each with the slice that tells it: every one a row of its own, all apart. -/
structure InR (lo : Nat) (W : World) (Z : ZL) : Prop where
  row : ∀ p ∈ Z, W.ownsRow lo 3 1 p.1 p.2.length (cellsG fInt p.2)
  far : Z.Pairwise Apart
structure RowsZ (lo : Nat) (W : World) (v : Value) (Z : ZL) : Prop where
  out : W.ownsRow lo 24 1 v Z.length (Z.map Prod.fst)
  inn : InR lo W Z
theorem infoSI : (Try.prog.info? 24).map (fun i => (i.zero, i.size, i.bytes)) = some (some (.slice none 0 0), 1, 24) := by kernel_rfl
theorem neT {W : World} {base e size n : Nat} {v : Value} {xs : List Value} (h : W.ownsRow base e size v n xs) {b : Nat} {cs : Array Value} {t : TypeId} {fz : Nat × Nat} (hb : W.heap[b]? = some (.cells cs t fz)) (ht : t ≠ e) : v.ownBlock ≠ some b := by
  intro hv
  rcases h.2 with ⟨rfl, _⟩ | ⟨g, cap, cur, rfl, _, hg, _⟩
  · simp [Value.ownBlock] at hv
  · simp [Value.ownBlock] at hv
    subst hv
    rw [hg] at hb
    injection hb with hb
    injection hb with _ e2 _
    exact ht e2.symm
/-- What is kept by a call that writes into rows of lists, and into box g, alone. -/
structure LkKeep (h0 : Nat) (g : Option Nat) (W w' : World) : Prop where
  os : w'.os = W.os
  tape : w'.tape = W.tape
  output : w'.output = W.output
  size : W.heap.size ≤ w'.heap.size
  low : ∀ b, b < h0 → w'.heap[b]? = W.heap[b]?
  typ : ∀ b cs e fz, W.heap[b]? = some (.cells cs e fz) → e ≠ 24 → g ≠ some b → w'.heap[b]? = some (.cells cs e fz)
theorem LkKeep.refl (h0 : Nat) (g : Option Nat) (W : World) : LkKeep h0 g W W := ⟨rfl, rfl, rfl, Nat.le_refl _, fun _ _ => rfl, fun _ _ _ _ h _ _ => h⟩
theorem LkKeep.trans {h0 : Nat} {g : Option Nat} {a b c : World} (h : LkKeep h0 g a b) (k : LkKeep h0 g b c) : LkKeep h0 g a c :=
  ⟨k.os.trans h.os, k.tape.trans h.tape, k.output.trans h.output, Nat.le_trans h.size k.size, fun i hi => (k.low i hi).trans (h.low i hi), fun i cs e fz hi he hg => k.typ i cs e fz (h.typ i cs e fz hi he hg) he hg⟩
theorem LkKeep.of {h0 : Nat} {g : Option Nat} {W w' : World} (hb : Below W.heap.size W w') (hh : h0 ≤ W.heap.size) : LkKeep h0 g W w' :=
  ⟨hb.os, hb.tape, hb.output, hb.size, fun b hl => hb.block b (by omega), fun b cs e fz hi _ _ => by rw [hb.block b (Array.getElem?_eq_some_iff.1 hi).1]; exact hi⟩
theorem LkKeep.grown {h0 : Nat} {g : Option Nat} {W w' : World} {v : Value} {n : Nat} {xs : List Value} (hg : W.grownBy w' v.ownBlock) (ho : W.ownsRow h0 24 1 v n xs) (hh : h0 ≤ W.heap.size) : LkKeep h0 g W w' :=
  ⟨hg.os, hg.tape, hg.output, hg.size, fun b hl => hg.block b (by omega) (fun e => by have := own_block ho e.symm; omega),
    fun b cs e fz hi he _ => by rw [hg.block b (Array.getElem?_eq_some_iff.1 hi).1 (fun e2 => neT ho hi he e2.symm)]; exact hi⟩
theorem LkKeep.set {h0 gg : Nat} (W : World) (v : Value) (hh : h0 ≤ gg) : LkKeep h0 (some gg) W (W.setCell ⟨gg, 0, none⟩ v) :=
  ⟨rfl, rfl, rfl, by simp, fun b hl => Below.heap_setCell W _ _ _ (by simp; omega), fun b cs e fz hi _ hg => by rw [Below.heap_setCell W _ _ _ (fun e => hg (by rw [e]))]; exact hi⟩
theorem LkKeep.below {h0 : Nat} {g : Option Nat} {W w' : World} (h : LkKeep h0 g W w') : Below h0 W w' := ⟨h.os, h.tape, h.output, h.size, h.low⟩
theorem LkKeep.row {h0 : Nat} {g : Option Nat} {W w' : World} (h : LkKeep h0 g W w') {base n : Nat} {v : Value} {xs : List Value} (ho : W.ownsRow base 3 1 v n xs) (hg : ∀ gg, g = some gg → v.ownBlock ≠ some gg) : w'.ownsRow base 3 1 v n xs := by
  refine ⟨ho.1, ?_⟩
  rcases ho.2 with h1 | ⟨g', cap, cur, rfl, hb, hc, rest⟩
  · exact Or.inl h1
  · exact Or.inr ⟨g', cap, cur, rfl, hb, h.typ g' cur 3 (0, 0) hc (by decide) (fun e => hg g' e rfl), rest⟩
theorem Blk.lk {h0 : Nat} {g : Option Nat} {W w' : World} {b : Nat} {cs : Array Value} {t : TypeId} (hb : Blk b cs t W) (h : LkKeep h0 g W w') (ht : t ≠ 24) (hg : g ≠ some b) : Blk b cs t w' := h.typ b cs t (0, 0) hb ht hg
theorem InR.lk {lo h0 : Nat} {g : Option Nat} {W w' : World} {Z : ZL} (h : InR lo W Z) (hk : LkKeep h0 g W w') (hg : ∀ gg, g = some gg → ∃ cs, Blk gg cs 36 W) : InR lo w' Z :=
  ⟨fun p hp => hk.row (h.row p hp) (fun gg e => by obtain ⟨cs, hb⟩ := hg gg e; exact neT (h.row p hp) hb (by decide)), h.far⟩
theorem InR.below {lo : Nat} {W w' : World} {Z : ZL} (h : InR lo W Z) (hb : Below W.heap.size W w') : InR lo w' Z := ⟨fun p hp => ownsRow_below (h.row p hp) hb, h.far⟩
theorem RowsZ.below {lo : Nat} {W w' : World} {v : Value} {Z : ZL} (h : RowsZ lo W v Z) (hb : Below W.heap.size W w') : RowsZ lo w' v Z := ⟨ownsRow_below h.out hb, h.inn.below hb⟩
theorem RowsZ.mono {lo lo2 : Nat} {W : World} {v : Value} {Z : ZL} (h : RowsZ lo W v Z) (hl : lo2 ≤ lo) : RowsZ lo2 W v Z := ⟨own_mono h.out hl, ⟨fun p hp => own_mono (h.inn.row p hp) hl, h.inn.far⟩⟩
theorem InR.nil (lo : Nat) (W : World) : InR lo W [] := ⟨by simp, List.Pairwise.nil⟩
theorem RowsZ.nil (lo : Nat) (W : World) : RowsZ lo W (.slice none 0 0) [] := ⟨World.ownsRow_nil W lo _ 1, InR.nil lo W⟩
theorem InR.lt {lo : Nat} {W : World} {Z : ZL} (h : InR lo W Z) : ∀ p ∈ Z, ∀ g, p.1.ownBlock = some g → g < W.heap.size := fun p hp g e => own_lt (h.row p hp) e
theorem InR.snoc {lo : Nat} {W : World} {Z : ZL} (h : InR lo W Z) {v : Value} {l : List Int} (ho : W.ownsRow lo 3 1 v l.length (cellsG fInt l)) (hB : ∀ p ∈ Z, ∀ g, p.1.ownBlock = some g → v.ownBlock ≠ some g) : InR lo W (Z ++ [(v, l)]) := by
  refine ⟨fun p hp => ?_, ?_⟩
  · rcases List.mem_append.1 hp with hp | hp
    · exact h.row p hp
    · simp at hp; subst hp; exact ho
  · rw [List.pairwise_append]
    refine ⟨h.far, by simp, fun p hp q hq => ?_⟩
    simp at hq; subst hq
    exact hB p hp
theorem InR.new {B : Nat} {W : World} {Z : ZL} (hB : ∀ p ∈ Z, ∀ g, p.1.ownBlock = some g → g < B) {v : Value} {n : Nat} {xs : List Value} (ho : W.ownsRow B 3 1 v n xs) : ∀ p ∈ Z, ∀ g, p.1.ownBlock = some g → v.ownBlock ≠ some g := by
  intro p hp g e hv
  have h1 := hB p hp g e
  have h2 := own_block ho hv
  omega
theorem InR.filter {lo : Nat} {W : World} {Z : ZL} (h : InR lo W Z) (P : Value × List Int → Bool) : InR lo W (Z.filter P) :=
  ⟨fun p hp => h.row p (List.mem_filter.1 hp).1, h.far.filter P⟩
theorem InR.read {lo : Nat} {W : World} {Z : ZL} (h : InR lo W Z) {p : Value × List Int} (hp : p ∈ Z) (hb : ∀ x ∈ p.2, -9223372036854775808 ≤ x ∧ x ≤ 9223372036854775807) : RowG 1 fInt W p.1 p.2 :=
  rowG_own fInt_len (h.row p hp) (fun q hq y hy => by simp [fInt] at hy; subst hy; exact hb _ hq)
theorem set_blk {W : World} {gg : Nat} {v v' : Value} {t : TypeId} (h : Blk gg #[v] t W) : Blk gg #[v'] t (W.setCell ⟨gg, 0, none⟩ v') := by
  unfold Blk at *
  simp [World.setCell, Array.getElem?_modify, h]
/-- Clues that lie behind an address, if there are any. -/
def CluesAt (w : World) (a0 : Option Addr) (l : List ClueV) : Prop := ∀ (k : Nat) (p : ClueV), l[k]? = some p → ∃ a : Addr, a0 = some a ∧ w.cell? (a.add (k * 3)) = some (.int .i64 p.k) ∧ w.cell? ⟨(a.add (k * 3)).block, (a.add (k * 3)).off + 1, none⟩ = some (.int .i64 p.a) ∧ w.cell? ⟨(a.add (k * 3)).block, (a.add (k * 3)).off + 2, none⟩ = some (.int .i64 p.b)
theorem clues_of {w : World} {v : Value} {l : List ClueV} (h : RowG 3 fClue w v l) : ∃ a0 c0, v = .slice a0 l.length c0 ∧ l.length ≤ c0 ∧ c0 ≤ 9223372036854775807 ∧ CluesAt w a0 l := by
  rcases h with ⟨rfl, rfl⟩ | ⟨a, cap, rfl, hL⟩
  · exact ⟨none, 0, rfl, by simp, by simp, fun k x hx => by simp at hx⟩
  · refine ⟨some a, cap, rfl, hL.hlc, hL.hcap, fun k p hp => ?_⟩
    have hc := hL.hcell k p hp
    refine ⟨a, rfl, ?_, ?_, ?_⟩
    · have e0 := hc 0 p.k rfl; rwa [Nat.add_zero] at e0
    · have h := hc 1 p.a rfl; rw [← Deep.add_add] at h; exact h
    · have h := hc 2 p.b rfl; rw [← Deep.add_add] at h; exact h
theorem CluesAt.later {w w' : World} {a0 : Option Addr} {l : List ClueV} (h : CluesAt w a0 l) (hb : Below w.heap.size w w') : CluesAt w' a0 l := by
  intro k x hx
  obtain ⟨a, e, h1, h2, h3⟩ := h k x hx
  exact ⟨a, e, (hb.cell (cell_lt h1)).trans h1, (hb.cell (cell_lt h2)).trans h2, (hb.cell (cell_lt h3)).trans h3⟩
theorem fitL_take {m : Int} {cs : List ClueV} {ws : List Int} {k : Nat} {p : ClueV} (hp : cs[k]? = some p) : fitL m (cs.take (k + 1)) ws = (fitL m (cs.take k) ws && fitB m p ws) := by
  rw [List.take_add_one, hp]
  simp [fitL]
theorem risB_top {m m' : Int} (hm : m ≤ m') : ∀ {b : Int} {l : List Int}, risB m b l = true → risB m' b l = true
  | b, [], _ => rfl
  | b, x :: l, h => by
    obtain ⟨h1, h2, h3⟩ := risB_cons h
    simp only [risB, inB, Bool.and_eq_true, decide_eq_true_eq]
    exact ⟨⟨h1, by omega⟩, risB_top hm h3⟩
theorem own_addr {w : World} {base e size n : Nat} {a : Option Addr} {c : Nat} {xs : List Value} (h : w.ownsRow base e size (.slice a n c) n xs) : (a = none → n = 0 ∧ c = 0) ∧ n ≤ c ∧ c ≤ maxLen ∧ ∀ b, a = some b → ∀ j u, xs[j]? = some u → w.cell? (b.add j) = some u := by
  have h' := h
  rcases h.2 with ⟨hv, hn⟩ | ⟨g, cap, cur, hv, hb, hc, hnc, hcm, _⟩
  · injection hv with e1 e2 e3
    subst e1 e3
    exact ⟨fun _ => ⟨hn, rfl⟩, by omega, by unfold maxLen; omega, fun b e => by cases e⟩
  · injection hv with e1 e2 e3
    subst e1 e3
    refine ⟨fun e => (by cases e), hnc, hcm, fun b e => ?_⟩
    injection e with e
    subst e
    exact h'.cells (g := g) rfl
end Go.Proofs.Ytiafmojmanhdoaa
