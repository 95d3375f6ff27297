/- Camels: what is left at camps, of the model. -/
import Derived.Test.YtgmgifgbalcngaaCampI
import Derived.Deep.DeepCutAuto
namespace Go.Proofs.Ytgmgifgbalcngaa
open Go.ChangeShapes Go.WideShapes Go.ChangeAt Go.RowKit Go.Joins
set_option maxRecDepth 100000
set_option linter.unusedVariables false
set_option linter.unusedSimpArgs false

theorem caLeft_ea (L E n d p q : Int) (ha : askB L E n d = true) (hp : plB p q = true) (w : World) :
    Calls Try.prog 43 #[.agg #[.int .i64 L, .int .i64 E], .agg #[.int .i64 n, .int .i64 d], .agg #[.int .i64 p, .int .i64 q]] w fun e w' => e = .returned (.tuple #[.agg #[.int .i64 (eaN L E n d p q), .int .i64 (eaD L E n d p q)], .bool (eaB L E n d p q)]) ∧ Below w.heap.size w w' := by
  have hk : leftAtK L E n d p q = true := by unfold leftAtK; rw [ha, hp]; rfl
  have eN : eaN L E n d p q = lowN (leftAtX L E n d p q) (leftAtM L E n d p q) := by unfold eaN; rw [hk]; exact (two_yes _ _).1
  have eD : eaD L E n d p q = lowD (leftAtX L E n d p q) (leftAtM L E n d p q) := by unfold eaD; rw [hk]; exact (two_yes _ _).2.1
  have eB : eaB L E n d p q = lowB (leftAtX L E n d p q) (leftAtM L E n d p q) := by unfold eaB; rw [hk]; exact (two_yes _ _).2.2
  rw [eN, eD, eB]
  obtain ⟨i1, i2, i3, i4⟩ := askB_yes L E n d ha
  obtain ⟨j1, j2, j3, j4⟩ := camB_yes L E i1
  obtain ⟨x1, x2, x3, x4⟩ := am_of n d i2
  obtain ⟨i5, i6⟩ := plB_yes p q hp
  obtain ⟨y1, y2, y3, y4⟩ := am_of p q i5
  have H := cam_in L E d n j1 j2 j3 j4 x3 i3 x1 i4
  exact caLeft_spec L E n d p q _ H rfl y1 y2 y3 i6 w
theorem cmp_cm (n d p q : Int) (h1 : amB n d = true) (h2 : amB p q = true) (w : World) :
    Calls Try.prog 28 #[.agg #[.int .i64 n, .int .i64 d], .agg #[.int .i64 p, .int .i64 q]] w fun e w' => e = .returned (.int .i64 (cmI n d p q)) ∧ Below w.heap.size w w' := by
  have e : cmI n d p q = sgI (n * q - p * d) := by unfold cmI okk; rw [h1, h2]; rfl
  rw [e]
  exact cmp_spec n d p q (am_of n d h1) (am_of p q h2) w
set_option maxHeartbeats 3200000 in
theorem camps_spec_some (L E n d : Int) (bn : -9223372036854775808 ≤ n ∧ n ≤ 9223372036854775807) (bd : -9223372036854775808 ≤ d ∧ d ≤ 9223372036854775807) (a : Addr) (cap : Nat) (l : List (Int × Int)) (w : World) (hL : LiesG 2 fAmt w a cap l) :
    Calls Try.prog 19 #[.agg #[.int .i64 L, .int .i64 E], .agg #[.int .i64 n, .int .i64 d], .slice (some a) l.length cap] w (AnsG 28 2 fAmt (clL L E n d l) (clB L E n d l) w) := by
  have hlc := hL.hlc
  have hcap := hL.hcap
  have HA := Lib.hid (fun W => ask_spec L E n d bn bd W)
  have HC : Hid (∀ W, Below w.heap.size w W → Calls Try.prog 24 #[.slice (some a) l.length cap] W fun e w' => e = .returned (.bool (choB l)) ∧ Below W.heap.size W w') := Lib.hid (fun W h => ways_row _ l W (Or.inr ⟨a, cap, rfl, liesG_below hL h⟩))
  cases h1 : askB L E n d
  · have eB : clB L E n d l = false := by unfold clB; rw [h1]; rfl
    have eL : clL L E n d l = [] := by unfold clL; rw [eB]; rfl
    rw [eB, eL]
    clear eB eL
    rw [h1] at HA
    clear h1
    go_enter Try.func19, Try.ntmps19
    (go_wp2_with fail; refine (HA.out _).mono ?_; rintro e w1 ⟨rfl, hb1⟩; have ha1 := hb1; obtain ⟨kc1, kf1, kz1, ky1, kx1, kv1, ku1⟩ := bcell hb1)
    go_wp2
    refine bodyPost_ret (v := .tuple #[.slice none 0 0, .bool false]) (by simp only [results, Try.results19]; go_simp) rfl ?_
    exact ans_owns rfl ⟨rfl, Or.inl ⟨rfl, rfl⟩⟩ (by (repeat (first | with_reducible exact Below.refl _ _ | with_reducible assumption | with_reducible refine balloc ?_ _ | with_reducible refine bdrew ?_ | with_reducible refine below_drewN ?_ _ | with_reducible refine bset ?_ ?_ _ | with_reducible exact Nat.le_refl _ | with_reducible refine bsize ?_ | (dsimp only; refine Nat.le_trans ?_ (Nat.le_add_right _ _)) | with_reducible refine Nat.le_trans ?_ (Nat.le_add_right _ _) | (with_reducible refine bstep ?_ (by assumption)))))
  cases h2 : choB l
  · have eB : clB L E n d l = false := by unfold clB; rw [h2, Bool.and_false]; rfl
    have eL : clL L E n d l = [] := by unfold clL; rw [eB]; rfl
    rw [eB, eL]
    clear eB eL
    rw [h1] at HA
    rw [h2] at HC
    clear h1 h2
    go_enter Try.func19, Try.ntmps19
    (go_wp2_with fail; refine (HA.out _).mono ?_; rintro e w1 ⟨rfl, hb1⟩; have ha1 := hb1; obtain ⟨kc1, kf1, kz1, ky1, kx1, kv1, ku1⟩ := bcell hb1)
    (go_wp2_with fail; refine (HC.out _ (by (repeat (first | with_reducible exact Below.refl _ _ | with_reducible assumption | with_reducible refine balloc ?_ _ | with_reducible refine bdrew ?_ | with_reducible refine below_drewN ?_ _ | with_reducible refine bset ?_ ?_ _ | with_reducible exact Nat.le_refl _ | with_reducible refine bsize ?_ | (dsimp only; refine Nat.le_trans ?_ (Nat.le_add_right _ _)) | with_reducible refine Nat.le_trans ?_ (Nat.le_add_right _ _) | (with_reducible refine bstep ?_ (by assumption)))))).mono ?_; rintro e w2 ⟨rfl, hb2⟩; (have ha2 : Below w.heap.size w w2 := by (repeat (first | with_reducible exact Below.refl _ _ | with_reducible assumption | with_reducible refine balloc ?_ _ | with_reducible refine bdrew ?_ | with_reducible refine below_drewN ?_ _ | with_reducible refine bset ?_ ?_ _ | with_reducible exact Nat.le_refl _ | with_reducible refine bsize ?_ | (dsimp only; refine Nat.le_trans ?_ (Nat.le_add_right _ _)) | with_reducible refine Nat.le_trans ?_ (Nat.le_add_right _ _) | (with_reducible refine bstep ?_ (by assumption))))); obtain ⟨kc2, kf2, kz2, ky2, kx2, kv2, ku2⟩ := bcell hb2)
    go_wp2
    refine bodyPost_ret (v := .tuple #[.slice none 0 0, .bool false]) (by simp only [results, Try.results19]; go_simp) rfl ?_
    exact ans_owns rfl ⟨rfl, Or.inl ⟨rfl, rfl⟩⟩ (by (repeat (first | with_reducible exact Below.refl _ _ | with_reducible assumption | with_reducible refine balloc ?_ _ | with_reducible refine bdrew ?_ | with_reducible refine below_drewN ?_ _ | with_reducible refine bset ?_ ?_ _ | with_reducible exact Nat.le_refl _ | with_reducible refine bsize ?_ | (dsimp only; refine Nat.le_trans ?_ (Nat.le_add_right _ _)) | with_reducible refine Nat.le_trans ?_ (Nat.le_add_right _ _) | (with_reducible refine bstep ?_ (by assumption)))))
  have hask := Lib.hid h1
  have hpl : Hid (∀ (j : Nat) (p : Int × Int), l[j]? = some p → plB p.1 p.2 = true) := Lib.hid (fun j p hp => by
    unfold choB at h2
    rw [Bool.and_eq_true] at h2
    exact (List.all_eq_true.1 h2.2) p (List.mem_of_getElem? hp))
  have h20 : l.length ≤ 20 := by unfold choB at h2; simp at h2; exact h2.1
  have HB : Hid (clB L E n d l = (incB l && l.all (clG L E n d))) := Lib.hid (by unfold clB; rw [h1, h2]; rfl)
  rw [h1] at HA
  rw [h2] at HC
  clear h1 h2
  obtain ⟨i0, hi, hz0, hz1, hz2⟩ := info_parts infoAmt
  go_enter Try.func19, Try.ntmps19
  (go_wp2_with fail; refine (HA.out _).mono ?_; rintro e w1 ⟨rfl, hb1⟩; have ha1 := hb1; obtain ⟨kc1, kf1, kz1, ky1, kx1, kv1, ku1⟩ := bcell hb1)
  have c1 : w1.cell? ⟨w.heap.size, 0, none⟩ = some (.int .i64 L) := by rw [kc1 _ _ (by simp)]; simp
  have c2 : w1.cell? ⟨w.heap.size, 1, none⟩ = some (.int .i64 E) := by rw [kc1 _ _ (by simp)]; simp
  have c3 : w1.cell? ⟨w.heap.size + 1, 0, none⟩ = some (.int .i64 n) := by rw [kc1 _ _ (by simp)]; simp
  have c4 : w1.cell? ⟨w.heap.size + 1, 1, none⟩ = some (.int .i64 d) := by rw [kc1 _ _ (by simp)]; simp
  have a1 : w.heap.size + 1 < w1.heap.size := kz1 _ (by simp)
  (go_wp2_with fail; refine (HC.out _ (by (repeat (first | with_reducible exact Below.refl _ _ | with_reducible assumption | with_reducible refine balloc ?_ _ | with_reducible refine bdrew ?_ | with_reducible refine below_drewN ?_ _ | with_reducible refine bset ?_ ?_ _ | with_reducible exact Nat.le_refl _ | with_reducible refine bsize ?_ | (dsimp only; refine Nat.le_trans ?_ (Nat.le_add_right _ _)) | with_reducible refine Nat.le_trans ?_ (Nat.le_add_right _ _) | (with_reducible refine bstep ?_ (by assumption)))))).mono ?_; rintro e w2 ⟨rfl, hb2⟩; (have ha2 : Below w.heap.size w w2 := by (repeat (first | with_reducible exact Below.refl _ _ | with_reducible assumption | with_reducible refine balloc ?_ _ | with_reducible refine bdrew ?_ | with_reducible refine below_drewN ?_ _ | with_reducible refine bset ?_ ?_ _ | with_reducible exact Nat.le_refl _ | with_reducible refine bsize ?_ | (dsimp only; refine Nat.le_trans ?_ (Nat.le_add_right _ _)) | with_reducible refine Nat.le_trans ?_ (Nat.le_add_right _ _) | (with_reducible refine bstep ?_ (by assumption))))); obtain ⟨kc2, kf2, kz2, ky2, kx2, kv2, ku2⟩ := bcell hb2)
  have f2 : Below w1.heap.size w1 w2 := bstep (by (repeat (first | with_reducible exact Below.refl _ _ | with_reducible assumption | with_reducible refine balloc ?_ _ | with_reducible refine bdrew ?_ | with_reducible refine below_drewN ?_ _ | with_reducible refine bset ?_ ?_ _ | with_reducible exact Nat.le_refl _ | with_reducible refine bsize ?_ | (dsimp only; refine Nat.le_trans ?_ (Nat.le_add_right _ _)) | with_reducible refine Nat.le_trans ?_ (Nat.le_add_right _ _) | (with_reducible refine bstep ?_ (by assumption))))) hb2
  replace c1 := keepa f2 (by omega) c1
  replace c2 := keepa f2 (by omega) c2
  replace c3 := keepa f2 (by omega) c3
  replace c4 := keepa f2 (by omega) c4
  replace a1 : w.heap.size + 1 < w2.heap.size := Nat.lt_of_lt_of_le a1 f2.size
  have hbw := ha2
  clear ha1 ha2 hb1 hb2 f2 kc1 kf1 kz1 ky1 kx1 kv1 ku1 kc2 kf2 kz2 ky2 kx2 kv2 ku2
  go_wp2
  go_loopw [8, 24] (fun u i wr => ∃ (k : Nat) (v : Value), v = u ∧ k ≤ l.length ∧ i = .int .i64 k ∧ wr.ownsRow w2.heap.size 28 2 v k (cellsG fAmt ((l.take k).map (clF L E n d))) ∧ Hid (∀ j p, j < k → l[j]? = some p → clG L E n d p = true) ∧ Hid (∀ j, j + 1 < k → cmAt l j < 0) ∧ Below w2.heap.size w2 wr) (fun _ i _ => l.length - (intOf i).toNat)
  case atStart => exact ⟨0, _, rfl, Nat.zero_le _, rfl, ⟨rfl, Or.inl ⟨rfl, rfl⟩⟩, Lib.hid (fun j p h _ => absurd h (by omega)), Lib.hid (fun j h => absurd h (by omega)), by (repeat (first | with_reducible exact Below.refl _ _ | with_reducible assumption | with_reducible refine balloc ?_ _ | with_reducible refine bdrew ?_ | with_reducible refine below_drewN ?_ _ | with_reducible refine bset ?_ ?_ _ | with_reducible exact Nat.le_refl _ | with_reducible refine bsize ?_ | (dsimp only; refine Nat.le_trans ?_ (Nat.le_add_right _ _)) | with_reducible refine Nat.le_trans ?_ (Nat.le_add_right _ _) | (with_reducible refine bstep ?_ (by assumption))))⟩
  case round =>
    obtain ⟨k, v, rfl, hk, rfl, hown, hall, hinc, hbel⟩ := hrel
    by_cases hlt : k < l.length
    · obtain ⟨p, hp⟩ : ∃ p, l[k]? = some p := ⟨_, List.getElem?_eq_getElem hlt⟩
      have hL2 := liesG_below hL (bstep hbw hbel)
      have hc := hL2.hcell k p hp
      have e0 := hc 0 p.1 rfl
      rw [Nat.add_zero] at e0
      have e1 : wr.cell? ⟨(a.add (k * 2)).block, (a.add (k * 2)).off + 1, none⟩ = some (.int .i64 p.2) := by
        have h := hc 1 p.2 rfl
        rw [← Deep.add_add] at h
        exact h
      clear hc
      have hbd := hL.hbd p (List.mem_of_getElem? hp)
      have b0 : -9223372036854775808 ≤ p.1 ∧ p.1 ≤ 9223372036854775807 := hbd p.1 (by simp [fAmt])
      have b1 : -9223372036854775808 ≤ p.2 ∧ p.2 ≤ 9223372036854775807 := hbd p.2 (by simp [fAmt])
      clear hbd
      have hpp := hpl.out k p hp
      have HLE := Lib.hid (fun W => caLeft_ea L E n d p.1 p.2 hask.out hpp W)
      have HSU := Lib.hid (cl_take L E n d l k p hp)
      replace c1 := keepa hbel (by omega) c1
      replace c2 := keepa hbel (by omega) c2
      replace c3 := keepa hbel (by omega) c3
      replace c4 := keepa hbel (by omega) c4
      replace a1 : w.heap.size + 1 < wr.heap.size := Nat.lt_of_lt_of_le a1 hbel.size
      have a0 : w.heap.size < wr.heap.size := by omega
      have i1 : (0 : Int) ≤ (k : Int) := by omega
      have i2 : (k : Int) < (l.length : Int) := by omega
      obtain ⟨BB, hBB⟩ : ∃ BB : Bool, BB = decide (0 < k ∧ ¬ cmAt l (k - 1) < 0) := ⟨_, rfl⟩
      have HBB := Lib.hid hBB
      clear hBB
      have hz1' : (a.add (k * 2)).block < wr.heap.size := cell_lt e0
      go_upto_region 7 with fail
      go_cut [40] (fun s40 wx => s40 = .bool BB ∧ Below wr.heap.size wr wx ∧ wx.cell? ⟨wr.heap.size, 0, none⟩ = some (.int .i64 p.1) ∧ wx.cell? ⟨wr.heap.size, 1, none⟩ = some (.int .i64 p.2) ∧ wr.heap.size < wx.heap.size)
      case first =>
        by_cases h0 : k = 0
        · subst h0
          refine wp_region_held_drew (S := (fun W => Below wr.heap.size wr W ∧ wr.heap.size < W.heap.size ∧ W.cell? ⟨wr.heap.size, 0, none⟩ = some (.int .i64 p.1) ∧ W.cell? ⟨wr.heap.size, 1, none⟩ = some (.int .i64 p.2))) (by kernel_rfl) ?_ (fun hHeld0 => ?_)
          · (try dsimp only); (go_split_ands; (repeat' with_reducible apply And.intro) <;> first | with_reducible assumption | ((repeat (first | with_reducible exact Below.refl _ _ | with_reducible assumption | with_reducible refine balloc ?_ _ | with_reducible refine bdrew ?_ | with_reducible refine below_drewN ?_ _ | with_reducible refine bset ?_ ?_ _ | with_reducible exact Nat.le_refl _ | with_reducible refine bsize ?_ | (dsimp only; refine Nat.le_trans ?_ (Nat.le_add_right _ _)) | with_reducible refine Nat.le_trans ?_ (Nat.le_add_right _ _) | (with_reducible refine bstep ?_ (by assumption)))); done) | (simp [go_sem]; done) | go_keep)
          (refine wpAnyH_take (i := 0) (oi := { dst := some 29, op := Op.move (Operand.tmp 9), type := 3, pos := "l4_camel.go:293", after := #[], guard := none }) (v := ?_) rfl (by kernel_rfl) (by kernel_rfl) (by kernel_rfl) (fun _ _ _ h => h) (Or.inl ⟨by rfl, ?_⟩) (by assumption) ?_; rotate_left; (focus (intro w hSw; (try dsimp only at hSw); go_simp; try with_reducible rfl)); (try simp only [Act.put, List.setIfInBounds_toArray, List.set_cons_zero, List.set_cons_succ]))
          (refine wpAnyH_take (i := 1) (oi := { dst := some 30, op := Op.binOp BinOp.gtr 3 (Operand.tmp 29) (Operand.const (Value.int IntKind.i64 0)) 3, type := 4, pos := "l4_camel.go:293", after := #[{ on := 0, ground := Ground.data }], guard := none }) (v := ?_) rfl (by kernel_rfl) (by kernel_rfl) (by kernel_rfl) (fun _ _ _ h => h) (Or.inl ⟨by rfl, ?_⟩) (by assumption) ?_; rotate_left; (focus (intro w hSw; (try dsimp only at hSw); go_simp; try with_reducible rfl)); (try simp only [Act.put, List.setIfInBounds_toArray, List.set_cons_zero, List.set_cons_succ]))
          (refine wpAnyH_take (i := 2) (oi := { dst := some 31, op := Op.move (Operand.tmp 30), type := 4, pos := "l4_camel.go:293", after := #[{ on := 1, ground := Ground.data }], guard := none }) (v := ?_) rfl (by kernel_rfl) (by kernel_rfl) (by kernel_rfl) (fun _ _ _ h => h) (Or.inl ⟨by rfl, ?_⟩) (by assumption) ?_; rotate_left; (focus (intro w hSw; (try dsimp only at hSw); go_simp; try with_reducible rfl)); (try simp only [Act.put, List.setIfInBounds_toArray, List.set_cons_zero, List.set_cons_succ]))
          (refine wpAnyH_take (i := 3) (oi := { dst := some 32, op := Op.move (Operand.tmp 2), type := 34, pos := "l4_camel.go:293", after := #[{ on := 2, ground := Ground.guard }], guard := some (2, true) }) (v := undef) rfl (by kernel_rfl) (by kernel_rfl) (by kernel_rfl) (fun _ _ _ h => h) (Or.inr ⟨by rfl, rfl⟩) (by assumption) ?_; (try simp only [Act.put, List.setIfInBounds_toArray, List.set_cons_zero, List.set_cons_succ]))
          (refine wpAnyH_take (i := 4) (oi := { dst := some 33, op := Op.move (Operand.tmp 9), type := 3, pos := "l4_camel.go:293", after := #[{ on := 2, ground := Ground.guard }], guard := some (2, true) }) (v := undef) rfl (by kernel_rfl) (by kernel_rfl) (by kernel_rfl) (fun _ _ _ h => h) (Or.inr ⟨by rfl, rfl⟩) (by assumption) ?_; (try simp only [Act.put, List.setIfInBounds_toArray, List.set_cons_zero, List.set_cons_succ]))
          (refine wpAnyH_take (i := 5) (oi := { dst := some 34, op := Op.binOp BinOp.sub 3 (Operand.tmp 33) (Operand.const (Value.int IntKind.i64 1)) 3, type := 3, pos := "l4_camel.go:293", after := #[{ on := 4, ground := Ground.data }, { on := 2, ground := Ground.guard }], guard := some (2, true) }) (v := undef) rfl (by kernel_rfl) (by kernel_rfl) (by kernel_rfl) (fun _ _ _ h => h) (Or.inr ⟨by rfl, rfl⟩) (by assumption) ?_; (try simp only [Act.put, List.setIfInBounds_toArray, List.set_cons_zero, List.set_cons_succ]))
          (refine wpAnyH_take (i := 6) (oi := { dst := some 35, op := Op.indexAddr 34 (Operand.tmp 32) (Operand.tmp 34), type := 0, pos := "l4_camel.go:293", after := #[{ on := 3, ground := Ground.data }, { on := 5, ground := Ground.data }, { on := 2, ground := Ground.guard }], guard := some (2, true) }) (v := undef) rfl (by kernel_rfl) (by kernel_rfl) (by kernel_rfl) (fun _ _ _ h => h) (Or.inr ⟨by rfl, rfl⟩) (by assumption) ?_; (try simp only [Act.put, List.setIfInBounds_toArray, List.set_cons_zero, List.set_cons_succ]))
          (refine wpAnyH_take (i := 7) (oi := { dst := some 36, op := Op.load 28 (Operand.tmp 35), type := 28, pos := "l4_camel.go:293", after := #[{ on := 6, ground := Ground.data }, { on := 2, ground := Ground.guard }], guard := some (2, true) }) (v := undef) rfl (by kernel_rfl) (by kernel_rfl) (by kernel_rfl) (fun _ _ _ h => h) (Or.inr ⟨by rfl, rfl⟩) (by assumption) ?_; (try simp only [Act.put, List.setIfInBounds_toArray, List.set_cons_zero, List.set_cons_succ]))
          (refine wpAnyH_take (i := 8) (oi := { dst := some 37, op := Op.load 28 (Operand.tmp 10), type := 28, pos := "l4_camel.go:293", after := #[{ on := 2, ground := Ground.guard }], guard := some (2, true) }) (v := undef) rfl (by kernel_rfl) (by kernel_rfl) (by kernel_rfl) (fun _ _ _ h => h) (Or.inr ⟨by rfl, rfl⟩) (by assumption) ?_; (try simp only [Act.put, List.setIfInBounds_toArray, List.set_cons_zero, List.set_cons_succ]))
          (refine wpAnyH_take (i := 9) (oi := { dst := some 38, op := Op.call { callee := Callee.value (Operand.func 28), args := #[Operand.tmp 36, Operand.tmp 37], argTypes := #[28, 28] }, type := 3, pos := "l4_camel.go:293", after := #[{ on := 7, ground := Ground.data }, { on := 8, ground := Ground.data }, { on := 2, ground := Ground.chain }, { on := 2, ground := Ground.guard }], guard := some (2, true) }) (v := undef) rfl (by kernel_rfl) (by kernel_rfl) (by kernel_rfl) (fun _ _ _ h => h) (Or.inr ⟨by rfl, rfl⟩) (by assumption) ?_; (try simp only [Act.put, List.setIfInBounds_toArray, List.set_cons_zero, List.set_cons_succ]))
          (refine wpAnyH_take (i := 10) (oi := { dst := some 39, op := Op.binOp BinOp.geq 3 (Operand.tmp 38) (Operand.const (Value.int IntKind.i64 0)) 3, type := 4, pos := "l4_camel.go:293", after := #[{ on := 9, ground := Ground.data }, { on := 2, ground := Ground.guard }], guard := some (2, true) }) (v := undef) rfl (by kernel_rfl) (by kernel_rfl) (by kernel_rfl) (fun _ _ _ h => h) (Or.inr ⟨by rfl, rfl⟩) (by assumption) ?_; (try simp only [Act.put, List.setIfInBounds_toArray, List.set_cons_zero, List.set_cons_succ]))
          (refine wpAnyH_take (i := 11) (oi := { dst := some 40, op := Op.pick (Operand.tmp 31) (Operand.tmp 39) (Operand.const (Value.bool false)), type := 4, pos := "l4_camel.go:293", after := #[{ on := 2, ground := Ground.data }, { on := 10, ground := Ground.data }], guard := none }) (v := ?_) rfl (by kernel_rfl) (by kernel_rfl) (by kernel_rfl) (fun _ _ _ h => h) (Or.inl ⟨by rfl, ?_⟩) (by assumption) ?_; rotate_left; (focus (intro w hSw; (try dsimp only at hSw); go_simp; try with_reducible rfl)); (try simp only [Act.put, List.setIfInBounds_toArray, List.set_cons_zero, List.set_cons_succ]))
          refine wpAnyH_done (by kernel_rfl) ?_ _
          all_goals (go_wp2_with fail; go_meet)
          all_goals refine ⟨by rw [HBB.out]; simp, by (repeat (first | with_reducible exact Below.refl _ _ | with_reducible assumption | with_reducible refine balloc ?_ _ | with_reducible refine bdrew ?_ | with_reducible refine below_drewN ?_ _ | with_reducible refine bset ?_ ?_ _ | with_reducible exact Nat.le_refl _ | with_reducible refine bsize ?_ | (dsimp only; refine Nat.le_trans ?_ (Nat.le_add_right _ _)) | with_reducible refine Nat.le_trans ?_ (Nat.le_add_right _ _) | (with_reducible refine bstep ?_ (by assumption)))), by simp [go_sem], by simp [go_sem], by simp⟩
        · obtain ⟨m, rfl⟩ : ∃ m, k = m + 1 := ⟨k - 1, by omega⟩
          obtain ⟨q, hq⟩ : ∃ q, l[m]? = some q := ⟨_, List.getElem?_eq_getElem (by omega)⟩
          have hc := hL2.hcell (m) q hq
          have f0 := hc 0 q.1 rfl
          rw [Nat.add_zero] at f0
          have f1 : wr.cell? ⟨(a.add ((m) * 2)).block, (a.add ((m) * 2)).off + 1, none⟩ = some (.int .i64 q.2) := by
            have h := hc 1 q.2 rfl
            rw [← Deep.add_add] at h
            exact h
          clear hc
          have hqq := hpl.out m q hq
          have HM := Lib.hid (fun W => cmp_cm q.1 q.2 p.1 p.2 (plB_yes _ _ hqq).1 (plB_yes _ _ hpp).1 W)
          rw [← cmAt_is l m q p hq hp] at HM
          have HCM : Hid (∃ C, cmAt l m = C) := Lib.hid ⟨_, rfl⟩
          obtain ⟨C, HC2⟩ := HCM.out
          rw [HC2] at HM
          have HCM := Lib.hid HC2
          clear HC2
          have z1 := cell_lt f0
          have i3 : (0 : Int) ≤ (m : Int) := by omega
          have i4 : (m : Int) < (l.length : Int) := by omega
          have wq : IntKind.i64.wrap (m : Int) = (m : Int) := IntWalk.i64_in _ (by omega)
          have hS := Lib.hid (fun (W : World) (h : Below wr.heap.size wr W ∧ wr.heap.size < W.heap.size ∧ W.cell? ⟨wr.heap.size, 0, none⟩ = some (.int .i64 p.1) ∧ W.cell? ⟨wr.heap.size, 1, none⟩ = some (.int .i64 p.2)) => (⟨h.1, h.2.1, h.2.2.1, h.2.2.2, (h.1.cell z1).trans f0, (h.1.cell (p := ⟨(a.add (m * 2)).block, (a.add (m * 2)).off + 1, none⟩) z1).trans f1⟩ : Below wr.heap.size wr W ∧ wr.heap.size < W.heap.size ∧ W.cell? ⟨wr.heap.size, 0, none⟩ = some (.int .i64 p.1) ∧ W.cell? ⟨wr.heap.size, 1, none⟩ = some (.int .i64 p.2) ∧ W.cell? (a.add (m * 2)) = some (.int .i64 q.1) ∧ W.cell? ⟨(a.add (m * 2)).block, (a.add (m * 2)).off + 1, none⟩ = some (.int .i64 q.2)))
          refine wp_region_held_drew (S := (fun W => Below wr.heap.size wr W ∧ wr.heap.size < W.heap.size ∧ W.cell? ⟨wr.heap.size, 0, none⟩ = some (.int .i64 p.1) ∧ W.cell? ⟨wr.heap.size, 1, none⟩ = some (.int .i64 p.2) ∧ W.cell? (a.add (m * 2)) = some (.int .i64 q.1) ∧ W.cell? ⟨(a.add (m * 2)).block, (a.add (m * 2)).off + 1, none⟩ = some (.int .i64 q.2))) (by kernel_rfl) ?_ (fun hHeld0 => ?_)
          · (try dsimp only); ((refine hS.out _ ?_; (go_split_ands; (repeat' with_reducible apply And.intro) <;> first | with_reducible assumption | ((repeat (first | with_reducible exact Below.refl _ _ | with_reducible assumption | with_reducible refine balloc ?_ _ | with_reducible refine bdrew ?_ | with_reducible refine below_drewN ?_ _ | with_reducible refine bset ?_ ?_ _ | with_reducible exact Nat.le_refl _ | with_reducible refine bsize ?_ | (dsimp only; refine Nat.le_trans ?_ (Nat.le_add_right _ _)) | with_reducible refine Nat.le_trans ?_ (Nat.le_add_right _ _) | (with_reducible refine bstep ?_ (by assumption)))); done) | (simp [go_sem]; done) | go_keep)))
          (refine wpAnyH_take (i := 0) (oi := { dst := some 29, op := Op.move (Operand.tmp 9), type := 3, pos := "l4_camel.go:293", after := #[], guard := none }) (v := ?_) rfl (by kernel_rfl) (by kernel_rfl) (by kernel_rfl) (fun _ _ _ h => h) (Or.inl ⟨by rfl, ?_⟩) (by assumption) ?_; rotate_left; (focus (intro w hSw; (try dsimp only at hSw); go_simp; try with_reducible rfl)); (try simp only [Act.put, List.setIfInBounds_toArray, List.set_cons_zero, List.set_cons_succ]))
          (refine wpAnyH_take (i := 1) (oi := { dst := some 30, op := Op.binOp BinOp.gtr 3 (Operand.tmp 29) (Operand.const (Value.int IntKind.i64 0)) 3, type := 4, pos := "l4_camel.go:293", after := #[{ on := 0, ground := Ground.data }], guard := none }) (v := ?_) rfl (by kernel_rfl) (by kernel_rfl) (by kernel_rfl) (fun _ _ _ h => h) (Or.inl ⟨by rfl, ?_⟩) (by assumption) ?_; rotate_left; (focus (intro w hSw; (try dsimp only at hSw); go_simp; try with_reducible rfl)); (try simp only [Act.put, List.setIfInBounds_toArray, List.set_cons_zero, List.set_cons_succ]))
          (refine wpAnyH_take (i := 2) (oi := { dst := some 31, op := Op.move (Operand.tmp 30), type := 4, pos := "l4_camel.go:293", after := #[{ on := 1, ground := Ground.data }], guard := none }) (v := ?_) rfl (by kernel_rfl) (by kernel_rfl) (by kernel_rfl) (fun _ _ _ h => h) (Or.inl ⟨by rfl, ?_⟩) (by assumption) ?_; rotate_left; (focus (intro w hSw; (try dsimp only at hSw); go_simp; try with_reducible rfl)); (try simp only [Act.put, List.setIfInBounds_toArray, List.set_cons_zero, List.set_cons_succ]))
          (refine wpAnyH_take (i := 3) (oi := { dst := some 32, op := Op.move (Operand.tmp 2), type := 34, pos := "l4_camel.go:293", after := #[{ on := 2, ground := Ground.guard }], guard := some (2, true) }) (v := ?_) rfl (by kernel_rfl) (by kernel_rfl) (by kernel_rfl) (fun _ _ _ h => h) (Or.inl ⟨by rfl, ?_⟩) (by assumption) ?_; rotate_left; (focus (intro w hSw; (try dsimp only at hSw); go_simp; try with_reducible rfl)); (try simp only [Act.put, List.setIfInBounds_toArray, List.set_cons_zero, List.set_cons_succ]))
          (refine wpAnyH_take (i := 4) (oi := { dst := some 33, op := Op.move (Operand.tmp 9), type := 3, pos := "l4_camel.go:293", after := #[{ on := 2, ground := Ground.guard }], guard := some (2, true) }) (v := ?_) rfl (by kernel_rfl) (by kernel_rfl) (by kernel_rfl) (fun _ _ _ h => h) (Or.inl ⟨by rfl, ?_⟩) (by assumption) ?_; rotate_left; (focus (intro w hSw; (try dsimp only at hSw); go_simp; try with_reducible rfl)); (try simp only [Act.put, List.setIfInBounds_toArray, List.set_cons_zero, List.set_cons_succ]))
          (refine wpAnyH_take (i := 5) (oi := { dst := some 34, op := Op.binOp BinOp.sub 3 (Operand.tmp 33) (Operand.const (Value.int IntKind.i64 1)) 3, type := 3, pos := "l4_camel.go:293", after := #[{ on := 4, ground := Ground.data }, { on := 2, ground := Ground.guard }], guard := some (2, true) }) (v := ?_) rfl (by kernel_rfl) (by kernel_rfl) (by kernel_rfl) (fun _ _ _ h => h) (Or.inl ⟨by rfl, ?_⟩) (by assumption) ?_; rotate_left; (focus (intro w hSw; (try dsimp only at hSw); go_simp; try with_reducible rfl)); (try simp only [Act.put, List.setIfInBounds_toArray, List.set_cons_zero, List.set_cons_succ]))
          (refine wpAnyH_take (i := 6) (oi := { dst := some 35, op := Op.indexAddr 34 (Operand.tmp 32) (Operand.tmp 34), type := 0, pos := "l4_camel.go:293", after := #[{ on := 3, ground := Ground.data }, { on := 5, ground := Ground.data }, { on := 2, ground := Ground.guard }], guard := some (2, true) }) (v := ?_) rfl (by kernel_rfl) (by kernel_rfl) (by kernel_rfl) (fun _ _ _ h => h) (Or.inl ⟨by rfl, ?_⟩) (by assumption) ?_; rotate_left; (focus (intro w hSw; (try dsimp only at hSw); go_simp; try with_reducible rfl)); (try simp only [Act.put, List.setIfInBounds_toArray, List.set_cons_zero, List.set_cons_succ]))
          (refine wpAnyH_take (i := 7) (oi := { dst := some 36, op := Op.load 28 (Operand.tmp 35), type := 28, pos := "l4_camel.go:293", after := #[{ on := 6, ground := Ground.data }, { on := 2, ground := Ground.guard }], guard := some (2, true) }) (v := ?_) rfl (by kernel_rfl) (by kernel_rfl) (by kernel_rfl) (fun _ _ _ h => h) (Or.inl ⟨by rfl, ?_⟩) (by assumption) ?_; rotate_left; (focus (intro w hSw; (try dsimp only at hSw); go_simp; try with_reducible rfl)); (try simp only [Act.put, List.setIfInBounds_toArray, List.set_cons_zero, List.set_cons_succ]))
          (refine wpAnyH_take (i := 8) (oi := { dst := some 37, op := Op.load 28 (Operand.tmp 10), type := 28, pos := "l4_camel.go:293", after := #[{ on := 2, ground := Ground.guard }], guard := some (2, true) }) (v := ?_) rfl (by kernel_rfl) (by kernel_rfl) (by kernel_rfl) (fun _ _ _ h => h) (Or.inl ⟨by rfl, ?_⟩) (by assumption) ?_; rotate_left; (focus (intro w hSw; (try dsimp only at hSw); go_simp; try with_reducible rfl)); (try simp only [Act.put, List.setIfInBounds_toArray, List.set_cons_zero, List.set_cons_succ]))
          (refine wpAnyH_ready (rs := [9]) (by kernel_rfl) (by simp) ?_; refine AllReadyH.cons (o := { dst := some 38, op := Op.call { callee := Callee.value (Operand.func 28), args := #[Operand.tmp 36, Operand.tmp 37], argTypes := #[28, 28] }, type := 3, pos := "l4_camel.go:293", after := #[{ on := 7, ground := Ground.data }, { on := 8, ground := Ground.data }, { on := 2, ground := Ground.chain }, { on := 2, ground := Ground.guard }], guard := some (2, true) }) rfl (fun K hK => ?_) AllReadyH.nil; go_simp; (refine (HM.out _).mono ?_; rintro e w3 ⟨rfl, hb3⟩; go_split_ands; (have f5 := bstep (by first | with_reducible assumption | ((repeat (first | with_reducible exact Below.refl _ _ | with_reducible assumption | with_reducible refine balloc ?_ _ | with_reducible refine bdrew ?_ | with_reducible refine below_drewN ?_ _ | with_reducible refine bset ?_ ?_ _ | with_reducible exact Nat.le_refl _ | with_reducible refine bsize ?_ | (dsimp only; refine Nat.le_trans ?_ (Nat.le_add_right _ _)) | with_reducible refine Nat.le_trans ?_ (Nat.le_add_right _ _) | (with_reducible refine bstep ?_ (by assumption)))); done) : Below wr.heap.size wr _) hb3); (have f6 := Nat.lt_of_lt_of_le (show wr.heap.size < _ by with_reducible assumption) hb3.size); (have f7 : w3.cell? ⟨wr.heap.size, 0, none⟩ = some (.int .i64 p.1) := keepa hb3 (by with_reducible assumption) (by with_reducible assumption)); (have f8 : w3.cell? ⟨wr.heap.size, 1, none⟩ = some (.int .i64 p.2) := keepa hb3 (by with_reducible assumption) (by with_reducible assumption))); (first | refine hK.out _ _ ?_ (fun hHeld1 => ?_) | (go_wp2_with fail; refine hK.out _ _ ?_ (fun hHeld1 => ?_))); (focus ((try dsimp only); ((refine hS.out _ ?_; (go_split_ands; (repeat' with_reducible apply And.intro) <;> first | with_reducible assumption | ((repeat (first | with_reducible exact Below.refl _ _ | with_reducible assumption | with_reducible refine balloc ?_ _ | with_reducible refine bdrew ?_ | with_reducible refine below_drewN ?_ _ | with_reducible refine bset ?_ ?_ _ | with_reducible exact Nat.le_refl _ | with_reducible refine bsize ?_ | (dsimp only; refine Nat.le_trans ?_ (Nat.le_add_right _ _)) | with_reducible refine Nat.le_trans ?_ (Nat.le_add_right _ _) | (with_reducible refine bstep ?_ (by assumption)))); done) | (simp [go_sem]; done) | go_keep))))); clear hK K; (try clear hHeld0); (try simp only [Act.put, List.setIfInBounds_toArray, List.set_cons_zero, List.set_cons_succ]))
          (refine wpAnyH_take (i := 10) (oi := { dst := some 39, op := Op.binOp BinOp.geq 3 (Operand.tmp 38) (Operand.const (Value.int IntKind.i64 0)) 3, type := 4, pos := "l4_camel.go:293", after := #[{ on := 9, ground := Ground.data }, { on := 2, ground := Ground.guard }], guard := some (2, true) }) (v := ?_) rfl (by kernel_rfl) (by kernel_rfl) (by kernel_rfl) (fun _ _ _ h => h) (Or.inl ⟨by rfl, ?_⟩) (by assumption) ?_; rotate_left; (focus (intro w hSw; (try dsimp only at hSw); go_simp; try with_reducible rfl)); (try simp only [Act.put, List.setIfInBounds_toArray, List.set_cons_zero, List.set_cons_succ]))
          (refine wpAnyH_take (i := 11) (oi := { dst := some 40, op := Op.pick (Operand.tmp 31) (Operand.tmp 39) (Operand.const (Value.bool false)), type := 4, pos := "l4_camel.go:293", after := #[{ on := 2, ground := Ground.data }, { on := 10, ground := Ground.data }], guard := none }) (v := ?_) rfl (by kernel_rfl) (by kernel_rfl) (by kernel_rfl) (fun _ _ _ h => h) (Or.inl ⟨by rfl, ?_⟩) (by assumption) ?_; rotate_left; (focus (intro w hSw; (try dsimp only at hSw); go_simp; try with_reducible rfl)); (try simp only [Act.put, List.setIfInBounds_toArray, List.set_cons_zero, List.set_cons_succ]))
          refine wpAnyH_done (by kernel_rfl) ?_ _
          all_goals (go_wp2_with fail; go_meet)
          all_goals refine ⟨by rw [HBB.out]; simp [HCM.out], by assumption, by assumption, by assumption, by assumption⟩
      case rest =>
        obtain ⟨rfl, hf, d0, d1, dz⟩ := hcut
        have hbf := bstep hbel hf
        replace c1 := keepa hf (by omega) c1
        replace c2 := keepa hf (by omega) c2
        replace c3 := keepa hf (by omega) c3
        replace c4 := keepa hf (by omega) c4
        replace a1 : w.heap.size + 1 < wc.heap.size := Nat.lt_of_lt_of_le a1 hf.size
        have a0 : w.heap.size < wc.heap.size := by omega
        cases hB : BB
        · have hnx : Hid (∀ j, j + 1 < k + 1 → cmAt l j < 0) := Lib.hid (fun j hj => by
            have e := HBB.out
            rw [hB] at e
            have e2 := of_decide_eq_false e.symm
            by_cases ej : j + 1 = k
            · have : j = k - 1 := by omega
              subst this
              exact Decidable.byContradiction fun hn => e2 ⟨by omega, hn⟩
            · exact hinc.out j (by omega))
          have hown3 := ownsRow_below hown hf
          clear HBB hinc hown hf hL2 e0 e1 hB
          cases hE : eaB L E n d p.1 p.2
          · have HT : Hid (clB L E n d l = false ∧ clL L E n d l = []) := Lib.hid (by
              have eB : clB L E n d l = false := by unfold clB; exact (by have := cl_no (L := L) (E := E) (n := n) (d := d) hp hE; unfold clB at this; exact this)
              exact ⟨eB, by unfold clL; rw [eB]; rfl⟩)
            rw [hE] at HLE
            generalize eaN L E n d p.1 p.2 = N at *
            generalize eaD L E n d p.1 p.2 = V at *
            clear hE hall hp HSU HB hnx
            go_wp2_with fail
            refine (HLE.out _).mono ?_
            rintro e w5 ⟨rfl, hb5⟩
            have hz : Below w.heap.size w w5 := bstep (bstep hbw hbf) hb5
            clear hb5 hbel hbf hbw
            go_wp2
            refine bodyPost_ret (v := .tuple #[.slice none 0 0, .bool false]) (by simp only [results, Try.results19]; go_simp) rfl ?_
            rw [HT.out.1, HT.out.2]
            exact ans_owns rfl ⟨rfl, Or.inl ⟨rfl, rfl⟩⟩ (by (repeat (first | with_reducible exact Below.refl _ _ | with_reducible assumption | with_reducible refine balloc ?_ _ | with_reducible refine bdrew ?_ | with_reducible refine below_drewN ?_ _ | with_reducible refine bset ?_ ?_ _ | with_reducible exact Nat.le_refl _ | with_reducible refine bsize ?_ | (dsimp only; refine Nat.le_trans ?_ (Nat.le_add_right _ _)) | with_reducible refine Nat.le_trans ?_ (Nat.le_add_right _ _) | (with_reducible refine bstep ?_ (by assumption)))))
          · have hnext := Lib.hid (cl_next hp hE hall.out)
            rw [hE] at HLE
            generalize eaN L E n d p.1 p.2 = N at *
            generalize eaD L E n d p.1 p.2 = V at *
            clear hE hall hp HB
            go_wp2_with fail
            refine (HLE.out _).mono ?_
            rintro e w5 ⟨rfl, hb5⟩
            have own3 := ownsRow_below hown3 hb5
            have hb2' : Below w2.heap.size w2 w5 := bstep hbf hb5
            have hsz3 := hb2'.size
            clear hown3 hbel hbf hb5
            go_wp2_with (at_builtin; refine wpList_append_own _ rfl _ _ 34 rfl w2.heap.size 28 i0 (.agg #[.int .i64 0, .int .i64 0]) 2 16 Try.underlying34 hi hz0 hz1 hz2 rfl (by decide) v k (cellsG fAmt ((l.take k).map (clF L E n d))) rfl ?own ⟨_, 0, none⟩ 1 1 [.int .i64 N, .int .i64 V] rfl rfl ?s1 ?s2 ?s3 ?s4 ?s5 ?_)
            case own => (repeat (first | with_reducible assumption | with_reducible refine own_alloc ?_ _ | with_reducible refine own_drew ?_ | with_reducible refine own_set ?_ ?_ _))
            case s1 => first | exact cell_two_new _ _ _ _ | simp [go_sem]
            case s2 => simp [Value.oneCell']
            case s3 => unfold maxLen; omega
            case s4 => omega
            case s5 => first | (simp; done) | (simp; omega)
            intro v' w4 hown' hgrow hnn
            have hown2 : w4.ownsRow w2.heap.size 28 2 v' (k + 1) (cellsG fAmt ((l.take (k + 1)).map (clF L E n d))) := by
              rw [HSU.out, cellsG_snoc]; simpa [fAmt] using hown'
            have bel4 : Below w2.heap.size w2 w4 := by
              refine grown_bel (base := w2.heap.size) (e := 28) (size := 2) (n := k) (xs := cellsG fAmt ((l.take k).map (clF L E n d))) ?_ hgrow (by (repeat (first | with_reducible assumption | with_reducible refine own_alloc ?_ _ | with_reducible refine own_drew ?_ | with_reducible refine own_set ?_ ?_ _))) (Nat.le_refl _)
              (repeat (first | with_reducible exact Below.refl _ _ | with_reducible assumption | with_reducible refine balloc ?_ _ | with_reducible refine bdrew ?_ | with_reducible refine below_drewN ?_ _ | with_reducible refine bset ?_ ?_ _ | with_reducible exact Nat.le_refl _ | with_reducible refine bsize ?_ | (dsimp only; refine Nat.le_trans ?_ (Nat.le_add_right _ _)) | with_reducible refine Nat.le_trans ?_ (Nat.le_add_right _ _) | (with_reducible refine bstep ?_ (by assumption))))
            clear hown' hgrow own3 hb2'
            go_wp2
            go_roundw
            case rel => exact ⟨k + 1, _, rfl, by omega, by go_num, hown2, hnext, hnx, bel4⟩
            case measure => simp [intOf]; omega
        · have HT : Hid (clB L E n d l = false ∧ clL L E n d l = []) := Lib.hid (by
            have eB : clB L E n d l = false := by unfold clB; have e := HBB.out; rw [hB] at e; have e2 := of_decide_eq_true e.symm; have := incB_no l (k - 1) (by omega) e2.2; rw [this]; simp
            exact ⟨eB, by unfold clL; rw [eB]; rfl⟩)
          have hz : Below w.heap.size w wc := bstep hbw hbf
          clear HBB hinc hown hf hL2 e0 e1 hB HB hall HLE
          go_wp2
          refine bodyPost_ret (v := .tuple #[.slice none 0 0, .bool false]) (by simp only [results, Try.results19]; go_simp) rfl ?_
          rw [HT.out.1, HT.out.2]
          exact ans_owns rfl ⟨rfl, Or.inl ⟨rfl, rfl⟩⟩ (by (repeat (first | with_reducible exact Below.refl _ _ | with_reducible assumption | with_reducible refine balloc ?_ _ | with_reducible refine bdrew ?_ | with_reducible refine below_drewN ?_ _ | with_reducible refine bset ?_ ?_ _ | with_reducible exact Nat.le_refl _ | with_reducible refine bsize ?_ | (dsimp only; refine Nat.le_trans ?_ (Nat.le_add_right _ _)) | with_reducible refine Nat.le_trans ?_ (Nat.le_add_right _ _) | (with_reducible refine bstep ?_ (by assumption)))))
    · have hk' : k = l.length := by omega
      subst hk'
      have HT : Hid (clB L E n d l = true ∧ clL L E n d l = l.map (clF L E n d)) := Lib.hid (by
        have e := HB.out
        rw [cl_all hall.out, incB_yes l hinc.out] at e
        exact ⟨e, by unfold clL; rw [e]; rfl⟩)
      clear hall HB hinc
      rw [List.take_length] at hown
      go_wp2
      refine bodyPost_ret (v := .tuple #[v, .bool true]) (by simp only [results, Try.results19]; go_simp) rfl ?_
      rw [HT.out.1, HT.out.2]
      exact ans_owns (by simp) (own_mono hown hbw.size) (bstep hbw hbel)
theorem camps_spec_nil (L E n d : Int) (bn : -9223372036854775808 ≤ n ∧ n ≤ 9223372036854775807) (bd : -9223372036854775808 ≤ d ∧ d ≤ 9223372036854775807) (w : World) :
    Calls Try.prog 19 #[.agg #[.int .i64 L, .int .i64 E], .agg #[.int .i64 n, .int .i64 d], .slice none 0 0] w (AnsG 28 2 fAmt [] (askB L E n d) w) := by
  have HA := Lib.hid (fun W => ask_spec L E n d bn bd W)
  have HC := Lib.hid (fun W => ways_nil W)
  cases h1 : askB L E n d
  · rw [h1] at HA
    clear h1
    go_enter Try.func19, Try.ntmps19
    (go_wp2_with fail; refine (HA.out _).mono ?_; rintro e w1 ⟨rfl, hb1⟩; have ha1 := hb1; obtain ⟨kc1, kf1, kz1, ky1, kx1, kv1, ku1⟩ := bcell hb1)
    go_wp2
    refine bodyPost_ret (v := .tuple #[.slice none 0 0, .bool false]) (by simp only [results, Try.results19]; go_simp) rfl ?_
    exact ans_owns rfl ⟨rfl, Or.inl ⟨rfl, rfl⟩⟩ (by (repeat (first | with_reducible exact Below.refl _ _ | with_reducible assumption | with_reducible refine balloc ?_ _ | with_reducible refine bdrew ?_ | with_reducible refine below_drewN ?_ _ | with_reducible refine bset ?_ ?_ _ | with_reducible exact Nat.le_refl _ | with_reducible refine bsize ?_ | (dsimp only; refine Nat.le_trans ?_ (Nat.le_add_right _ _)) | with_reducible refine Nat.le_trans ?_ (Nat.le_add_right _ _) | (with_reducible refine bstep ?_ (by assumption)))))
  · rw [h1] at HA
    clear h1
    go_enter Try.func19, Try.ntmps19
    (go_wp2_with fail; refine (HA.out _).mono ?_; rintro e w1 ⟨rfl, hb1⟩; have ha1 := hb1; obtain ⟨kc1, kf1, kz1, ky1, kx1, kv1, ku1⟩ := bcell hb1)
    (go_wp2_with fail; refine (HC.out _).mono ?_; rintro e w2 ⟨rfl, hb2⟩; (have ha2 : Below w.heap.size w w2 := by (repeat (first | with_reducible exact Below.refl _ _ | with_reducible assumption | with_reducible refine balloc ?_ _ | with_reducible refine bdrew ?_ | with_reducible refine below_drewN ?_ _ | with_reducible refine bset ?_ ?_ _ | with_reducible exact Nat.le_refl _ | with_reducible refine bsize ?_ | (dsimp only; refine Nat.le_trans ?_ (Nat.le_add_right _ _)) | with_reducible refine Nat.le_trans ?_ (Nat.le_add_right _ _) | (with_reducible refine bstep ?_ (by assumption))))); obtain ⟨kc2, kf2, kz2, ky2, kx2, kv2, ku2⟩ := bcell hb2)
    go_wp2
    go_loopw [8, 24] (fun u i wr => u = .slice none 0 0 ∧ i = .int .i64 0 ∧ wr = w2) (fun _ _ _ => 0)
    case atStart => exact ⟨rfl, rfl, rfl⟩
    case round =>
      obtain ⟨rfl, rfl, rfl⟩ := hrel
      go_wp2
      refine bodyPost_ret (v := .tuple #[.slice none 0 0, .bool true]) (by simp only [results, Try.results19]; go_simp) rfl ?_
      exact ans_owns rfl ⟨rfl, Or.inl ⟨rfl, rfl⟩⟩ (by assumption)
theorem camps_spec_row (L E n d : Int) (bn : -9223372036854775808 ≤ n ∧ n ≤ 9223372036854775807) (bd : -9223372036854775808 ≤ d ∧ d ≤ 9223372036854775807) (v : Value) (l : List (Int × Int)) (w : World) (h : RowG 2 fAmt w v l) :
    Calls Try.prog 19 #[.agg #[.int .i64 L, .int .i64 E], .agg #[.int .i64 n, .int .i64 d], v] w (AnsG 28 2 fAmt (clL L E n d l) (clB L E n d l) w) := by
  rcases h with ⟨rfl, rfl⟩ | ⟨a, cap, rfl, hL⟩
  · have e1 : clB L E n d [] = askB L E n d := by simp [clB, choB, incB]
    have e2 : clL L E n d [] = [] := by unfold clL; split <;> rfl
    rw [e1, e2]
    exact camps_spec_nil L E n d bn bd w
  · exact camps_spec_some L E n d bn bd a cap l w hL
end Go.Proofs.Ytgmgifgbalcngaa
