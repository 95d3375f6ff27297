/- The texts of amounts: AmountText on both sides. -/
import Derived.Test.YtffafiidblamkaaDoorText
import Derived.Test.YtffafiidblamkaaDoorShelf
import Derived.Lib.ItoaMem
import Derived.Lib.AppendIntMem
namespace Go.Proofs.YtffafiidblamkaaDoor
open Go.ChangeShapes Go.WideShapes Go.ChangeAt Go.RowKit Go.Joins
set_option maxRecDepth 100000
set_option linter.unusedVariables false
set_option linter.unusedSimpArgs false

/-- The library's table of powers lies in this world as its text lays it. -/
def TabOk (w : World) : Prop := Lib.TabIs Tryd.prog w "internal/strconv.uint64pow10" .u64 Lib.pow10Tab
theorem tab_on {w w' : World} (h : TabOk w) (hb : Below w.heap.size w w') : TabOk w' := Lib.tabBelow_of_tabIs h w' hb
theorem itoa_dec (k : Int) (h0 : 0 ≤ k) (h1 : k ≤ 9223372036854775807) (w : World) (ht : TabOk w) :
    Calls Tryd.prog 22 #[.int .i64 k] w fun e w' => e = .returned (.string (decS k)) ∧ Below w.heap.size w w' := by
  refine (Tryd.strconv_Itoa k (by omega) h1 w ht).mono ?_
  rintro e w' ⟨rfl, q, os, rfl⟩
  have e := Lib.itoa_nonneg k.toNat
  rw [Int.toNat_of_nonneg h0] at e
  exact ⟨by rw [e]; rfl, Lib.below_grow _ w (Nat.le_refl _) q os⟩
def atS (n d : Int) : ByteArray := if shB n d = true then txS n d else { data := #[] }
theorem shB_no (n d : Int) (h : amB n d = false) : shB n d = false := by unfold shB; rw [h]; rfl
set_option maxHeartbeats 800000 in
theorem shown_spec (n d : Int) (w : World) :
    Calls Tryd.prog 19 #[.agg #[.int .i64 n, .int .i64 d]] w fun e w' => e = .returned (.bool (shB n d)) ∧ Below w.heap.size w w' := by
  have HG := Lib.hid (fun W => good_spec n d W)
  cases h : amB n d
  · rw [shB_no n d h]
    rw [h] at HG
    clear h
    go_enter Tryd.func19, Tryd.ntmps19
    (go_wp2_with fail; refine (HG.out _).mono ?_; rintro e w1 ⟨rfl, hb1⟩; have ha1 := hb1; obtain ⟨kc1, kf1, kz1, ky1, kx1, kv1, ku1⟩ := bcell hb1)
    go_wp2
    go_ret
    refine ⟨rfl, ?_⟩
    (repeat (first | with_reducible exact Below.refl _ _ | with_reducible assumption | with_reducible refine balloc ?_ _ | with_reducible refine bdrew ?_ | with_reducible refine below_drewN ?_ _ | with_reducible refine bset ?_ ?_ _ | with_reducible exact Nat.le_refl _ | with_reducible refine bsize ?_ | (dsimp only; refine Nat.le_trans ?_ (Nat.le_add_right _ _)) | with_reducible refine Nat.le_trans ?_ (Nat.le_add_right _ _) | (with_reducible refine bstep ?_ (by assumption))))
  · obtain ⟨h0, h1, d0, d1⟩ := am_of n d h
    have hq0 := Int.ediv_nonneg h0 (show 0 ≤ d by omega)
    have hq1 := Int.ediv_le_self d h0
    have htd : n.tdiv d = n / d := Int.tdiv_eq_ediv_of_nonneg h0
    have e : shB n d = decide (n / d ≤ 999999 ∧ d ≤ 999999) := by unfold shB; rw [h]; rfl
    rw [e]
    rw [h] at HG
    generalize n / d = q at *
    have wq : IntKind.i64.wrap q = q := IntWalk.i64_in _ (by omega)
    have hdz : ¬ d = 0 := by omega
    clear h e
    by_cases a : q ≤ 999999 <;> by_cases b : d ≤ 999999
    all_goals
      go_enter Tryd.func19, Tryd.ntmps19
      (go_wp2_with fail; refine (HG.out _).mono ?_; rintro e w1 ⟨rfl, hb1⟩; have ha1 := hb1; obtain ⟨kc1, kf1, kz1, ky1, kx1, kv1, ku1⟩ := bcell hb1)
      have c1 : w1.cell? ⟨w.heap.size, 0, none⟩ = some (.int .i64 n) := by rw [kc1 _ _ (by simp)]; simp
      have c2 : w1.cell? ⟨w.heap.size, 1, none⟩ = some (.int .i64 d) := by rw [kc1 _ _ (by simp)]; simp
      go_wp2
      go_ret
      refine ⟨by simp [a, b], ?_⟩
      (repeat (first | with_reducible exact Below.refl _ _ | with_reducible assumption | with_reducible refine balloc ?_ _ | with_reducible refine bdrew ?_ | with_reducible refine below_drewN ?_ _ | with_reducible refine bset ?_ ?_ _ | with_reducible exact Nat.le_refl _ | with_reducible refine bsize ?_ | (dsimp only; refine Nat.le_trans ?_ (Nat.le_add_right _ _)) | with_reducible refine Nat.le_trans ?_ (Nat.le_add_right _ _) | (with_reducible refine bstep ?_ (by assumption))))
set_option maxHeartbeats 800000 in
theorem amountText_spec (n d : Int) (w : World) :
    Calls Tryd.prog 7 #[.agg #[.int .i64 n, .int .i64 d]] w fun e w' => e = .returned (.tuple #[.string (atS n d), .bool (shB n d)]) ∧ Below w.heap.size w w' := by
  have HS := Lib.hid (fun W => shown_spec n d W)
  cases h : shB n d
  · have e : atS n d = { data := #[] } := by unfold atS; rw [h]; rfl
    rw [e]
    rw [h] at HS
    clear h e
    go_enter Tryd.func7, Tryd.ntmps7
    (go_wp2_with fail; refine (HS.out _).mono ?_; rintro e w1 ⟨rfl, hb1⟩; have ha1 := hb1; obtain ⟨kc1, kf1, kz1, ky1, kx1, kv1, ku1⟩ := bcell hb1)
    go_wp2
    refine bodyPost_ret (v := .tuple #[.string { data := #[] }, .bool false]) (by simp only [results, Tryd.results7]; go_simp) rfl ⟨rfl, ?_⟩
    (repeat (first | with_reducible exact Below.refl _ _ | with_reducible assumption | with_reducible refine balloc ?_ _ | with_reducible refine bdrew ?_ | with_reducible refine below_drewN ?_ _ | with_reducible refine bset ?_ ?_ _ | with_reducible exact Nat.le_refl _ | with_reducible refine bsize ?_ | (dsimp only; refine Nat.le_trans ?_ (Nat.le_add_right _ _)) | with_reducible refine Nat.le_trans ?_ (Nat.le_add_right _ _) | (with_reducible refine bstep ?_ (by assumption))))
  · have e : atS n d = txS n d := by unfold atS; rw [if_pos h]
    have ha : amB n d = true := by
      cases ha : amB n d
      · rw [shB_no n d ha] at h; cases h
      · rfl
    obtain ⟨h0, h1, d0, d1⟩ := am_of n d ha
    have HT := Lib.hid (fun W => amText_spec n d h0 h1 d0 d1 W)
    rw [e]
    rw [h] at HS
    generalize txS n d = X at *
    clear h e ha
    go_enter Tryd.func7, Tryd.ntmps7
    (go_wp2_with fail; refine (HS.out _).mono ?_; rintro e w1 ⟨rfl, hb1⟩; have ha1 := hb1; obtain ⟨kc1, kf1, kz1, ky1, kx1, kv1, ku1⟩ := bcell hb1)
    have c1 : w1.cell? ⟨w.heap.size, 0, none⟩ = some (.int .i64 n) := by rw [kc1 _ _ (by simp)]; simp
    have c2 : w1.cell? ⟨w.heap.size, 1, none⟩ = some (.int .i64 d) := by rw [kc1 _ _ (by simp)]; simp
    (go_wp2_with fail; refine (HT.out _).mono ?_; rintro e w2 ⟨rfl, hb2⟩; have ha2 := bjoin ha1 hb2 (by (repeat (first | with_reducible exact Below.refl _ _ | with_reducible assumption | with_reducible refine balloc ?_ _ | with_reducible refine bdrew ?_ | with_reducible refine below_drewN ?_ _ | with_reducible refine bset ?_ ?_ _ | with_reducible exact Nat.le_refl _ | with_reducible refine bsize ?_ | (dsimp only; refine Nat.le_trans ?_ (Nat.le_add_right _ _)) | with_reducible refine Nat.le_trans ?_ (Nat.le_add_right _ _) | (with_reducible refine bstep ?_ (by assumption))))); obtain ⟨kc2, kf2, kz2, ky2, kx2, kv2, ku2⟩ := bcell hb2; obtain ⟨jc2, jf2, jz2, jy2, jx2, jv2, ju2⟩ := bcell ha2)
    go_wp2
    refine bodyPost_ret (v := .tuple #[.string X, .bool true]) (by simp only [results, Tryd.results7]; go_simp) rfl ⟨rfl, ?_⟩
    (repeat (first | with_reducible exact Below.refl _ _ | with_reducible assumption | with_reducible refine balloc ?_ _ | with_reducible refine bdrew ?_ | with_reducible refine below_drewN ?_ _ | with_reducible refine bset ?_ ?_ _ | with_reducible exact Nat.le_refl _ | with_reducible refine bsize ?_ | (dsimp only; refine Nat.le_trans ?_ (Nat.le_add_right _ _)) | with_reducible refine Nat.le_trans ?_ (Nat.le_add_right _ _) | (with_reducible refine bstep ?_ (by assumption))))
set_option maxHeartbeats 1600000 in
theorem amountText_impl (n d : Int) (bn : n ≤ 9223372036854775807) (bd : d ≤ 9223372036854775807) (w : World) (ht : TabOk w) :
    Calls Tryd.prog 9 #[.agg #[.int .i64 n, .int .i64 d]] w fun e w' => e = .returned (.tuple #[.string (atS n d), .bool (shB n d)]) ∧ Below w.heap.size w w' := by
  have HG := Lib.hid (fun W => isam_impl n d bn bd W)
  have HT := Lib.hid (fun (W : World) (h : Below w.heap.size w W) => tab_on ht h)
  cases h : amB n d
  · have e : atS n d = { data := #[] } := by unfold atS; rw [shB_no n d h]; rfl
    rw [e, shB_no n d h]
    rw [h] at HG
    clear h e
    go_enter Tryd.func9, Tryd.ntmps9
    (go_wp2_with fail; refine (HG.out _).mono ?_; rintro e w1 ⟨rfl, hb1⟩; have ha1 := hb1; obtain ⟨kc1, kf1, kz1, ky1, kx1, kv1, ku1⟩ := bcell hb1)
    go_wp2
    refine bodyPost_ret (v := .tuple #[.string { data := #[] }, .bool false]) (by simp only [results, Tryd.results9]; go_simp) rfl ⟨rfl, ?_⟩
    (repeat (first | with_reducible exact Below.refl _ _ | with_reducible assumption | with_reducible refine balloc ?_ _ | with_reducible refine bdrew ?_ | with_reducible refine below_drewN ?_ _ | with_reducible refine bset ?_ ?_ _ | with_reducible exact Nat.le_refl _ | with_reducible refine bsize ?_ | (dsimp only; refine Nat.le_trans ?_ (Nat.le_add_right _ _)) | with_reducible refine Nat.le_trans ?_ (Nat.le_add_right _ _) | (with_reducible refine bstep ?_ (by assumption))))
  obtain ⟨h0, h1, d0, d1⟩ := am_of n d h
  have hq0 := Int.ediv_nonneg h0 (show 0 ≤ d by omega)
  have hq1 := Int.ediv_le_self d h0
  have hr0 := Int.emod_nonneg n (show d ≠ 0 by omega)
  have hr1 := Int.emod_lt_of_pos n (show 0 < d by omega)
  have htd : n.tdiv d = n / d := Int.tdiv_eq_ediv_of_nonneg h0
  have htm : n.tmod d = n % d := Int.tmod_eq_emod_of_nonneg h0
  have es : shB n d = decide (n / d ≤ 999999 ∧ d ≤ 999999) := by unfold shB; rw [h]; rfl
  have ea : atS n d = if n / d ≤ 999999 ∧ d ≤ 999999 then txS n d else { data := #[] } := by unfold atS; rw [es]; simp
  have HQ := Lib.hid (fun W t => itoa_dec (n / d) hq0 (by omega) W t)
  have HR := Lib.hid (fun W t => itoa_dec (n % d) hr0 (by omega) W t)
  have HD := Lib.hid (fun W t => itoa_dec d (by omega) (by omega) W t)
  have sA := decS_size (n / d) (by omega)
  have sB := decS_size (n % d) (by omega)
  have sC := decS_size d (by omega)
  rw [ea, es]
  unfold txS
  rw [h] at HG
  generalize decS (n / d) = A at *
  generalize decS (n % d) = B at *
  generalize decS d = C at *
  generalize n / d = q at *
  generalize n % d = r at *
  have hdz : ¬ d = 0 := by omega
  have wq : IntKind.i64.wrap q = q := IntWalk.i64_in _ (by omega)
  have wr : IntKind.i64.wrap r = r := IntWalk.i64_in _ (by omega)
  have z1 : ¬ 9223372036854775807 < 1 + B.size := by omega
  have z2 : ¬ 9223372036854775807 < 1 + B.size + 1 := by omega
  have z3 : ¬ 9223372036854775807 < 1 + B.size + 1 + C.size := by omega
  have z4 : ¬ 9223372036854775807 < A.size + (1 + B.size + 1 + C.size) := by omega
  clear h es ea
  by_cases a : q ≤ 999999 ∧ d ≤ 999999
  · rw [if_pos a, decide_eq_true a]
    obtain ⟨a1, a2⟩ := a
    by_cases hr : 0 < r
    · rw [if_pos hr]
      go_enter Tryd.func9, Tryd.ntmps9
      (go_wp2_with fail; refine (HG.out _).mono ?_; rintro e w1 ⟨rfl, hb1⟩; have ha1 := hb1; obtain ⟨kc1, kf1, kz1, ky1, kx1, kv1, ku1⟩ := bcell hb1)
      have c1 : w1.cell? ⟨w.heap.size, 0, none⟩ = some (.int .i64 n) := by rw [kc1 _ _ (by simp)]; simp
      have c2 : w1.cell? ⟨w.heap.size, 1, none⟩ = some (.int .i64 d) := by rw [kc1 _ _ (by simp)]; simp
      have c3 := kz1 w.heap.size (by simp)
      have hbw : Below w.heap.size w w1 := by (repeat (first | with_reducible exact Below.refl _ _ | with_reducible assumption | with_reducible refine balloc ?_ _ | with_reducible refine bdrew ?_ | with_reducible refine below_drewN ?_ _ | with_reducible refine bset ?_ ?_ _ | with_reducible exact Nat.le_refl _ | with_reducible refine bsize ?_ | (dsimp only; refine Nat.le_trans ?_ (Nat.le_add_right _ _)) | with_reducible refine Nat.le_trans ?_ (Nat.le_add_right _ _) | (with_reducible refine bstep ?_ (by assumption))))
      clear ha1 hb1 kc1 kf1 kz1 ky1 kx1 kv1 ku1
      go_wp2_with fail
      all_goals (try go_region)
      all_goals (try (go_wp2_with fail))
      refine (HQ.out _ (HT.out _ (by (repeat (first | with_reducible exact Below.refl _ _ | with_reducible assumption | with_reducible refine balloc ?_ _ | with_reducible refine bdrew ?_ | with_reducible refine below_drewN ?_ _ | with_reducible refine bset ?_ ?_ _ | with_reducible exact Nat.le_refl _ | with_reducible refine bsize ?_ | (dsimp only; refine Nat.le_trans ?_ (Nat.le_add_right _ _)) | with_reducible refine Nat.le_trans ?_ (Nat.le_add_right _ _) | (with_reducible refine bstep ?_ (by assumption))))))).mono ?_
      rintro e w2 ⟨rfl, hb2⟩
      have f2 : Below w1.heap.size w1 w2 := bstep (by (repeat (first | with_reducible exact Below.refl _ _ | with_reducible assumption | with_reducible refine balloc ?_ _ | with_reducible refine bdrew ?_ | with_reducible refine below_drewN ?_ _ | with_reducible refine bset ?_ ?_ _ | with_reducible exact Nat.le_refl _ | with_reducible refine bsize ?_ | (dsimp only; refine Nat.le_trans ?_ (Nat.le_add_right _ _)) | with_reducible refine Nat.le_trans ?_ (Nat.le_add_right _ _) | (with_reducible refine bstep ?_ (by assumption))))) hb2
      replace c1 := keepa f2 c3 c1
      replace c2 := keepa f2 c3 c2
      replace c3 := Nat.lt_of_lt_of_le c3 f2.size
      replace hbw := bstep hbw f2
      clear f2 hb2
      go_upto_region 8 with fail
      refine wp_region_held_drew (S := (fun W => Below w.heap.size w W ∧ W.cell? ⟨w.heap.size, 0, none⟩ = some (.int .i64 n) ∧ W.cell? ⟨w.heap.size, 1, none⟩ = some (.int .i64 d) ∧ w.heap.size < W.heap.size)) (by kernel_rfl) ?_ (fun hHeld0 => ?_)
      · (try dsimp only); ((go_split_ands; (repeat' with_reducible apply And.intro) <;> first | with_reducible assumption | ((repeat (first | with_reducible exact Below.refl _ _ | with_reducible assumption | with_reducible refine balloc ?_ _ | with_reducible refine bdrew ?_ | with_reducible refine below_drewN ?_ _ | with_reducible refine bset ?_ ?_ _ | with_reducible exact Nat.le_refl _ | with_reducible refine bsize ?_ | (dsimp only; refine Nat.le_trans ?_ (Nat.le_add_right _ _)) | with_reducible refine Nat.le_trans ?_ (Nat.le_add_right _ _) | (with_reducible refine bstep ?_ (by assumption)))); done) | (simp [go_sem]; done) | go_keep))
      (refine wpAnyH_take (i := 0) (oi := { dst := some 31, op := Op.move (Operand.tmp 6), type := 9, pos := "l1_amount.go:263", after := #[], guard := none }) (v := ?_) rfl (by kernel_rfl) (by kernel_rfl) (by kernel_rfl) (fun _ _ _ h => h) (Or.inl ⟨by rfl, ?_⟩) (by assumption) ?_; rotate_left; (focus (intro w hSw; (try dsimp only at hSw); go_simp; try with_reducible rfl)); (try simp only [Act.put, List.setIfInBounds_toArray, List.set_cons_zero, List.set_cons_succ]))
      (refine wpAnyH_take (i := 1) (oi := { dst := some 32, op := Op.move (Operand.tmp 5), type := 3, pos := "l1_amount.go:263", after := #[], guard := none }) (v := ?_) rfl (by kernel_rfl) (by kernel_rfl) (by kernel_rfl) (fun _ _ _ h => h) (Or.inl ⟨by rfl, ?_⟩) (by assumption) ?_; rotate_left; (focus (intro w hSw; (try dsimp only at hSw); go_simp; try with_reducible rfl)); (try simp only [Act.put, List.setIfInBounds_toArray, List.set_cons_zero, List.set_cons_succ]))
      (refine wpAnyH_take (i := 5) (oi := { dst := some 36, op := Op.fieldAddr 26 (Operand.tmp 1) 1, type := 0, pos := "l1_amount.go:263", after := #[], guard := none }) (v := ?_) rfl (by kernel_rfl) (by kernel_rfl) (by kernel_rfl) (fun _ _ _ h => h) (Or.inl ⟨by rfl, ?_⟩) (by assumption) ?_; rotate_left; (focus (intro w hSw; (try dsimp only at hSw); go_simp; try with_reducible rfl)); (try simp only [Act.put, List.setIfInBounds_toArray, List.set_cons_zero, List.set_cons_succ]))
      (refine wpAnyH_take (i := 6) (oi := { dst := some 37, op := Op.load 3 (Operand.tmp 36), type := 3, pos := "l1_amount.go:263", after := #[{ on := 5, ground := Ground.data }], guard := none }) (v := ?_) rfl (by kernel_rfl) (by kernel_rfl) (by kernel_rfl) (fun _ _ _ h => h) (Or.inl ⟨by rfl, ?_⟩) (by assumption) ?_; rotate_left; (focus (intro w hSw; (try dsimp only at hSw); go_simp; try with_reducible rfl)); (try simp only [Act.put, List.setIfInBounds_toArray, List.set_cons_zero, List.set_cons_succ]))
      (refine wpAnyH_ready (rs := [2]) (by kernel_rfl) (by simp) ?_; refine AllReadyH.cons (o := { dst := some 33, op := Op.call { callee := Callee.value (Operand.func 22), args := #[Operand.tmp 32], argTypes := #[3] }, type := 9, pos := "l1_amount.go:263", after := #[{ on := 1, ground := Ground.data }], guard := none }) rfl (fun K hK => ?_) AllReadyH.nil; go_simp; (refine (HR.out _ (HT.out _ (by (repeat (first | with_reducible exact Below.refl _ _ | with_reducible assumption | with_reducible refine balloc ?_ _ | with_reducible refine bdrew ?_ | with_reducible refine below_drewN ?_ _ | with_reducible refine bset ?_ ?_ _ | with_reducible exact Nat.le_refl _ | with_reducible refine bsize ?_ | (dsimp only; refine Nat.le_trans ?_ (Nat.le_add_right _ _)) | with_reducible refine Nat.le_trans ?_ (Nat.le_add_right _ _) | (with_reducible refine bstep ?_ (by assumption))))))).mono ?_; rintro e w3 ⟨rfl, hb3⟩; go_split_ands; (have f1 : w3.cell? ⟨w.heap.size, 0, none⟩ = some (.int .i64 n) := keepa hb3 (by with_reducible assumption) (by with_reducible assumption)); (have f2 : w3.cell? ⟨w.heap.size, 1, none⟩ = some (.int .i64 d) := keepa hb3 (by with_reducible assumption) (by with_reducible assumption)); (have f3 : w.heap.size < w3.heap.size := Nat.lt_of_lt_of_le (by with_reducible assumption) hb3.size); (have f4 : Below w.heap.size w w3 := bstep (by with_reducible assumption) hb3)); (first | refine hK.out _ _ ?_ (fun hHeld1 => ?_) | (go_wp2_with fail; refine hK.out _ _ ?_ (fun hHeld1 => ?_))); (focus ((try dsimp only); ((go_split_ands; (repeat' with_reducible apply And.intro) <;> first | with_reducible assumption | ((repeat (first | with_reducible exact Below.refl _ _ | with_reducible assumption | with_reducible refine balloc ?_ _ | with_reducible refine bdrew ?_ | with_reducible refine below_drewN ?_ _ | with_reducible refine bset ?_ ?_ _ | with_reducible exact Nat.le_refl _ | with_reducible refine bsize ?_ | (dsimp only; refine Nat.le_trans ?_ (Nat.le_add_right _ _)) | with_reducible refine Nat.le_trans ?_ (Nat.le_add_right _ _) | (with_reducible refine bstep ?_ (by assumption)))); done) | (simp [go_sem]; done) | go_keep)))); clear hK K; (try clear hHeld0); (try simp only [Act.put, List.setIfInBounds_toArray, List.set_cons_zero, List.set_cons_succ]))
      (refine wpAnyH_take (i := 3) (oi := { dst := some 34, op := Op.binOp BinOp.add 9 (Operand.const (Value.string { data := #[43] })) (Operand.tmp 33) 9, type := 9, pos := "l1_amount.go:263", after := #[{ on := 2, ground := Ground.data }], guard := none }) (v := ?_) rfl (by kernel_rfl) (by kernel_rfl) (by kernel_rfl) (fun _ _ _ h => h) (Or.inl ⟨by rfl, ?_⟩) (by assumption) ?_; rotate_left; (focus (intro w hSw; (try dsimp only at hSw); go_simp; try with_reducible rfl)); (try simp only [Act.put, List.setIfInBounds_toArray, List.set_cons_zero, List.set_cons_succ]))
      (refine wpAnyH_take (i := 4) (oi := { dst := some 35, op := Op.binOp BinOp.add 9 (Operand.tmp 34) (Operand.const (Value.string { data := #[47] })) 9, type := 9, pos := "l1_amount.go:263", after := #[{ on := 3, ground := Ground.data }], guard := none }) (v := ?_) rfl (by kernel_rfl) (by kernel_rfl) (by kernel_rfl) (fun _ _ _ h => h) (Or.inl ⟨by rfl, ?_⟩) (by assumption) ?_; rotate_left; (focus (intro w hSw; (try dsimp only at hSw); go_simp; try with_reducible rfl)); (try simp only [Act.put, List.setIfInBounds_toArray, List.set_cons_zero, List.set_cons_succ]))
      (refine wpAnyH_ready (rs := [7]) (by kernel_rfl) (by simp) ?_; refine AllReadyH.cons (o := { dst := some 38, op := Op.call { callee := Callee.value (Operand.func 22), args := #[Operand.tmp 37], argTypes := #[3] }, type := 9, pos := "l1_amount.go:263", after := #[{ on := 6, ground := Ground.data }, { on := 2, ground := Ground.chain }], guard := none }) rfl (fun K hK => ?_) AllReadyH.nil; go_simp; (refine (HD.out _ (HT.out _ (by (repeat (first | with_reducible exact Below.refl _ _ | with_reducible assumption | with_reducible refine balloc ?_ _ | with_reducible refine bdrew ?_ | with_reducible refine below_drewN ?_ _ | with_reducible refine bset ?_ ?_ _ | with_reducible exact Nat.le_refl _ | with_reducible refine bsize ?_ | (dsimp only; refine Nat.le_trans ?_ (Nat.le_add_right _ _)) | with_reducible refine Nat.le_trans ?_ (Nat.le_add_right _ _) | (with_reducible refine bstep ?_ (by assumption))))))).mono ?_; rintro e w3 ⟨rfl, hb3⟩; go_split_ands; (have f1 : w3.cell? ⟨w.heap.size, 0, none⟩ = some (.int .i64 n) := keepa hb3 (by with_reducible assumption) (by with_reducible assumption)); (have f2 : w3.cell? ⟨w.heap.size, 1, none⟩ = some (.int .i64 d) := keepa hb3 (by with_reducible assumption) (by with_reducible assumption)); (have f3 : w.heap.size < w3.heap.size := Nat.lt_of_lt_of_le (by with_reducible assumption) hb3.size); (have f4 : Below w.heap.size w w3 := bstep (by with_reducible assumption) hb3)); (first | refine hK.out _ _ ?_ (fun hHeld2 => ?_) | (go_wp2_with fail; refine hK.out _ _ ?_ (fun hHeld2 => ?_))); (focus ((try dsimp only); ((go_split_ands; (repeat' with_reducible apply And.intro) <;> first | with_reducible assumption | ((repeat (first | with_reducible exact Below.refl _ _ | with_reducible assumption | with_reducible refine balloc ?_ _ | with_reducible refine bdrew ?_ | with_reducible refine below_drewN ?_ _ | with_reducible refine bset ?_ ?_ _ | with_reducible exact Nat.le_refl _ | with_reducible refine bsize ?_ | (dsimp only; refine Nat.le_trans ?_ (Nat.le_add_right _ _)) | with_reducible refine Nat.le_trans ?_ (Nat.le_add_right _ _) | (with_reducible refine bstep ?_ (by assumption)))); done) | (simp [go_sem]; done) | go_keep)))); clear hK K; (try clear hHeld1); (try simp only [Act.put, List.setIfInBounds_toArray, List.set_cons_zero, List.set_cons_succ]))
      (refine wpAnyH_take (i := 8) (oi := { dst := some 39, op := Op.binOp BinOp.add 9 (Operand.tmp 35) (Operand.tmp 38) 9, type := 9, pos := "l1_amount.go:263", after := #[{ on := 4, ground := Ground.data }, { on := 7, ground := Ground.data }], guard := none }) (v := ?_) rfl (by kernel_rfl) (by kernel_rfl) (by kernel_rfl) (fun _ _ _ h => h) (Or.inl ⟨by rfl, ?_⟩) (by assumption) ?_; rotate_left; (focus (intro w hSw; (try dsimp only at hSw); go_simp; try with_reducible rfl)); (try simp only [Act.put, List.setIfInBounds_toArray, List.set_cons_zero, List.set_cons_succ]))
      (refine wpAnyH_take (i := 9) (oi := { dst := some 40, op := Op.binOp BinOp.add 9 (Operand.tmp 31) (Operand.tmp 39) 9, type := 9, pos := "l1_amount.go:263", after := #[{ on := 0, ground := Ground.data }, { on := 8, ground := Ground.data }], guard := none }) (v := ?_) rfl (by kernel_rfl) (by kernel_rfl) (by kernel_rfl) (fun _ _ _ h => h) (Or.inl ⟨by rfl, ?_⟩) (by assumption) ?_; rotate_left; (focus (intro w hSw; (try dsimp only at hSw); go_simp; try with_reducible rfl)); (try simp only [Act.put, List.setIfInBounds_toArray, List.set_cons_zero, List.set_cons_succ]))
      (refine wpAnyH_take (i := 10) (oi := { dst := some 6, op := Op.assign (Operand.tmp 40), type := 9, pos := "l1_amount.go:263", after := #[{ on := 9, ground := Ground.data }, { on := 7, ground := Ground.chain }, { on := 0, ground := Ground.phase }, { on := 1, ground := Ground.phase }, { on := 2, ground := Ground.phase }, { on := 3, ground := Ground.phase }, { on := 4, ground := Ground.phase }, { on := 5, ground := Ground.phase }, { on := 6, ground := Ground.phase }, { on := 7, ground := Ground.phase }, { on := 8, ground := Ground.phase }, { on := 9, ground := Ground.phase }], guard := none }) (v := ?_) rfl (by kernel_rfl) (by kernel_rfl) (by kernel_rfl) (fun _ _ _ h => h) (Or.inl ⟨by rfl, ?_⟩) (by assumption) ?_; rotate_left; (focus (intro w hSw; (try dsimp only at hSw); go_simp; try with_reducible rfl)); (try simp only [Act.put, List.setIfInBounds_toArray, List.set_cons_zero, List.set_cons_succ]))
      refine wpAnyH_done (by kernel_rfl) ?_ _
      all_goals go_wp2
      all_goals refine bodyPost_ret (v := .tuple #[.string (A ++ (({ data := #[43] } ++ B) ++ { data := #[47] } ++ C)), .bool true]) (by simp only [results, Tryd.results9]; go_simp) rfl ⟨rfl, ?_⟩
      all_goals (first | with_reducible assumption | (repeat (first | with_reducible exact Below.refl _ _ | with_reducible assumption | with_reducible refine balloc ?_ _ | with_reducible refine bdrew ?_ | with_reducible refine below_drewN ?_ _ | with_reducible refine bset ?_ ?_ _ | with_reducible exact Nat.le_refl _ | with_reducible refine bsize ?_ | (dsimp only; refine Nat.le_trans ?_ (Nat.le_add_right _ _)) | with_reducible refine Nat.le_trans ?_ (Nat.le_add_right _ _) | (with_reducible refine bstep ?_ (by assumption)))))
    · rw [if_neg hr]
      go_enter Tryd.func9, Tryd.ntmps9
      (go_wp2_with fail; refine (HG.out _).mono ?_; rintro e w1 ⟨rfl, hb1⟩; have ha1 := hb1; obtain ⟨kc1, kf1, kz1, ky1, kx1, kv1, ku1⟩ := bcell hb1)
      have c1 : w1.cell? ⟨w.heap.size, 0, none⟩ = some (.int .i64 n) := by rw [kc1 _ _ (by simp)]; simp
      have c2 : w1.cell? ⟨w.heap.size, 1, none⟩ = some (.int .i64 d) := by rw [kc1 _ _ (by simp)]; simp
      have hbw : Below w.heap.size w w1 := by (repeat (first | with_reducible exact Below.refl _ _ | with_reducible assumption | with_reducible refine balloc ?_ _ | with_reducible refine bdrew ?_ | with_reducible refine below_drewN ?_ _ | with_reducible refine bset ?_ ?_ _ | with_reducible exact Nat.le_refl _ | with_reducible refine bsize ?_ | (dsimp only; refine Nat.le_trans ?_ (Nat.le_add_right _ _)) | with_reducible refine Nat.le_trans ?_ (Nat.le_add_right _ _) | (with_reducible refine bstep ?_ (by assumption))))
      clear ha1 hb1 kc1 kf1 kz1 ky1 kx1 kv1 ku1
      go_wp2_with fail
      all_goals (try go_region)
      all_goals (try (go_wp2_with fail))
      refine (HQ.out _ (HT.out _ (by (repeat (first | with_reducible exact Below.refl _ _ | with_reducible assumption | with_reducible refine balloc ?_ _ | with_reducible refine bdrew ?_ | with_reducible refine below_drewN ?_ _ | with_reducible refine bset ?_ ?_ _ | with_reducible exact Nat.le_refl _ | with_reducible refine bsize ?_ | (dsimp only; refine Nat.le_trans ?_ (Nat.le_add_right _ _)) | with_reducible refine Nat.le_trans ?_ (Nat.le_add_right _ _) | (with_reducible refine bstep ?_ (by assumption))))))).mono ?_
      rintro e w2 ⟨rfl, hb2⟩
      go_wp2
      refine bodyPost_ret (v := .tuple #[.string A, .bool true]) (by simp only [results, Tryd.results9]; go_simp) rfl ⟨rfl, ?_⟩
      (repeat (first | with_reducible exact Below.refl _ _ | with_reducible assumption | with_reducible refine balloc ?_ _ | with_reducible refine bdrew ?_ | with_reducible refine below_drewN ?_ _ | with_reducible refine bset ?_ ?_ _ | with_reducible exact Nat.le_refl _ | with_reducible refine bsize ?_ | (dsimp only; refine Nat.le_trans ?_ (Nat.le_add_right _ _)) | with_reducible refine Nat.le_trans ?_ (Nat.le_add_right _ _) | (with_reducible refine bstep ?_ (by assumption))))
  · rw [if_neg a, decide_eq_false a]
    go_enter Tryd.func9, Tryd.ntmps9
    (go_wp2_with fail; refine (HG.out _).mono ?_; rintro e w1 ⟨rfl, hb1⟩; have ha1 := hb1; obtain ⟨kc1, kf1, kz1, ky1, kx1, kv1, ku1⟩ := bcell hb1)
    have c1 : w1.cell? ⟨w.heap.size, 0, none⟩ = some (.int .i64 n) := by rw [kc1 _ _ (by simp)]; simp
    have c2 : w1.cell? ⟨w.heap.size, 1, none⟩ = some (.int .i64 d) := by rw [kc1 _ _ (by simp)]; simp
    have hbw : Below w.heap.size w w1 := by (repeat (first | with_reducible exact Below.refl _ _ | with_reducible assumption | with_reducible refine balloc ?_ _ | with_reducible refine bdrew ?_ | with_reducible refine below_drewN ?_ _ | with_reducible refine bset ?_ ?_ _ | with_reducible exact Nat.le_refl _ | with_reducible refine bsize ?_ | (dsimp only; refine Nat.le_trans ?_ (Nat.le_add_right _ _)) | with_reducible refine Nat.le_trans ?_ (Nat.le_add_right _ _) | (with_reducible refine bstep ?_ (by assumption))))
    clear ha1 hb1 kc1 kf1 kz1 ky1 kx1 kv1 ku1
    by_cases a1 : q ≤ 999999
    all_goals
      first | have a2 : ¬ d ≤ 999999 := fun h => a ⟨a1, h⟩ | skip
      go_wp2_with fail
    all_goals (try go_region)
    all_goals (try go_wp2)
    all_goals refine bodyPost_ret (v := .tuple #[.string { data := #[] }, .bool false]) (by simp only [results, Tryd.results9]; go_simp) rfl ⟨rfl, ?_⟩
    all_goals (repeat (first | with_reducible exact Below.refl _ _ | with_reducible assumption | with_reducible refine balloc ?_ _ | with_reducible refine bdrew ?_ | with_reducible refine below_drewN ?_ _ | with_reducible refine bset ?_ ?_ _ | with_reducible exact Nat.le_refl _ | with_reducible refine bsize ?_ | (dsimp only; refine Nat.le_trans ?_ (Nat.le_add_right _ _)) | with_reducible refine Nat.le_trans ?_ (Nat.le_add_right _ _) | (with_reducible refine bstep ?_ (by assumption))))
end Go.Proofs.YtffafiidblamkaaDoor
