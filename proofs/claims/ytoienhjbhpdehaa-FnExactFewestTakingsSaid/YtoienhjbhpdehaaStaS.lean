/- Stations checked, of the program and of the model. -/
import Derived.Test.YtoienhjbhpdehaaStaT
import Derived.Test.YtoienhjbhpdehaaMake
import Derived.ChangeKeysEq
import Derived.Deep.RegionHeld3
import Derived.Deep.DeepCutAuto
namespace Go.Proofs.Ytoienhjbhpdehaa
open Go.ChangeShapes Go.WideShapes Go.ChangeAt Go.RowKit Go.Joins
set_option maxRecDepth 100000
set_option linter.unusedVariables false
set_option linter.unusedSimpArgs false

def staB (x y : Int) : Bool := inB x 0 1000 && inB y 0 1000
def staP (p : StaV) : Bool := staB p.a p.b
def clI (x : Int) : Int := if 1000 < if x < 0 then 0 else x then 1000 else if x < 0 then 0 else x
theorem clI_is (n : Int) : (n == clI n) = inB n 0 1000 := by
  unfold clI inB
  by_cases h1 : n < 0
  · have h2 : ¬ (0 ≤ n ∧ n ≤ 1000) := by omega
    simp [h2, h1]; omega
  · by_cases h2 : 1000 < n
    · have h3 : ¬ (0 ≤ n ∧ n ≤ 1000) := by omega
      simp [h3, h1, h2]; omega
    · simp [h1, h2]; omega
theorem gauge_impl (n d : Int) (w : World) :
    Calls Try.prog 19 #[.agg #[.int .i64 n, .int .i64 d]] w fun e w' => e = .returned (.agg #[.int .i64 n, .int .i64 d]) ∧ Below w.heap.size w w' := by
  go_enter Try.func19, Try.ntmps19
  go_wp2
  refine bodyPost_ret (v := .agg #[.int .i64 n, .int .i64 d]) (by simp only [results, Try.results19]; go_simp) rfl ⟨rfl, ?_⟩
  (repeat (first | with_reducible exact Below.refl _ _ | with_reducible assumption | with_reducible refine balloc ?_ _ | with_reducible refine bdrew ?_ | with_reducible refine below_drewN ?_ _ | with_reducible refine bset ?_ ?_ _ | with_reducible exact Nat.le_refl _ | with_reducible refine bsize ?_ | (dsimp only; refine Nat.le_trans ?_ (Nat.le_add_right _ _)) | with_reducible refine Nat.le_trans ?_ (Nat.le_add_right _ _) | (with_reducible refine bstep ?_ (by assumption))))
theorem infoInt1 : (Try.prog.info? 3).map (fun i => (i.zero, i.size, i.bytes)) = some (some (.int .i64 0), 1, 8) := by kernel_rfl
@[go_sem] theorem eq_gauge (x y a b : Int) (W : World) :
    (Op.equalIn 10000 44 (.agg #[.int .i64 x, .int .i64 y]) (.agg #[.int .i64 a, .int .i64 b])).run Try.prog W = .ok (x == a && y == b) W := by
  obtain ⟨i0, hi, _, _, _⟩ := info_parts infoInt1
  rw [show (10000 : Nat) = 9999 + 1 from rfl, run_equalIn_array W 9999 _ _ Try.underlying44 hi, cellsInt, show List.range 2 = [0, 1] from rfl]
  simp [Op.eqItems, go_sem]
  by_cases h1 : x = a <;> by_cases h2 : y = b <;> simp [h1, h2]
set_option maxHeartbeats 1600000 in
theorem held_impl (x y : Int) (bx : -9223372036854775808 ≤ x ∧ x ≤ 9223372036854775807) (bz : -9223372036854775808 ≤ y ∧ y ≤ 9223372036854775807) (w : World) :
    Calls Try.prog 20 #[.agg #[.int .i64 x, .int .i64 y]] w fun e w' => e = .returned (.agg #[.int .i64 (clI x), .int .i64 (clI y)]) ∧ Below w.heap.size w w' := by
  go_enter Try.func20, Try.ntmps20
  go_wp2
  go_loopw [3, 4] (fun u i wr => ∃ j : Int, 0 ≤ j ∧ j ≤ 2 ∧ i = .int .i64 j ∧ wr.cell? ⟨w.heap.size, 0, none⟩ = some (.int .i64 (if 0 < j then clI x else x)) ∧ wr.cell? ⟨w.heap.size, 1, none⟩ = some (.int .i64 (if 1 < j then clI y else y)) ∧
      wr.frozen? ⟨w.heap.size, 0, none⟩ = false ∧ wr.frozen? ⟨w.heap.size, 1, none⟩ = false ∧ (∃ c, wr.cell? ⟨w.heap.size + 1, 0, none⟩ = some c) ∧ (∃ c, wr.cell? ⟨w.heap.size + 1, 1, none⟩ = some c) ∧
      wr.frozen? ⟨w.heap.size + 1, 0, none⟩ = false ∧ wr.frozen? ⟨w.heap.size + 1, 1, none⟩ = false ∧ w.heap.size + 1 < wr.heap.size ∧ Below w.heap.size w wr) (fun _ i _ => (2 - intOf i).toNat)
  case atStart =>
    refine ⟨0, by omega, by omega, rfl, ?_, ?_, ?_, ?_, ?_, ?_, ?_, ?_, ?_, ?_⟩
    all_goals first | ((repeat (first | with_reducible exact Below.refl _ _ | with_reducible assumption | with_reducible refine balloc ?_ _ | with_reducible refine bdrew ?_ | with_reducible refine below_drewN ?_ _ | with_reducible refine bset ?_ ?_ _ | with_reducible exact Nat.le_refl _ | with_reducible refine bsize ?_ | (dsimp only; refine Nat.le_trans ?_ (Nat.le_add_right _ _)) | with_reducible refine Nat.le_trans ?_ (Nat.le_add_right _ _) | (with_reducible refine bstep ?_ (by assumption)))); done) | (simp [go_sem]; done)
  case round =>
    obtain ⟨j, hj0, hj2, rfl, q0, q1, q2, q3, ⟨c0, r0⟩, ⟨c1, r1⟩, r2, r3, hs, hbel⟩ := hrel
    have z0 : w.heap.size < wr.heap.size := by omega
    rcases (show j = 0 ∨ j = 1 ∨ j = 2 by omega) with rfl | rfl | rfl
    · simp at q0 q1
      clear hj0 hj2
      go_wp2
      go_roundw
      case rel =>
        refine ⟨1, by omega, by omega, rfl, ?_, ?_, ?_, ?_, ?_, ?_, ?_, ?_, ?_, ?_⟩
        all_goals first | ((repeat (first | with_reducible exact Below.refl _ _ | with_reducible assumption | with_reducible refine balloc ?_ _ | with_reducible refine bdrew ?_ | with_reducible refine below_drewN ?_ _ | with_reducible refine bset ?_ ?_ _ | with_reducible exact Nat.le_refl _ | with_reducible refine bsize ?_ | (dsimp only; refine Nat.le_trans ?_ (Nat.le_add_right _ _)) | with_reducible refine Nat.le_trans ?_ (Nat.le_add_right _ _) | (with_reducible refine bstep ?_ (by assumption)))); done) | (simp [go_sem, q0, q1, q2, q3, r0, r1, r2, r3, z0, hs, clI]; done)
      case measure => simp [intOf]
    · simp at q0 q1
      clear hj0 hj2
      go_wp2
      go_roundw
      case rel =>
        refine ⟨2, by omega, by omega, rfl, ?_, ?_, ?_, ?_, ?_, ?_, ?_, ?_, ?_, ?_⟩
        all_goals first | ((repeat (first | with_reducible exact Below.refl _ _ | with_reducible assumption | with_reducible refine balloc ?_ _ | with_reducible refine bdrew ?_ | with_reducible refine below_drewN ?_ _ | with_reducible refine bset ?_ ?_ _ | with_reducible exact Nat.le_refl _ | with_reducible refine bsize ?_ | (dsimp only; refine Nat.le_trans ?_ (Nat.le_add_right _ _)) | with_reducible refine Nat.le_trans ?_ (Nat.le_add_right _ _) | (with_reducible refine bstep ?_ (by assumption)))); done) | (simp [go_sem, q0, q1, q2, q3, r0, r1, r2, r3, z0, hs, clI]; done)
      case measure => simp [intOf]
    · simp at q0 q1
      clear hj0 hj2
      go_wp2
      refine bodyPost_ret (v := .agg #[.int .i64 (clI x), .int .i64 (clI y)]) (by simp only [results, Try.results20]; go_simp) rfl ⟨rfl, ?_⟩
      (repeat (first | with_reducible exact Below.refl _ _ | with_reducible assumption | with_reducible refine balloc ?_ _ | with_reducible refine bdrew ?_ | with_reducible refine below_drewN ?_ _ | with_reducible refine bset ?_ ?_ _ | with_reducible exact Nat.le_refl _ | with_reducible refine bsize ?_ | (dsimp only; refine Nat.le_trans ?_ (Nat.le_add_right _ _)) | with_reducible refine Nat.le_trans ?_ (Nat.le_add_right _ _) | (with_reducible refine bstep ?_ (by assumption))))
set_option maxHeartbeats 1600000 in
theorem station_impl (x y : Int) (bx : -9223372036854775808 ≤ x ∧ x ≤ 9223372036854775807) (bz : -9223372036854775808 ≤ y ∧ y ≤ 9223372036854775807) (w : World) :
    Calls Try.prog 14 #[.agg #[.int .i64 x, .int .i64 y]] w fun e w' => e = .returned (.bool (staB x y)) ∧ Below w.heap.size w w' := by
  have hH := Lib.hid (fun W => held_impl x y bx bz W)
  clear bx bz
  have hE : staB x y = (x == clI x && y == clI y) := by rw [clI_is, clI_is]; rfl
  rw [hE]
  clear hE
  generalize clI x = cx at *
  generalize clI y = cy at *
  go_enter Try.func14, Try.ntmps14
  go_upto_region 1 with fail
  refine wp_region_held_drew (S := (fun W => Below w.heap.size w W ∧ w.heap.size < W.heap.size ∧ W.cell? ⟨w.heap.size, 0, none⟩ = some (.int .i64 x) ∧ W.cell? ⟨w.heap.size, 1, none⟩ = some (.int .i64 y))) (by kernel_rfl) ?_ (fun hHeld0 => ?_)
  · (try dsimp only); (go_split_ands; (repeat' with_reducible apply And.intro) <;> first | with_reducible assumption | ((repeat (first | with_reducible exact Below.refl _ _ | with_reducible assumption | with_reducible refine balloc ?_ _ | with_reducible refine bdrew ?_ | with_reducible refine below_drewN ?_ _ | with_reducible refine bset ?_ ?_ _ | with_reducible exact Nat.le_refl _ | with_reducible refine bsize ?_ | (dsimp only; refine Nat.le_trans ?_ (Nat.le_add_right _ _)) | with_reducible refine Nat.le_trans ?_ (Nat.le_add_right _ _) | (with_reducible refine bstep ?_ (by assumption)))); done) | (simp [go_sem]; done) | go_keep)
  (refine wpAnyH_take (i := 0) (oi := { dst := some 3, op := Op.load 34 (Operand.tmp 1), type := 34, pos := "l6_well.go:41", after := #[], guard := none }) (v := ?_) rfl (by kernel_rfl) (by kernel_rfl) (by kernel_rfl) (fun _ _ _ h => h) (Or.inl ⟨by rfl, ?_⟩) (by assumption) ?_; rotate_left; (focus (intro w hSw; (try dsimp only at hSw); go_simp; try with_reducible rfl)); (try simp only [Act.put, List.setIfInBounds_toArray, List.set_cons_zero, List.set_cons_succ]))
  (refine wpAnyH_take (i := 2) (oi := { dst := some 5, op := Op.load 34 (Operand.tmp 1), type := 34, pos := "l6_well.go:41", after := #[], guard := none }) (v := ?_) rfl (by kernel_rfl) (by kernel_rfl) (by kernel_rfl) (fun _ _ _ h => h) (Or.inl ⟨by rfl, ?_⟩) (by assumption) ?_; rotate_left; (focus (intro w hSw; (try dsimp only at hSw); go_simp; try with_reducible rfl)); (try simp only [Act.put, List.setIfInBounds_toArray, List.set_cons_zero, List.set_cons_succ]))
  (refine wpAnyH_ready (rs := [1]) (by kernel_rfl) (by simp) ?_; refine AllReadyH.cons (o := { dst := some 4, op := Op.call { callee := Callee.value (Operand.func 19), args := #[Operand.tmp 3], argTypes := #[34] }, type := 44, pos := "l6_well.go:41", after := #[{ on := 0, ground := Ground.data }], guard := none }) rfl (fun K hK => ?_) AllReadyH.nil; go_simp; (first | (go_at_call 19; refine (gauge_impl _ _ _).mono ?_) | (go_at_call 20; refine (hH.out _).mono ?_)); rintro e w3 ⟨rfl, hb3⟩; go_split_ands; (have f5 := bstep (by with_reducible assumption : Below w.heap.size w _) hb3); (have f6 := Nat.lt_of_lt_of_le (show w.heap.size < _ by with_reducible assumption) hb3.size); (have f7 : w3.cell? ⟨w.heap.size, 0, none⟩ = some (.int .i64 x) := keepa hb3 (by with_reducible assumption) (by with_reducible assumption)); (have f8 : w3.cell? ⟨w.heap.size, 1, none⟩ = some (.int .i64 y) := keepa hb3 (by with_reducible assumption) (by with_reducible assumption)); (first | refine hK.out _ _ ?_ (fun hHeld1 => ?_) | (go_wp2_with fail; refine hK.out _ _ ?_ (fun hHeld1 => ?_))); (focus ((try dsimp only); (go_split_ands; (repeat' with_reducible apply And.intro) <;> first | with_reducible assumption | ((repeat (first | with_reducible exact Below.refl _ _ | with_reducible assumption | with_reducible refine balloc ?_ _ | with_reducible refine bdrew ?_ | with_reducible refine below_drewN ?_ _ | with_reducible refine bset ?_ ?_ _ | with_reducible exact Nat.le_refl _ | with_reducible refine bsize ?_ | (dsimp only; refine Nat.le_trans ?_ (Nat.le_add_right _ _)) | with_reducible refine Nat.le_trans ?_ (Nat.le_add_right _ _) | (with_reducible refine bstep ?_ (by assumption)))); done) | (simp [go_sem]; done) | go_keep))); clear hK K; (try clear hHeld0); (try simp only [Act.put, List.setIfInBounds_toArray, List.set_cons_zero, List.set_cons_succ]))
  (refine wpAnyH_ready (rs := [3]) (by kernel_rfl) (by simp) ?_; refine AllReadyH.cons (o := { dst := some 6, op := Op.call { callee := Callee.value (Operand.func 19), args := #[Operand.tmp 5], argTypes := #[34] }, type := 44, pos := "l6_well.go:41", after := #[{ on := 2, ground := Ground.data }, { on := 1, ground := Ground.chain }], guard := none }) rfl (fun K hK => ?_) AllReadyH.nil; go_simp; (first | (go_at_call 19; refine (gauge_impl _ _ _).mono ?_) | (go_at_call 20; refine (hH.out _).mono ?_)); rintro e w3 ⟨rfl, hb3⟩; go_split_ands; (have f5 := bstep (by with_reducible assumption : Below w.heap.size w _) hb3); (have f6 := Nat.lt_of_lt_of_le (show w.heap.size < _ by with_reducible assumption) hb3.size); (have f7 : w3.cell? ⟨w.heap.size, 0, none⟩ = some (.int .i64 x) := keepa hb3 (by with_reducible assumption) (by with_reducible assumption)); (have f8 : w3.cell? ⟨w.heap.size, 1, none⟩ = some (.int .i64 y) := keepa hb3 (by with_reducible assumption) (by with_reducible assumption)); (first | refine hK.out _ _ ?_ (fun hHeld2 => ?_) | (go_wp2_with fail; refine hK.out _ _ ?_ (fun hHeld2 => ?_))); (focus ((try dsimp only); (go_split_ands; (repeat' with_reducible apply And.intro) <;> first | with_reducible assumption | ((repeat (first | with_reducible exact Below.refl _ _ | with_reducible assumption | with_reducible refine balloc ?_ _ | with_reducible refine bdrew ?_ | with_reducible refine below_drewN ?_ _ | with_reducible refine bset ?_ ?_ _ | with_reducible exact Nat.le_refl _ | with_reducible refine bsize ?_ | (dsimp only; refine Nat.le_trans ?_ (Nat.le_add_right _ _)) | with_reducible refine Nat.le_trans ?_ (Nat.le_add_right _ _) | (with_reducible refine bstep ?_ (by assumption)))); done) | (simp [go_sem]; done) | go_keep))); clear hK K; (try clear hHeld1); (try simp only [Act.put, List.setIfInBounds_toArray, List.set_cons_zero, List.set_cons_succ]))
  (refine wpAnyH_ready (rs := [4]) (by kernel_rfl) (by simp) ?_; refine AllReadyH.cons (o := { dst := some 7, op := Op.call { callee := Callee.value (Operand.func 20), args := #[Operand.tmp 6], argTypes := #[44] }, type := 44, pos := "l6_well.go:41", after := #[{ on := 3, ground := Ground.data }, { on := 3, ground := Ground.chain }], guard := none }) rfl (fun K hK => ?_) AllReadyH.nil; go_simp; (first | (go_at_call 19; refine (gauge_impl _ _ _).mono ?_) | (go_at_call 20; refine (hH.out _).mono ?_)); rintro e w3 ⟨rfl, hb3⟩; go_split_ands; (have f5 := bstep (by with_reducible assumption : Below w.heap.size w _) hb3); (have f6 := Nat.lt_of_lt_of_le (show w.heap.size < _ by with_reducible assumption) hb3.size); (have f7 : w3.cell? ⟨w.heap.size, 0, none⟩ = some (.int .i64 x) := keepa hb3 (by with_reducible assumption) (by with_reducible assumption)); (have f8 : w3.cell? ⟨w.heap.size, 1, none⟩ = some (.int .i64 y) := keepa hb3 (by with_reducible assumption) (by with_reducible assumption)); (first | refine hK.out _ _ ?_ (fun hHeld3 => ?_) | (go_wp2_with fail; refine hK.out _ _ ?_ (fun hHeld3 => ?_))); (focus ((try dsimp only); (go_split_ands; (repeat' with_reducible apply And.intro) <;> first | with_reducible assumption | ((repeat (first | with_reducible exact Below.refl _ _ | with_reducible assumption | with_reducible refine balloc ?_ _ | with_reducible refine bdrew ?_ | with_reducible refine below_drewN ?_ _ | with_reducible refine bset ?_ ?_ _ | with_reducible exact Nat.le_refl _ | with_reducible refine bsize ?_ | (dsimp only; refine Nat.le_trans ?_ (Nat.le_add_right _ _)) | with_reducible refine Nat.le_trans ?_ (Nat.le_add_right _ _) | (with_reducible refine bstep ?_ (by assumption)))); done) | (simp [go_sem]; done) | go_keep))); clear hK K; (try clear hHeld2); (try simp only [Act.put, List.setIfInBounds_toArray, List.set_cons_zero, List.set_cons_succ]))
  (refine wpAnyH_take (i := 5) (oi := { dst := some 8, op := Op.binOp BinOp.eql 44 (Operand.tmp 4) (Operand.tmp 7) 44, type := 4, pos := "l6_well.go:41", after := #[{ on := 1, ground := Ground.data }, { on := 4, ground := Ground.data }], guard := none }) (v := ?_) rfl (by kernel_rfl) (by kernel_rfl) (by kernel_rfl) (fun _ _ _ h => h) (Or.inl ⟨by rfl, ?_⟩) (by assumption) ?_; rotate_left; (focus (intro w hSw; (try dsimp only at hSw); go_simp; try with_reducible rfl)); (try simp only [Act.put, List.setIfInBounds_toArray, List.set_cons_zero, List.set_cons_succ]))
  (refine wpAnyH_take (i := 6) (oi := { dst := some 2, op := Op.assign (Operand.tmp 8), type := 4, pos := "l6_well.go:41", after := #[{ on := 5, ground := Ground.data }, { on := 4, ground := Ground.chain }, { on := 0, ground := Ground.phase }, { on := 1, ground := Ground.phase }, { on := 2, ground := Ground.phase }, { on := 3, ground := Ground.phase }, { on := 4, ground := Ground.phase }, { on := 5, ground := Ground.phase }], guard := none }) (v := ?_) rfl (by kernel_rfl) (by kernel_rfl) (by kernel_rfl) (fun _ _ _ h => h) (Or.inl ⟨by rfl, ?_⟩) (by assumption) ?_; rotate_left; (focus (intro w hSw; (try dsimp only at hSw); go_simp; try with_reducible rfl)); (try simp only [Act.put, List.setIfInBounds_toArray, List.set_cons_zero, List.set_cons_succ]))
  refine wpAnyH_done (by kernel_rfl) ?_ _
  all_goals go_wp2
  all_goals go_ret
  all_goals refine ⟨rfl, ?_⟩
  all_goals go_split_ands
  all_goals (repeat (first | with_reducible exact Below.refl _ _ | with_reducible assumption | with_reducible refine balloc ?_ _ | with_reducible refine bdrew ?_ | with_reducible refine below_drewN ?_ _ | with_reducible refine bset ?_ ?_ _ | with_reducible exact Nat.le_refl _ | with_reducible refine bsize ?_ | (dsimp only; refine Nat.le_trans ?_ (Nat.le_add_right _ _)) | with_reducible refine Nat.le_trans ?_ (Nat.le_add_right _ _) | (with_reducible refine bstep ?_ (by assumption))))
end Go.Proofs.Ytoienhjbhpdehaa
