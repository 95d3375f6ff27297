/- The law FnExactOneStop, for every camel, goods, stop and way (also what is none): the program answers as the model. No condition. -/
import Derived.Test.YtkignanlkakdpaaLawCb
import Derived.Test.YtkignanlkakdpaaCamV
import Derived.Deep.RegionHeld3
import Derived.Deep.DeepCutAuto
namespace Go.Proofs.Ytkignanlkakdpaa
open Go.ChangeShapes Go.WideShapes Go.ChangeAt Go.RowKit Go.Joins
set_option maxRecDepth 100000
set_option linter.unusedVariables false
set_option linter.unusedSimpArgs false

set_option maxHeartbeats 1600000 in
theorem oneStop_walk (L E : Int) (bL : -9223372036854775808 ≤ L ∧ L ≤ 9223372036854775807) (bE : -9223372036854775808 ≤ E ∧ E ≤ 9223372036854775807) (n d : Int) (bn : -9223372036854775808 ≤ n ∧ n ≤ 9223372036854775807) (bd : -9223372036854775808 ≤ d ∧ d ≤ 9223372036854775807) (p q : Int) (bp : -9223372036854775808 ≤ p ∧ p ≤ 9223372036854775807) (bq : -9223372036854775808 ≤ q ∧ q ≤ 9223372036854775807) (r s : Int) (br : -9223372036854775808 ≤ r ∧ r ≤ 9223372036854775807) (bs : -9223372036854775808 ≤ s ∧ s ≤ 9223372036854775807) (w : World) :
    Calls Try.prog 11 #[.agg #[.int .i64 L, .int .i64 E], .agg #[.int .i64 n, .int .i64 d], .agg #[.int .i64 p, .int .i64 q], .agg #[.int .i64 r, .int .i64 s]] w fun e w' => e = .returned (.bool true) ∧ Below w.heap.size w w' := by
  go_enter Try.func11, Try.ntmps11
  go_upto_region 1 with fail
  change Code.wp _ _ _ _ (((((w.alloc (.cells #[.int .i64 L, .int .i64 E] 23)).alloc (.cells #[.int .i64 n, .int .i64 d] 29)).alloc (.cells #[.int .i64 p, .int .i64 q] 29)).alloc (.cells #[.int .i64 r, .int .i64 s] 29)))
  have c1 : (((((w.alloc (.cells #[.int .i64 L, .int .i64 E] 23)).alloc (.cells #[.int .i64 n, .int .i64 d] 29)).alloc (.cells #[.int .i64 p, .int .i64 q] 29)).alloc (.cells #[.int .i64 r, .int .i64 s] 29))).cell? ⟨w.heap.size, 0, none⟩ = some (.int .i64 L) := by first | (simp; done) | (simp [go_sem]; done)
  have c2 : (((((w.alloc (.cells #[.int .i64 L, .int .i64 E] 23)).alloc (.cells #[.int .i64 n, .int .i64 d] 29)).alloc (.cells #[.int .i64 p, .int .i64 q] 29)).alloc (.cells #[.int .i64 r, .int .i64 s] 29))).cell? ⟨w.heap.size, 1, none⟩ = some (.int .i64 E) := by first | (simp; done) | (simp [go_sem]; done)
  have c3 : (((((w.alloc (.cells #[.int .i64 L, .int .i64 E] 23)).alloc (.cells #[.int .i64 n, .int .i64 d] 29)).alloc (.cells #[.int .i64 p, .int .i64 q] 29)).alloc (.cells #[.int .i64 r, .int .i64 s] 29))).cell? ⟨w.heap.size + 1, 0, none⟩ = some (.int .i64 n) := by first | (simp; done) | (simp [go_sem]; done)
  have c4 : (((((w.alloc (.cells #[.int .i64 L, .int .i64 E] 23)).alloc (.cells #[.int .i64 n, .int .i64 d] 29)).alloc (.cells #[.int .i64 p, .int .i64 q] 29)).alloc (.cells #[.int .i64 r, .int .i64 s] 29))).cell? ⟨w.heap.size + 1, 1, none⟩ = some (.int .i64 d) := by first | (simp; done) | (simp [go_sem]; done)
  have c5 : (((((w.alloc (.cells #[.int .i64 L, .int .i64 E] 23)).alloc (.cells #[.int .i64 n, .int .i64 d] 29)).alloc (.cells #[.int .i64 p, .int .i64 q] 29)).alloc (.cells #[.int .i64 r, .int .i64 s] 29))).cell? ⟨w.heap.size + 1 + 1, 0, none⟩ = some (.int .i64 p) := by first | (simp; done) | (simp [go_sem]; done)
  have c6 : (((((w.alloc (.cells #[.int .i64 L, .int .i64 E] 23)).alloc (.cells #[.int .i64 n, .int .i64 d] 29)).alloc (.cells #[.int .i64 p, .int .i64 q] 29)).alloc (.cells #[.int .i64 r, .int .i64 s] 29))).cell? ⟨w.heap.size + 1 + 1, 1, none⟩ = some (.int .i64 q) := by first | (simp; done) | (simp [go_sem]; done)
  have c7 : (((((w.alloc (.cells #[.int .i64 L, .int .i64 E] 23)).alloc (.cells #[.int .i64 n, .int .i64 d] 29)).alloc (.cells #[.int .i64 p, .int .i64 q] 29)).alloc (.cells #[.int .i64 r, .int .i64 s] 29))).cell? ⟨w.heap.size + 1 + 1 + 1, 0, none⟩ = some (.int .i64 r) := by first | (simp; done) | (simp [go_sem]; done)
  have c8 : (((((w.alloc (.cells #[.int .i64 L, .int .i64 E] 23)).alloc (.cells #[.int .i64 n, .int .i64 d] 29)).alloc (.cells #[.int .i64 p, .int .i64 q] 29)).alloc (.cells #[.int .i64 r, .int .i64 s] 29))).cell? ⟨w.heap.size + 1 + 1 + 1, 1, none⟩ = some (.int .i64 s) := by first | (simp; done) | (simp [go_sem]; done)
  have hs : w.heap.size + 1 + 1 + 1 < (((((w.alloc (.cells #[.int .i64 L, .int .i64 E] 23)).alloc (.cells #[.int .i64 n, .int .i64 d] 29)).alloc (.cells #[.int .i64 p, .int .i64 q] 29)).alloc (.cells #[.int .i64 r, .int .i64 s] 29))).heap.size := by simp
  have hbw : Below w.heap.size w (((((w.alloc (.cells #[.int .i64 L, .int .i64 E] 23)).alloc (.cells #[.int .i64 n, .int .i64 d] 29)).alloc (.cells #[.int .i64 p, .int .i64 q] 29)).alloc (.cells #[.int .i64 r, .int .i64 s] 29))) := by (repeat (first | with_reducible exact Below.refl _ _ | with_reducible assumption | with_reducible refine balloc ?_ _ | with_reducible refine bdrew ?_ | with_reducible refine below_drewN ?_ _ | with_reducible refine bset ?_ ?_ _ | with_reducible exact Nat.le_refl _ | with_reducible refine bsize ?_ | (dsimp only; refine Nat.le_trans ?_ (Nat.le_add_right _ _)) | with_reducible refine Nat.le_trans ?_ (Nat.le_add_right _ _) | (with_reducible refine bstep ?_ (by assumption))))
  generalize (((((w.alloc (.cells #[.int .i64 L, .int .i64 E] 23)).alloc (.cells #[.int .i64 n, .int .i64 d] 29)).alloc (.cells #[.int .i64 p, .int .i64 q] 29)).alloc (.cells #[.int .i64 r, .int .i64 s] 29))) = V at *
  have a0 : w.heap.size < V.heap.size := by omega
  have a1 : w.heap.size + 1 < V.heap.size := by omega
  have a2 : w.heap.size + 1 + 1 < V.heap.size := by omega
  have a3 : w.heap.size + 1 + 1 + 1 < V.heap.size := by omega
  go_cut [9, 10] (Res2 (twoN (osK L E n d p q r s) (osX L E n d p q r s) (osM L E n d p q r s)) (twoD (osK L E n d p q r s) (osX L E n d p q r s) (osM L E n d p q r s)) (twoB (osK L E n d p q r s) (osX L E n d p q r s) (osM L E n d p q r s)) V)
  case first =>
    have av0 : ∀ k, w.heap.size < V.heap.size + k := fun k => by omega
    have av1 : ∀ k, w.heap.size + 1 < V.heap.size + k := fun k => by omega
    have av2 : ∀ k, w.heap.size + 1 + 1 < V.heap.size + k := fun k => by omega
    have av3 : ∀ k, w.heap.size + 1 + 1 + 1 < V.heap.size + k := fun k => by omega
    have HS := Lib.hid (fun W => oneStop_spec L E n d p q r s bn bd bp bq br bs W)
    have hS := Lib.hid (fun (W : World) (h : Below V.heap.size V W) => (⟨h, keepa h a0 c1, keepa h a0 c2, keepa h a1 c3, keepa h a1 c4, keepa h a2 c5, keepa h a2 c6, keepa h a3 c7, keepa h a3 c8⟩ : (fun w' => Below V.heap.size V w' ∧ w'.cell? ⟨w.heap.size, 0, none⟩ = some (.int .i64 L) ∧ w'.cell? ⟨w.heap.size, 1, none⟩ = some (.int .i64 E) ∧ w'.cell? ⟨w.heap.size + 1, 0, none⟩ = some (.int .i64 n) ∧ w'.cell? ⟨w.heap.size + 1, 1, none⟩ = some (.int .i64 d) ∧ w'.cell? ⟨w.heap.size + 1 + 1, 0, none⟩ = some (.int .i64 p) ∧ w'.cell? ⟨w.heap.size + 1 + 1, 1, none⟩ = some (.int .i64 q) ∧ w'.cell? ⟨w.heap.size + 1 + 1 + 1, 0, none⟩ = some (.int .i64 r) ∧ w'.cell? ⟨w.heap.size + 1 + 1 + 1, 1, none⟩ = some (.int .i64 s)) W))
    go_region_held3 (fun w' => Below V.heap.size V w' ∧ w'.cell? ⟨w.heap.size, 0, none⟩ = some (.int .i64 L) ∧ w'.cell? ⟨w.heap.size, 1, none⟩ = some (.int .i64 E) ∧ w'.cell? ⟨w.heap.size + 1, 0, none⟩ = some (.int .i64 n) ∧ w'.cell? ⟨w.heap.size + 1, 1, none⟩ = some (.int .i64 d) ∧ w'.cell? ⟨w.heap.size + 1 + 1, 0, none⟩ = some (.int .i64 p) ∧ w'.cell? ⟨w.heap.size + 1 + 1, 1, none⟩ = some (.int .i64 q) ∧ w'.cell? ⟨w.heap.size + 1 + 1 + 1, 0, none⟩ = some (.int .i64 r) ∧ w'.cell? ⟨w.heap.size + 1 + 1 + 1, 1, none⟩ = some (.int .i64 s)) ((refine hS.out _ ?_; first | with_reducible assumption | ((repeat (first | with_reducible exact Below.refl _ _ | with_reducible assumption | with_reducible refine balloc ?_ _ | with_reducible refine bdrew ?_ | with_reducible refine below_drewN ?_ _ | with_reducible refine bset ?_ ?_ _ | with_reducible exact Nat.le_refl _ | with_reducible refine bsize ?_ | (dsimp only; refine Nat.le_trans ?_ (Nat.le_add_right _ _)) | with_reducible refine Nat.le_trans ?_ (Nat.le_add_right _ _) | (with_reducible refine bstep ?_ (by assumption)))); done))) (first | (go_at_call 22; refine (toAmt _ _ _).mono ?_; rintro e w3 ⟨rfl, hb3⟩;  (try have fr := HasRes.later (by first | with_reducible assumption | with_reducible exact HasRes.drew (by with_reducible assumption) | exact HasRes.newd _ _ _ _ | exact HasRes.new _ _ _ _ | exact HasRes.drew (HasRes.newd _ _ _ _) | exact HasRes.drew (HasRes.new _ _ _ _)) hb3); (try (have fr2 := fr; obtain ⟨rx, ry, r1, r2, r3, r4, rz⟩ := fr2)); (have f0 := bstep (by first | with_reducible assumption | ((repeat (first | with_reducible exact Below.refl _ _ | with_reducible assumption | with_reducible refine balloc ?_ _ | with_reducible refine bdrew ?_ | with_reducible refine below_drewN ?_ _ | with_reducible refine bset ?_ ?_ _ | with_reducible exact Nat.le_refl _ | with_reducible refine bsize ?_ | (dsimp only; refine Nat.le_trans ?_ (Nat.le_add_right _ _)) | with_reducible refine Nat.le_trans ?_ (Nat.le_add_right _ _) | (with_reducible refine bstep ?_ (by assumption)))); done) : Below V.heap.size V _) hb3); (have f1 := hS.out _ f0); go_split_ands) | (go_at_call 19; refine (toCam_b _ _ _).mono ?_; rintro e w3 ⟨rfl, hb3⟩;  (try have fr := HasRes.later (by first | with_reducible assumption | with_reducible exact HasRes.drew (by with_reducible assumption) | exact HasRes.newd _ _ _ _ | exact HasRes.new _ _ _ _ | exact HasRes.drew (HasRes.newd _ _ _ _) | exact HasRes.drew (HasRes.new _ _ _ _)) hb3); (try (have fr2 := fr; obtain ⟨rx, ry, r1, r2, r3, r4, rz⟩ := fr2)); (have f0 := bstep (by first | with_reducible assumption | ((repeat (first | with_reducible exact Below.refl _ _ | with_reducible assumption | with_reducible refine balloc ?_ _ | with_reducible refine bdrew ?_ | with_reducible refine below_drewN ?_ _ | with_reducible refine bset ?_ ?_ _ | with_reducible exact Nat.le_refl _ | with_reducible refine bsize ?_ | (dsimp only; refine Nat.le_trans ?_ (Nat.le_add_right _ _)) | with_reducible refine Nat.le_trans ?_ (Nat.le_add_right _ _) | (with_reducible refine bstep ?_ (by assumption)))); done) : Below V.heap.size V _) hb3); (have f1 := hS.out _ f0); go_split_ands) | (go_at_call 40; refine (HS.out _).mono ?_; rintro e w3 ⟨rfl, hb3⟩;  (try have fr := HasRes.later (by first | with_reducible assumption | with_reducible exact HasRes.drew (by with_reducible assumption) | exact HasRes.newd _ _ _ _ | exact HasRes.new _ _ _ _ | exact HasRes.drew (HasRes.newd _ _ _ _) | exact HasRes.drew (HasRes.new _ _ _ _)) hb3); (try (have fr2 := fr; obtain ⟨rx, ry, r1, r2, r3, r4, rz⟩ := fr2)); (have f0 := bstep (by first | with_reducible assumption | ((repeat (first | with_reducible exact Below.refl _ _ | with_reducible assumption | with_reducible refine balloc ?_ _ | with_reducible refine bdrew ?_ | with_reducible refine below_drewN ?_ _ | with_reducible refine bset ?_ ?_ _ | with_reducible exact Nat.le_refl _ | with_reducible refine bsize ?_ | (dsimp only; refine Nat.le_trans ?_ (Nat.le_add_right _ _)) | with_reducible refine Nat.le_trans ?_ (Nat.le_add_right _ _) | (with_reducible refine bstep ?_ (by assumption)))); done) : Below V.heap.size V _) hb3); (have f1 := hS.out _ f0); go_split_ands))
    all_goals (go_wp2_with fail; go_meet)
    all_goals refine ⟨_, rfl, rfl, ?_, ?_, ?_, ?_⟩
    all_goals first | ((repeat (first | with_reducible exact Below.refl _ _ | with_reducible assumption | with_reducible refine balloc ?_ _ | with_reducible refine bdrew ?_ | with_reducible refine below_drewN ?_ _ | with_reducible refine bset ?_ ?_ _ | with_reducible exact Nat.le_refl _ | with_reducible refine bsize ?_ | (dsimp only; refine Nat.le_trans ?_ (Nat.le_add_right _ _)) | with_reducible refine Nat.le_trans ?_ (Nat.le_add_right _ _) | (with_reducible refine bstep ?_ (by assumption)))); done) | (simp [go_sem, r1, r2, r3, r4, rz]; done) | (simp [go_sem]; done) | (simp; omega)
  case rest =>
    obtain ⟨g, rfl, rfl, hg0, hg1, hgs, hgb⟩ := hcut
    replace c1 := keepa hgb a0 c1
    replace c2 := keepa hgb a0 c2
    replace c3 := keepa hgb a1 c3
    replace c4 := keepa hgb a1 c4
    replace c5 := keepa hgb a2 c5
    replace c6 := keepa hgb a2 c6
    replace c7 := keepa hgb a3 c7
    replace c8 := keepa hgb a3 c8
    have hbw2 := bstep hbw hgb
    have hsz := hgb.size
    replace a0 : w.heap.size < wc.heap.size := by omega
    replace a1 : w.heap.size + 1 < wc.heap.size := by omega
    replace a2 : w.heap.size + 1 + 1 < wc.heap.size := by omega
    replace a3 : w.heap.size + 1 + 1 + 1 < wc.heap.size := by omega
    clear hgb hbw hs hsz
    go_upto_region 2 with fail
    go_cut [11, 12] (Res2 (twoN (osK L E n d p q r s) (osX L E n d p q r s) (osM L E n d p q r s)) (twoD (osK L E n d p q r s) (osX L E n d p q r s) (osM L E n d p q r s)) (twoB (osK L E n d p q r s) (osX L E n d p q r s) (osM L E n d p q r s)) wc)
    case first =>
      have av0 : ∀ k, w.heap.size < wc.heap.size + k := fun k => by omega
      have av1 : ∀ k, w.heap.size + 1 < wc.heap.size + k := fun k => by omega
      have av2 : ∀ k, w.heap.size + 1 + 1 < wc.heap.size + k := fun k => by omega
      have av3 : ∀ k, w.heap.size + 1 + 1 + 1 < wc.heap.size + k := fun k => by omega
      have HI := Lib.hid (fun W => oneStop_impl L E n d p q r s bn bd bp bq br bs W)
      have hS := Lib.hid (fun (W : World) (h : Below wc.heap.size wc W) => (⟨h, keepa h a0 c1, keepa h a0 c2, keepa h a1 c3, keepa h a1 c4, keepa h a2 c5, keepa h a2 c6, keepa h a3 c7, keepa h a3 c8⟩ : (fun w' => Below wc.heap.size wc w' ∧ w'.cell? ⟨w.heap.size, 0, none⟩ = some (.int .i64 L) ∧ w'.cell? ⟨w.heap.size, 1, none⟩ = some (.int .i64 E) ∧ w'.cell? ⟨w.heap.size + 1, 0, none⟩ = some (.int .i64 n) ∧ w'.cell? ⟨w.heap.size + 1, 1, none⟩ = some (.int .i64 d) ∧ w'.cell? ⟨w.heap.size + 1 + 1, 0, none⟩ = some (.int .i64 p) ∧ w'.cell? ⟨w.heap.size + 1 + 1, 1, none⟩ = some (.int .i64 q) ∧ w'.cell? ⟨w.heap.size + 1 + 1 + 1, 0, none⟩ = some (.int .i64 r) ∧ w'.cell? ⟨w.heap.size + 1 + 1 + 1, 1, none⟩ = some (.int .i64 s)) W))
      go_region_held3 (fun w' => Below wc.heap.size wc w' ∧ w'.cell? ⟨w.heap.size, 0, none⟩ = some (.int .i64 L) ∧ w'.cell? ⟨w.heap.size, 1, none⟩ = some (.int .i64 E) ∧ w'.cell? ⟨w.heap.size + 1, 0, none⟩ = some (.int .i64 n) ∧ w'.cell? ⟨w.heap.size + 1, 1, none⟩ = some (.int .i64 d) ∧ w'.cell? ⟨w.heap.size + 1 + 1, 0, none⟩ = some (.int .i64 p) ∧ w'.cell? ⟨w.heap.size + 1 + 1, 1, none⟩ = some (.int .i64 q) ∧ w'.cell? ⟨w.heap.size + 1 + 1 + 1, 0, none⟩ = some (.int .i64 r) ∧ w'.cell? ⟨w.heap.size + 1 + 1 + 1, 1, none⟩ = some (.int .i64 s)) ((refine hS.out _ ?_; first | with_reducible assumption | ((repeat (first | with_reducible exact Below.refl _ _ | with_reducible assumption | with_reducible refine balloc ?_ _ | with_reducible refine bdrew ?_ | with_reducible refine below_drewN ?_ _ | with_reducible refine bset ?_ ?_ _ | with_reducible exact Nat.le_refl _ | with_reducible refine bsize ?_ | (dsimp only; refine Nat.le_trans ?_ (Nat.le_add_right _ _)) | with_reducible refine Nat.le_trans ?_ (Nat.le_add_right _ _) | (with_reducible refine bstep ?_ (by assumption)))); done))) (first | (go_at_call 22; refine (toAmt _ _ _).mono ?_; rintro e w3 ⟨rfl, hb3⟩;  (try have fr := HasRes.later (by first | with_reducible assumption | with_reducible exact HasRes.drew (by with_reducible assumption) | exact HasRes.newd _ _ _ _ | exact HasRes.new _ _ _ _ | exact HasRes.drew (HasRes.newd _ _ _ _) | exact HasRes.drew (HasRes.new _ _ _ _)) hb3); (try (have fr2 := fr; obtain ⟨rx, ry, r1, r2, r3, r4, rz⟩ := fr2)); (have f0 := bstep (by first | with_reducible assumption | ((repeat (first | with_reducible exact Below.refl _ _ | with_reducible assumption | with_reducible refine balloc ?_ _ | with_reducible refine bdrew ?_ | with_reducible refine below_drewN ?_ _ | with_reducible refine bset ?_ ?_ _ | with_reducible exact Nat.le_refl _ | with_reducible refine bsize ?_ | (dsimp only; refine Nat.le_trans ?_ (Nat.le_add_right _ _)) | with_reducible refine Nat.le_trans ?_ (Nat.le_add_right _ _) | (with_reducible refine bstep ?_ (by assumption)))); done) : Below wc.heap.size wc _) hb3); (have f1 := hS.out _ f0); go_split_ands) | (go_at_call 19; refine (toCam_b _ _ _).mono ?_; rintro e w3 ⟨rfl, hb3⟩;  (try have fr := HasRes.later (by first | with_reducible assumption | with_reducible exact HasRes.drew (by with_reducible assumption) | exact HasRes.newd _ _ _ _ | exact HasRes.new _ _ _ _ | exact HasRes.drew (HasRes.newd _ _ _ _) | exact HasRes.drew (HasRes.new _ _ _ _)) hb3); (try (have fr2 := fr; obtain ⟨rx, ry, r1, r2, r3, r4, rz⟩ := fr2)); (have f0 := bstep (by first | with_reducible assumption | ((repeat (first | with_reducible exact Below.refl _ _ | with_reducible assumption | with_reducible refine balloc ?_ _ | with_reducible refine bdrew ?_ | with_reducible refine below_drewN ?_ _ | with_reducible refine bset ?_ ?_ _ | with_reducible exact Nat.le_refl _ | with_reducible refine bsize ?_ | (dsimp only; refine Nat.le_trans ?_ (Nat.le_add_right _ _)) | with_reducible refine Nat.le_trans ?_ (Nat.le_add_right _ _) | (with_reducible refine bstep ?_ (by assumption)))); done) : Below wc.heap.size wc _) hb3); (have f1 := hS.out _ f0); go_split_ands) | (go_at_call 41; refine (HI.out _).mono ?_; rintro e w3 ⟨rfl, hb3⟩;  (try have fr := HasRes.later (by first | with_reducible assumption | with_reducible exact HasRes.drew (by with_reducible assumption) | exact HasRes.newd _ _ _ _ | exact HasRes.new _ _ _ _ | exact HasRes.drew (HasRes.newd _ _ _ _) | exact HasRes.drew (HasRes.new _ _ _ _)) hb3); (try (have fr2 := fr; obtain ⟨rx, ry, r1, r2, r3, r4, rz⟩ := fr2)); (have f0 := bstep (by first | with_reducible assumption | ((repeat (first | with_reducible exact Below.refl _ _ | with_reducible assumption | with_reducible refine balloc ?_ _ | with_reducible refine bdrew ?_ | with_reducible refine below_drewN ?_ _ | with_reducible refine bset ?_ ?_ _ | with_reducible exact Nat.le_refl _ | with_reducible refine bsize ?_ | (dsimp only; refine Nat.le_trans ?_ (Nat.le_add_right _ _)) | with_reducible refine Nat.le_trans ?_ (Nat.le_add_right _ _) | (with_reducible refine bstep ?_ (by assumption)))); done) : Below wc.heap.size wc _) hb3); (have f1 := hS.out _ f0); go_split_ands))
      all_goals (go_wp2_with fail; go_meet)
      all_goals refine ⟨_, rfl, rfl, ?_, ?_, ?_, ?_⟩
      all_goals first | ((repeat (first | with_reducible exact Below.refl _ _ | with_reducible assumption | with_reducible refine balloc ?_ _ | with_reducible refine bdrew ?_ | with_reducible refine below_drewN ?_ _ | with_reducible refine bset ?_ ?_ _ | with_reducible exact Nat.le_refl _ | with_reducible refine bsize ?_ | (dsimp only; refine Nat.le_trans ?_ (Nat.le_add_right _ _)) | with_reducible refine Nat.le_trans ?_ (Nat.le_add_right _ _) | (with_reducible refine bstep ?_ (by assumption)))); done) | (simp [go_sem, r1, r2, r3, r4, rz]; done) | (simp [go_sem]; done) | (simp; omega)
    case rest =>
      obtain ⟨g2, rfl, rfl, hh0, hh1, hhs, hhb⟩ := hcut
      have hg0' := keepa hhb hgs hg0
      have hg1' := keepa hhb hgs hg1
      have hbw := bstep hbw2 hhb
      clear hg0 hg1 hgs hhb
      (go_wp2_with fail; refine (eq_same _ _ _).mono ?_; rintro e w9 ⟨rfl, hb9⟩; have ha9 := hb9; obtain ⟨kc9, kf9, kz9, ky9, kx9, kv9, ku9⟩ := bcell hb9)
      go_wp2
      go_ret
      refine ⟨rfl, ?_⟩
      (repeat (first | with_reducible exact Below.refl _ _ | with_reducible assumption | with_reducible refine balloc ?_ _ | with_reducible refine bdrew ?_ | with_reducible refine below_drewN ?_ _ | with_reducible refine bset ?_ ?_ _ | with_reducible exact Nat.le_refl _ | with_reducible refine bsize ?_ | (dsimp only; refine Nat.le_trans ?_ (Nat.le_add_right _ _)) | with_reducible refine Nat.le_trans ?_ (Nat.le_add_right _ _) | (with_reducible refine bstep ?_ (by assumption))))

namespace fnExactOneStop
set_option maxRecDepth 100000 in
theorem lifted (os : Os) (started : os.Started) (H : Type) (enc : TypeId × Value → H) :
    ReturnsInHanded {} Try.checked os 11 .any (Rows.fnExactOneStopSpec.pre6 enc Try.prog Try.f11 Rows.fnExactOneStopRow.domain false) (Rows.fnExactOneStopSpec.post enc Try.prog Try.f11 false true false false) := by
  refine returnsInHanded_of_change (C := Try.checked) own started (by kernel_rfl) Try.func11
    (ChangeSpec.witness6 (enc := enc) (C := Try.checked) false ⟨#[], #[.agg #[.int .i64 0, .int .i64 0], .agg #[.int .i64 0, .int .i64 0], .agg #[.int .i64 0, .int .i64 0], .agg #[.int .i64 0, .int .i64 0]], []⟩ 8 (by kernel_rfl) (by kernel_rfl) (by kernel_rfl) (by kernel_rfl)) ?_
  intro W base args ds gs before hval0 hW hcnd _
  have hval : ∀ (j : Nat) t v, Try.f11.params[j]? = some t → args[j]? = some v → Value.okWide Try.prog W .any base t v := hval0
  have hW' := hW
  obtain ⟨p, q, hA0, hV, rfl, hfz, hnd⟩ := hW
  have hA : DataW.TrodAll enc Try.prog W 0 (fun _ => true) true Try.f11.params.toList args.toList ds p := hA0
  rw [Try.params11] at hA hval
  obtain ⟨v0, vs0, d0, ds0, p0, q0, hargs, rfl, rfl, h0, r0⟩ := trodAll_cons hA
  obtain ⟨v1, vs1, d1, ds1, p1, q1, rfl, rfl, rfl, h1, r1⟩ := trodAll_cons r0
  obtain ⟨v2, vs2, d2, ds2, p2, q2, rfl, rfl, rfl, h2, r2⟩ := trodAll_cons r1
  obtain ⟨v3, vs3, d3, ds3, p3, q3, rfl, rfl, rfl, h3, r3⟩ := trodAll_cons r2
  obtain ⟨rfl, rfl, rfl⟩ := trodAll_nil r3
  obtain rfl : args = #[v0, v1, v2, v3] := by cases args; simp_all
  obtain ⟨rfl, rfl⟩ := trodVars_none hV
  have k0 := h0
  have lt0 : ∀ x ∈ p0, x.block < W.heap.size := by obtain ⟨m, hm⟩ := k0; exact DataW.trod_lt m _ _ _ hm
  have k1 := h1
  have lt1 : ∀ x ∈ p1, x.block < W.heap.size := by obtain ⟨m, hm⟩ := k1; exact DataW.trod_lt m _ _ _ hm
  have k2 := h2
  have lt2 : ∀ x ∈ p2, x.block < W.heap.size := by obtain ⟨m, hm⟩ := k2; exact DataW.trod_lt m _ _ _ hm
  have k3 := h3
  have lt3 : ∀ x ∈ p3, x.block < W.heap.size := by obtain ⟨m, hm⟩ := k3; exact DataW.trod_lt m _ _ _ hm
  obtain ⟨n0, m0, rfl, bn0, bm0⟩ := open_cam (hval 0 23 v0 rfl rfl) h0
  obtain ⟨n1, m1, rfl, bn1, bm1⟩ := open_amt (hval 1 29 v1 rfl rfl) h1
  obtain ⟨n2, m2, rfl, bn2, bm2⟩ := open_amt (hval 2 29 v2 rfl rfl) h2
  obtain ⟨n3, m3, rfl, bn3, bm3⟩ := open_amt (hval 3 29 v3 rfl rfl) h3
  clear hA0 hval0
  refine (oneStop_walk n0 m0 bn0 bm0 n1 m1 bn1 bm1 n2 m2 bn2 bm2 n3 m3 bn3 bm3 W).mono fun e W1 ⟨he, bel⟩ => ?_
  subst he
  exact ⟨_, rfl, _, _, _, [], _, [], hW', trodAll_mk1 (shut_bool Try.underlying4 _), (trodAll_cons_mk (Below.trod laidOut (by kernel_rfl) (of_decide_eq_true (by kernel_rfl)) k0 bel lt0) (trodAll_cons_mk (Below.trod laidOut (by kernel_rfl) (of_decide_eq_true (by kernel_rfl)) k1 bel lt1) (trodAll_cons_mk (Below.trod laidOut (by kernel_rfl) (of_decide_eq_true (by kernel_rfl)) k2 bel lt2) (trodAll_cons_mk (Below.trod laidOut (by kernel_rfl) (of_decide_eq_true (by kernel_rfl)) k3 bel lt3) trodAll_mk0)))), rfl, bel.frame _, fun h => by cases h⟩
theorem over : Rows.fnExactOneStopRow.holds Try.pinned (OpenSpec.ofChange Rows.fnExactOneStopSpec) :=
  OpenClaim.holds_of_wide 11 Try.f11 rfl rfl rfl rfl rfl rfl rfl ⟨rfl, rfl, rfl, rfl, rfl⟩ rfl rfl rfl rfl rfl (by kernel_rfl) Try.func11 (by kernel_rfl)
    (of_decide_eq_true (by kernel_rfl)) (by unfold Func.isWrapper; first | (rw [if_pos (by decide +kernel)]; kernel_rfl) | (rw [if_neg (by decide +kernel)]; exact ⟨rfl, rfl⟩))
    (fun os started H enc _ => lifted os started H enc)
theorem proved : Rows.FnExactOneStopSaid := over
end fnExactOneStop
end Go.Proofs.Ytkignanlkakdpaa
