/- The contract of the model's amCount, whole. -/
import Derived.Test.YtjmmlknbdmngeaaCount5
import Derived.IntWalk
namespace Go.Proofs.Ytjmmlknbdmngeaa
open Go.RowKit
set_option linter.unusedVariables false
set_option linter.unusedSimpArgs false

set_option maxHeartbeats 3200000 in
theorem count_spec_yes (st : Int) (m : Nat) (n d : Int) (h : OkH st m) (ha : amB n d = true) (hg : geH st m n d = true) (w : World) :
    Calls Try.prog 56 #[.agg #[.int .i64 n, .int .i64 d], .int .i64 m, .int .i64 st] w fun e w' => e = .returned (.tuple #[.int .i64 (cntDown st n d m), .bool true]) ∧ Below w.heap.size w w' := by
  have hx := am_of _ _ (h_am st m m h (Nat.le_refl _))
  have hy := am_of _ _ ha
  have hl : ¬ sgI ((hP st m).1 * d - n * (hP st m).2) < 0 := by rw [sg_lt]; simp [geH] at hg; omega
  have hm20 : m ≤ 20 := by rcases h with h | h <;> omega
  have hO := Lib.hid h
  clear h hg
  go_enter Try.func56, Try.ntmps56
  go_upto_region 1 with fail
  go_cut [19] (fun s19 wx => s19 = .bool false ∧ wx.cell? ⟨w.heap.size, 0, none⟩ = some (.int .i64 n) ∧ wx.cell? ⟨w.heap.size, 1, none⟩ = some (.int .i64 d) ∧ w.heap.size < wx.heap.size ∧ Below w.heap.size w wx)
  case first =>
    go_region_held3 (fun w' => w'.cell? ⟨w.heap.size, 0, none⟩ = some (.int .i64 n) ∧ w'.cell? ⟨w.heap.size, 1, none⟩ = some (.int .i64 d) ∧ w.heap.size < w'.heap.size) (((go_split_ands; (repeat' apply And.intro) <;> first | assumption | (simp [go_sem]; done) | go_keep))) (first | (go_at_call 97; refine (good_spec _ _ _).mono ?_; rintro e w1 ⟨rfl, hb⟩; rw [ha]; go_split_ands; (have f1 := (hb.cell (p := ⟨w.heap.size, 0, none⟩) (by assumption)).trans (by assumption)); (have f2 := (hb.cell (p := ⟨w.heap.size, 1, none⟩) (by assumption)).trans (by assumption)); (have f3 := Nat.lt_of_lt_of_le (by assumption) hb.size)) | (go_at_call 53; refine (harm_spec st m hO.out _).mono ?_; rintro e w1 ⟨rfl, hb⟩; skip; go_split_ands; (have f1 := (hb.cell (p := ⟨w.heap.size, 0, none⟩) (by assumption)).trans (by assumption)); (have f2 := (hb.cell (p := ⟨w.heap.size, 1, none⟩) (by assumption)).trans (by assumption)); (have f3 := Nat.lt_of_lt_of_le (by assumption) hb.size)) | (go_at_call 78; refine (cmp_spec _ _ _ _ hx hy _).mono ?_; rintro e w1 ⟨rfl, hb⟩; skip; go_split_ands; (have f1 := (hb.cell (p := ⟨w.heap.size, 0, none⟩) (by assumption)).trans (by assumption)); (have f2 := (hb.cell (p := ⟨w.heap.size, 1, none⟩) (by assumption)).trans (by assumption)); (have f3 := Nat.lt_of_lt_of_le (by assumption) hb.size)))
    all_goals (go_wp2_with fail; go_meet)
    all_goals refine ⟨by simp [hl], ?_, ?_, ?_, ?_⟩
    all_goals first | assumption | ((repeat (first | with_reducible exact Below.refl _ _ | with_reducible assumption | with_reducible refine balloc ?_ _ | with_reducible refine bdrew ?_ | with_reducible refine below_drewN ?_ _ | with_reducible refine bset ?_ ?_ _ | with_reducible exact Nat.le_refl _ | with_reducible refine bsize ?_ | (dsimp only; refine Nat.le_trans ?_ (Nat.le_add_right _ _)) | with_reducible refine Nat.le_trans ?_ (Nat.le_add_right _ _) | (with_reducible refine bstep ?_ (by assumption)))); done)
  case rest =>
    obtain ⟨rfl, c1, c2, hlt0, hbel0⟩ := hcut
    have HX := Lib.hid hx
    clear hl hx
    go_wp2
    go_loopw [8] (fun i wr => ∃ k : Nat, k ≤ m ∧ i = .int .i64 k ∧ Hid (k = 0 ∨ leH st k n d = true) ∧ wr.cell? ⟨w.heap.size, 0, none⟩ = some (.int .i64 n) ∧ wr.cell? ⟨w.heap.size, 1, none⟩ = some (.int .i64 d) ∧ w.heap.size < wr.heap.size ∧ Below w.heap.size w wr) (fun i _ => m - (intOf i).toNat)
    case atStart => exact ⟨0, Nat.zero_le _, rfl, Or.inl rfl, c1, c2, hlt0, hbel0⟩
    case round =>
      clear c1 c2 hlt0 hbel0
      obtain ⟨k, hk, rfl, hle, c1, c2, hlt0, hbel⟩ := hrel
      by_cases hlt : k < m
      · have hx := am_of _ _ (h_am st m (k + 1) hO.out hlt)
        have hO2 : Hid (OkH st (k + 1)) := by
          rcases hO.out with ⟨a, b⟩ | ⟨a, b⟩
          · exact Or.inl ⟨a, by omega⟩
          · exact Or.inr ⟨a, by omega⟩
        have hharm := fun W => harm_spec st (k + 1) hO2.out W
        have e1 : ((k + 1 : Nat) : Int) = (k : Int) + 1 := by omega
        rw [e1] at hharm
        have HH := Lib.hid hharm
        clear hharm e1
        have hkm : (k : Int) < (m : Int) := by omega
        cases hq : leH st (k + 1) n d
        · have hs : ¬ sgI ((hP st (k + 1)).1 * d - n * (hP st (k + 1)).2) ≤ 0 := by rw [sg_le]; simp [leH] at hq; omega
          have hfin : Hid (cntDown st n d m = k) := cnt_at st m k n d hO.out hk (by have := hy.c; omega) hle.out (Or.inr hq)
          clear hq
          have wq1 : IntKind.i64.wrap ((k : Int) + 1) = (k : Int) + 1 := IntWalk.i64_in _ (by omega)
          go_wp2_with fail
          go_region_held3 (fun w' => w'.cell? ⟨w.heap.size, 0, none⟩ = some (.int .i64 n) ∧ w'.cell? ⟨w.heap.size, 1, none⟩ = some (.int .i64 d) ∧ w.heap.size < w'.heap.size) (((go_split_ands; (repeat' apply And.intro) <;> first | assumption | (simp [go_sem]; done) | go_keep))) (first | (go_at_call 53; refine (HH.out _).mono ?_; rintro e w1 ⟨rfl, hb⟩; skip; go_split_ands; (have f1 := (hb.cell (p := ⟨w.heap.size, 0, none⟩) (by assumption)).trans (by assumption)); (have f2 := (hb.cell (p := ⟨w.heap.size, 1, none⟩) (by assumption)).trans (by assumption)); (have f3 := Nat.lt_of_lt_of_le (by assumption) hb.size)) | (go_at_call 78; refine (cmp_spec _ _ _ _ hx hy _).mono ?_; rintro e w1 ⟨rfl, hb⟩; skip; go_split_ands; (have f1 := (hb.cell (p := ⟨w.heap.size, 0, none⟩) (by assumption)).trans (by assumption)); (have f2 := (hb.cell (p := ⟨w.heap.size, 1, none⟩) (by assumption)).trans (by assumption)); (have f3 := Nat.lt_of_lt_of_le (by assumption) hb.size)))
          all_goals clear wq1
          all_goals go_wp2
          all_goals go_ret2
          all_goals refine ⟨by rw [hfin.out]; rfl, ?_⟩
          all_goals (repeat (first | with_reducible exact Below.refl _ _ | with_reducible assumption | with_reducible refine balloc ?_ _ | with_reducible refine bdrew ?_ | with_reducible refine below_drewN ?_ _ | with_reducible refine bset ?_ ?_ _ | with_reducible exact Nat.le_refl _ | with_reducible refine bsize ?_ | (dsimp only; refine Nat.le_trans ?_ (Nat.le_add_right _ _)) | with_reducible refine Nat.le_trans ?_ (Nat.le_add_right _ _) | (with_reducible refine bstep ?_ (by assumption))))
        · have hs : sgI ((hP st (k + 1)).1 * d - n * (hP st (k + 1)).2) ≤ 0 := by rw [sg_le]; simp [leH] at hq; omega
          have HQ := Lib.hid hq
          clear hq
          have wq1 : IntKind.i64.wrap ((k : Int) + 1) = (k : Int) + 1 := IntWalk.i64_in _ (by omega)
          go_wp2_with fail
          go_region_held3 (fun w' => w'.cell? ⟨w.heap.size, 0, none⟩ = some (.int .i64 n) ∧ w'.cell? ⟨w.heap.size, 1, none⟩ = some (.int .i64 d) ∧ w.heap.size < w'.heap.size) (((go_split_ands; (repeat' apply And.intro) <;> first | assumption | (simp [go_sem]; done) | go_keep))) (first | (go_at_call 53; refine (HH.out _).mono ?_; rintro e w1 ⟨rfl, hb⟩; skip; go_split_ands; (have f1 := (hb.cell (p := ⟨w.heap.size, 0, none⟩) (by assumption)).trans (by assumption)); (have f2 := (hb.cell (p := ⟨w.heap.size, 1, none⟩) (by assumption)).trans (by assumption)); (have f3 := Nat.lt_of_lt_of_le (by assumption) hb.size)) | (go_at_call 78; refine (cmp_spec _ _ _ _ hx hy _).mono ?_; rintro e w1 ⟨rfl, hb⟩; skip; go_split_ands; (have f1 := (hb.cell (p := ⟨w.heap.size, 0, none⟩) (by assumption)).trans (by assumption)); (have f2 := (hb.cell (p := ⟨w.heap.size, 1, none⟩) (by assumption)).trans (by assumption)); (have f3 := Nat.lt_of_lt_of_le (by assumption) hb.size)))
          all_goals clear wq1
          all_goals go_wp2
          all_goals go_roundw
          case rel =>
            refine ⟨k + 1, by omega, by go_num, Or.inr HQ.out, ?_, ?_, ?_, ?_⟩
            all_goals first | assumption | ((repeat (first | with_reducible exact Below.refl _ _ | with_reducible assumption | with_reducible refine balloc ?_ _ | with_reducible refine bdrew ?_ | with_reducible refine below_drewN ?_ _ | with_reducible refine bset ?_ ?_ _ | with_reducible exact Nat.le_refl _ | with_reducible refine bsize ?_ | (dsimp only; refine Nat.le_trans ?_ (Nat.le_add_right _ _)) | with_reducible refine Nat.le_trans ?_ (Nat.le_add_right _ _) | (with_reducible refine bstep ?_ (by assumption)))); done)
          case measure => simp [intOf]; omega
      · have hkm : k = m := by omega
        subst hkm
        have hfin : Hid (cntDown st n d k = k) := cnt_at st k k n d hO.out (Nat.le_refl _) (by have := hy.c; omega) hle.out (Or.inl rfl)
        go_wp2_with fail
        first | (go_region_with fail) | fail
        all_goals go_wp2
        all_goals go_ret2
        all_goals refine ⟨by rw [hfin.out]; rfl, ?_⟩
        all_goals (repeat (first | with_reducible exact Below.refl _ _ | with_reducible assumption | with_reducible refine balloc ?_ _ | with_reducible refine bdrew ?_ | with_reducible refine below_drewN ?_ _ | with_reducible refine bset ?_ ?_ _ | with_reducible exact Nat.le_refl _ | with_reducible refine bsize ?_ | (dsimp only; refine Nat.le_trans ?_ (Nat.le_add_right _ _)) | with_reducible refine Nat.le_trans ?_ (Nat.le_add_right _ _) | (with_reducible refine bstep ?_ (by assumption))))
end Go.Proofs.Ytjmmlknbdmngeaa
