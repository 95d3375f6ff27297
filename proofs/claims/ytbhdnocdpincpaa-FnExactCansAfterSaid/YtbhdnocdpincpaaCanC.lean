/- Cans: how many can be brought one mile on, of the model and of the program. -/
import Derived.Test.YtbhdnocdpincpaaCanB
namespace Go.Proofs.Ytbhdnocdpincpaa
open Go.ChangeShapes Go.WideShapes Go.ChangeAt Go.RowKit Go.Joins
set_option maxRecDepth 100000
set_option linter.unusedVariables false
set_option linter.unusedSimpArgs false

theorem cnT_mono (l a b : Int) (hl : 3 ≤ l) (h0 : 0 ≤ a) (hab : a ≤ b) : cnT l a ≤ cnT l b := by
  by_cases h1 : a ≤ l - 1
  · have e : cnT l a = 1 := by unfold cnT; rw [if_pos h1]
    rw [e]; exact cnT_pos l b hl (by omega)
  · unfold cnT
    rw [if_neg h1, if_neg (by omega), if_neg (by omega : ¬ b ≤ l - 1), if_neg (by omega)]
    rw [Int.tdiv_eq_ediv_of_nonneg (by omega), Int.tdiv_eq_ediv_of_nonneg (by omega)]
    exact Int.ediv_le_ediv (by omega) (by omega)
/-- Fewer cans need fewer, where the more have a need. -/
theorem cnR_mono (l a b : Int) (hl : 2 ≤ l) (h0 : 0 ≤ a) (hab : a ≤ b) (h : 0 ≤ cnR l b) : 0 ≤ cnR l a ∧ cnR l a ≤ cnR l b := by
  have hR : ∀ c, cnR l c = if cnT l c = 0 ∨ 1000000000 < c + 2 * cnT l c - 1 then -1 else c + 2 * cnT l c - 1 := fun _ => rfl
  have hTa := cnT_bd l a hl h0
  have hTb := cnT_bd l b hl (by omega)
  have hb : ¬ (cnT l b = 0 ∨ 1000000000 < b + 2 * cnT l b - 1) := by
    intro hc; rw [hR, if_pos hc] at h; omega
  have hm : cnT l a ≤ cnT l b ∧ cnT l a ≠ 0 := by
    by_cases h2 : l = 2
    · subst h2
      have hb1 : b ≤ 2 - 1 := by
        by_cases hb1 : b ≤ 2 - 1
        · exact hb1
        · exact absurd (Or.inl (by unfold cnT; rw [if_neg hb1, if_pos rfl])) hb
      have e1 : cnT 2 a = 1 := by unfold cnT; rw [if_pos (by omega)]
      have e2 : cnT 2 b = 1 := by unfold cnT; rw [if_pos (by omega)]
      omega
    · have := cnT_mono l a b (by omega) h0 hab
      have := cnT_pos l a (by omega) h0
      omega
  rw [hR a, hR b, if_neg hb, if_neg (by omega)]
  omega
theorem count_anti (q : Nat → Bool) : ∀ n : Nat, (∀ a b, a ≤ b → b < n → q b = true → q a = true) →
    (∀ i, i < n → (q i = true ↔ i < (List.range n).countP q)) ∧ (List.range n).countP q ≤ n
  | 0, _ => by simp
  | n + 1, h => by
    have ih := count_anti q n (fun a b hab hb => h a b hab (by omega))
    rw [List.range_succ, List.countP_append]
    have h1 : [n].countP q = if q n = true then 1 else 0 := by simp [List.countP_cons]
    rw [h1]
    generalize (List.range n).countP q = A at *
    cases hq : q n
    · simp only [Bool.false_eq_true, if_false, Nat.add_zero]
      refine ⟨fun i hi => ?_, by omega⟩
      by_cases hin : i = n
      · subst hin; rw [hq]; simp; omega
      · exact ih.1 i (by omega)
    · simp only [if_true]
      have hA : A = n := by
        by_cases hlt : A < n
        · have := (ih.1 A hlt).1 (h A n (by omega) (by omega) hq)
          omega
        · omega
      subst hA
      refine ⟨fun i hi => ?_, by omega⟩
      by_cases hin : i = A
      · subst hin; rw [hq]; simp
      · have := ih.1 i (by omega)
        constructor
        · intro _; omega
        · intro _; exact this.2 (by omega)

/-- So many can be brought with c. -/
def cnP (l c m : Int) : Bool := decide (0 ≤ cnR l m ∧ cnR l m ≤ c)
def cnA (l c : Int) : Nat := (List.range c.toNat).countP (fun i : Nat => cnP l c ((i : Int) + 1))
def cnAB (l c : Int) : Bool := cnOk l c && decide (1 ≤ c)
def cnAV (l c : Int) : Int := if cnAB l c = true then (cnA l c : Int) else 0
theorem cnP_anti (l c a b : Int) (hl : 2 ≤ l) (h0 : 0 ≤ a) (hab : a ≤ b) (h : cnP l c b = true) : cnP l c a = true := by
  simp only [cnP, decide_eq_true_eq] at *
  have := cnR_mono l a b hl h0 hab h.1
  omega
theorem cnA_fact (l c : Int) (hl : 2 ≤ l) : (∀ m : Nat, 1 ≤ m → (m : Int) ≤ c → (cnP l c m = true ↔ m ≤ cnA l c)) ∧ cnA l c ≤ c.toNat := by
  have h := count_anti (fun i : Nat => cnP l c ((i : Int) + 1)) c.toNat (fun a b hab hb => cnP_anti l c _ _ hl (by omega) (by omega))
  refine ⟨fun m h1 h2 => ?_, h.2⟩
  have h3 := h.1 (m - 1) (by omega)
  have e : (((m - 1 : Nat) : Int) + 1) = (m : Int) := by omega
  simp only [e] at h3
  rw [h3]
  show m - 1 < cnA l c ↔ _
  omega

set_option maxHeartbeats 1600000 in
theorem afterM_eq (l c : Int) (w : World) :
    Calls Try.prog 23 #[.int .i64 l, .int .i64 c] w fun e w' => e = .returned (.tuple #[.int .i64 (cnAV l c), .bool (cnAB l c)]) ∧ w = w' := by
  cases h1 : cnOk l c
  · have e1 : cnAB l c = false := by simp [cnAB, h1]
    rw [show cnAV l c = 0 by simp [cnAV, e1], e1]
    go_enter Try.func23, Try.ntmps23
    go_wp2_with (go_at_call 25; refine (load_spec _ _ _).mono ?_; rintro e w1 ⟨rfl, rfl⟩; rw [h1])
    refine bodyPost_ret (v := .tuple #[.int .i64 0, .bool false]) (by simp only [results, Try.results23]; go_simp) rfl ⟨rfl, ?_⟩
    rfl
  · have hb := cnOk_yes h1
    by_cases h2 : c < 1
    · have e1 : cnAB l c = false := by simp [cnAB]; omega
      rw [show cnAV l c = 0 by simp [cnAV, e1], e1]
      go_enter Try.func23, Try.ntmps23
      go_wp2_with (go_at_call 25; refine (load_spec _ _ _).mono ?_; rintro e w1 ⟨rfl, rfl⟩; rw [h1])
      refine bodyPost_ret (v := .tuple #[.int .i64 0, .bool false]) (by simp only [results, Try.results23]; go_simp) rfl ⟨rfl, ?_⟩
      rfl
    · have e1 : cnAB l c = true := by simp [cnAB, h1]; omega
      rw [show cnAV l c = (cnA l c : Int) by simp [cnAV, e1], e1]
      have hF := Lib.hid (cnA_fact l c hb.1)
      have hle := hF.out.2
      generalize cnA l c = A at *
      go_enter Try.func23, Try.ntmps23
      go_wp2_with (go_at_call 25; refine (load_spec _ _ _).mono ?_; rintro e w1 ⟨rfl, rfl⟩; rw [h1])
      go_loopw [6, 7] (fun x y wr => ∃ lo hi : Nat, lo ≤ A ∧ A ≤ hi ∧ (hi : Int) ≤ c ∧ x = .int .i64 lo ∧ y = .int .i64 hi ∧ w = wr) (fun x y _ => (intOf y - intOf x).toNat)
      case atStart => exact ⟨0, c.toNat, by omega, by omega, by omega, by go_num, by rw [show ((c.toNat : Nat) : Int) = c by omega], rfl⟩
      case round =>
        obtain ⟨lo, hi, hlo, hhi, hhc, rfl, rfl, rfl⟩ := hrel
        by_cases hlt : (lo : Int) < (hi : Int)
        · have hq : Int.tdiv ((lo : Int) + (hi : Int) + 1) 2 = (((lo + hi + 1) / 2 : Nat) : Int) := by
            rw [Int.tdiv_eq_ediv_of_nonneg (by omega)]; omega
          have hm := hF.out.1 ((lo + hi + 1) / 2) (by omega) (by omega)
          rw [← hq] at hm
          have hmb : 0 ≤ Int.tdiv ((lo : Int) + (hi : Int) + 1) 2 ∧ Int.tdiv ((lo : Int) + (hi : Int) + 1) 2 ≤ 1000000000 := by omega
          have HT := Lib.hid (fun W : World => cnNeed_spec l (Int.tdiv ((lo : Int) + (hi : Int) + 1) 2) ⟨hb.1, hb.2.1⟩ ⟨hmb.1, by omega⟩ W)
          have hqh := Lib.hid hq
          clear hq
          simp only [cnP, decide_eq_true_eq] at hm
          generalize hr : cnR l (Int.tdiv ((lo : Int) + (hi : Int) + 1) 2) = r at *
          clear hr
          by_cases hp : 0 ≤ r ∧ r ≤ c
          · have hmA := hm.1 hp
            have hp0 : ¬ (r < 0) := by omega
            have hp1 : r ≤ c := hp.2
            go_wp2_with (go_at_call 29; refine (HT.out _).mono ?_; rintro e w1 ⟨rfl, rfl⟩)
            all_goals first | (exfalso; rename_i hx; simp at hx; omega) | skip
            all_goals
              go_roundw
              case rel => exact ⟨(lo + hi + 1) / 2, hi, by omega, hhi, hhc, by rw [hqh.out], rfl, trivial⟩
              case measure => have hx := hqh.out; simp only [intOf]; omega
          · have hmA : ¬ (lo + hi + 1) / 2 ≤ A := fun h => hp (hm.2 h)
            go_wp2_with (go_at_call 29; refine (HT.out _).mono ?_; rintro e w1 ⟨rfl, rfl⟩)
            all_goals first | (exfalso; rename_i hx; simp at hx; omega) | skip
            all_goals
              go_roundw
              case rel => exact ⟨lo, (lo + hi + 1) / 2 - 1, hlo, by omega, by omega, rfl, by rw [show (((lo + hi + 1) / 2 - 1 : Nat) : Int) = (((lo + hi + 1) / 2 : Nat) : Int) - 1 by omega, ← hqh.out], trivial⟩
              case measure => have hx := hqh.out; simp only [intOf]; omega
        · go_wp2
          have e : lo = A := by omega
          subst e
          refine bodyPost_ret (v := .tuple #[.int .i64 lo, .bool true]) (by simp only [results, Try.results23]; go_simp) rfl ⟨rfl, ?_⟩
          rfl

/-- The program's question: is i + 1 one too many? -/
theorem clo_after (l c : Int) (hk : cnOk l c = true) (i g h : Nat) (hi : (i : Int) < c) (w : World) (hg : w.cell? ⟨g, 0, none⟩ = some (.int .i64 l)) (hh : w.cell? ⟨h, 0, none⟩ = some (.int .i64 c)) :
    Calls Try.prog 40 #[.int .i64 i, .pointer (some ⟨g, 0, none⟩), .pointer (some ⟨h, 0, none⟩)] w fun e w' => e = .returned (.bool (!(cnP l c ((i : Int) + 1)))) ∧ w = w' := by
  have hb := cnOk_yes hk
  have hk1 : cnOk l ((i : Int) + 1) = true := cnOk_of ⟨hb.1, hb.2.1, by omega, by omega⟩
  have HT := Lib.hid (fun W : World => need_eq l ((i : Int) + 1) (by omega) W)
  have eP : cnP l c ((i : Int) + 1) = decide (0 ≤ cnR l ((i : Int) + 1) ∧ cnR l ((i : Int) + 1) ≤ c) := rfl
  have eB : cnNB l ((i : Int) + 1) = decide (0 ≤ cnR l ((i : Int) + 1)) := by simp [cnNB, hk1]
  have eV : cnNV l ((i : Int) + 1) = if 0 ≤ cnR l ((i : Int) + 1) then cnR l ((i : Int) + 1) else 0 := by simp [cnNV, eB]
  rw [eB, eV] at HT
  rw [eP]
  clear eB eV eP
  generalize cnR l ((i : Int) + 1) = r at *
  by_cases h1 : 0 ≤ r
  · rw [if_pos h1, decide_eq_true h1] at HT
    by_cases h2 : r ≤ c
    · rw [show (!decide (0 ≤ r ∧ r ≤ c)) = false by simp [h1, h2]]
      go_enter Try.func40, Try.ntmps40
      go_wp2_with (go_at_call 12; refine (HT.out _).mono ?_; rintro e w1 ⟨rfl, rfl⟩)
      go_ret
      exact ⟨by first | rfl | (simp; done) | (simp; omega), rfl⟩
    · rw [show (!decide (0 ≤ r ∧ r ≤ c)) = true by simp; omega]
      go_enter Try.func40, Try.ntmps40
      go_wp2_with (go_at_call 12; refine (HT.out _).mono ?_; rintro e w1 ⟨rfl, rfl⟩)
      go_ret
      exact ⟨by first | rfl | (simp; done) | (simp; omega), rfl⟩
  · rw [if_neg h1, decide_eq_false h1] at HT
    rw [show (!decide (0 ≤ r ∧ r ≤ c)) = true by simp; omega]
    go_enter Try.func40, Try.ntmps40
    go_wp2_with (go_at_call 12; refine (HT.out _).mono ?_; rintro e w1 ⟨rfl, rfl⟩)
    go_ret
    exact ⟨rfl, rfl⟩
set_option maxHeartbeats 1600000 in
/-- sort.Search, over that question. -/
theorem search_after (l c : Int) (hk : cnOk l c = true) (g h : Nat) (w : World) (hg : w.cell? ⟨g, 0, none⟩ = some (.int .i64 l)) (hh : w.cell? ⟨h, 0, none⟩ = some (.int .i64 c)) :
    Calls Try.prog 39 #[.int .i64 c, .func (.func 40) #[] #[.pointer (some ⟨g, 0, none⟩), .pointer (some ⟨h, 0, none⟩)]] w fun e w' => e = .returned (.int .i64 (cnA l c)) ∧ w = w' := by
  have hb := cnOk_yes hk
  have HC := Lib.hid (fun (i : Nat) (hi : (i : Int) < c) => clo_after l c hk i g h hi w hg hh)
  have hF := Lib.hid (cnA_fact l c hb.1)
  have hle := hF.out.2
  generalize cnA l c = A at *
  clear hg hh
  go_enter Try.func39, Try.ntmps39
  go_wp2
  go_loopw [5, 6] (fun x y wr => ∃ lo hi : Nat, lo ≤ A ∧ A ≤ hi ∧ (hi : Int) ≤ c ∧ x = .int .i64 lo ∧ y = .int .i64 hi ∧ w = wr) (fun x y _ => (intOf y - intOf x).toNat)
  case atStart => exact ⟨0, c.toNat, by omega, by omega, by omega, by go_num, by rw [show ((c.toNat : Nat) : Int) = c by omega], rfl⟩
  case round =>
    obtain ⟨lo, hi, hlo, hhi, hhc, rfl, rfl, rfl⟩ := hrel
    by_cases hlt : (lo : Int) < (hi : Int)
    · have hc := HC.out ((lo + hi) / 2) (by omega)
      have hm := hF.out.1 ((lo + hi) / 2 + 1) (by omega) (by omega)
      rw [show (((lo + hi) / 2 + 1 : Nat) : Int) = (((lo + hi) / 2 : Nat) : Int) + 1 by omega] at hm
      generalize cnP l c ((((lo + hi) / 2 : Nat) : Int) + 1) = p at *
      rw [show (((lo + hi) / 2 : Nat) : Int) = ((lo : Int) + (hi : Int)) / 2 by omega] at hc
      have HR := Lib.hid hc
      clear hc
      cases p
      · have hmA : ¬ (lo + hi) / 2 + 1 ≤ A := fun h => by have := hm.2 h; cases this
        go_wp2_with (go_at_call 40; refine HR.out.mono ?_; rintro e w1 ⟨rfl, rfl⟩)
        all_goals
          go_roundw
          case rel => exact ⟨lo, (lo + hi) / 2, hlo, by omega, by omega, rfl, by rw [show (((lo + hi) / 2 : Nat) : Int) = ((lo : Int) + (hi : Int)) / 2 by omega], trivial⟩
          case measure => simp only [intOf]; omega
      · have hmA := hm.1 rfl
        go_wp2_with (go_at_call 40; refine HR.out.mono ?_; rintro e w1 ⟨rfl, rfl⟩)
        all_goals
          go_roundw
          case rel => exact ⟨(lo + hi) / 2 + 1, hi, by omega, hhi, hhc, by rw [show (((lo + hi) / 2 + 1 : Nat) : Int) = ((lo : Int) + (hi : Int)) / 2 + 1 by omega], rfl, trivial⟩
          case measure => simp only [intOf]; omega
    · go_wp2
      have e : lo = A := by omega
      subst e
      go_ret
      exact ⟨rfl, rfl⟩
set_option maxHeartbeats 1600000 in
theorem after_impl (l c : Int) (w : World) :
    Calls Try.prog 24 #[.int .i64 l, .int .i64 c] w fun e w' => e = .returned (.tuple #[.int .i64 (cnAV l c), .bool (cnAB l c)]) ∧ Below w.heap.size w w' := by
  cases h1 : inB l 2 20
  · have e1 : cnAB l c = false := by simp [cnAB, cnOk, h1]
    rw [show cnAV l c = 0 by simp [cnAV, e1], e1]
    go_enter Try.func24, Try.ntmps24
    go_wp2_with (go_at_call 27; refine (load_impl _ _).mono ?_; rintro e w1 ⟨rfl, rfl⟩; rw [h1])
    all_goals first | (exfalso; rename_i hx; simp at hx; omega) | (refine bodyPost_ret (v := .tuple #[.int .i64 0, .bool false]) (by simp only [results, Try.results24]; go_simp) rfl ⟨rfl, ?_⟩; first | rfl | ((repeat (first | with_reducible exact Below.refl _ _ | with_reducible assumption | with_reducible refine balloc ?_ _ | with_reducible refine bdrew ?_ | with_reducible refine below_drewN ?_ _ | with_reducible refine bset ?_ ?_ _ | with_reducible exact Nat.le_refl _ | with_reducible refine bsize ?_ | (dsimp only; refine Nat.le_trans ?_ (Nat.le_add_right _ _)) | with_reducible refine Nat.le_trans ?_ (Nat.le_add_right _ _) | (with_reducible refine bstep ?_ (by assumption)))); done))
  · cases h2 : inB c 1 1000000000
    · have e1 : cnAB l c = false := by
        simp [cnAB, cnOk, h1, inB] at *; omega
      rw [show cnAV l c = 0 by simp [cnAV, e1], e1]
      go_enter Try.func24, Try.ntmps24
      go_wp2_with (first | (go_at_call 27; refine (load_impl _ _).mono ?_; rintro e w1 ⟨rfl, rfl⟩; rw [h1]) | (go_at_call 38; refine (in_impl _ _ _ _).mono ?_; rintro e w1 ⟨rfl, rfl⟩; rw [h2]))
      all_goals first | (exfalso; rename_i hx; simp at hx; omega) | (refine bodyPost_ret (v := .tuple #[.int .i64 0, .bool false]) (by simp only [results, Try.results24]; go_simp) rfl ⟨rfl, ?_⟩; first | rfl | ((repeat (first | with_reducible exact Below.refl _ _ | with_reducible assumption | with_reducible refine balloc ?_ _ | with_reducible refine bdrew ?_ | with_reducible refine below_drewN ?_ _ | with_reducible refine bset ?_ ?_ _ | with_reducible exact Nat.le_refl _ | with_reducible refine bsize ?_ | (dsimp only; refine Nat.le_trans ?_ (Nat.le_add_right _ _)) | with_reducible refine Nat.le_trans ?_ (Nat.le_add_right _ _) | (with_reducible refine bstep ?_ (by assumption)))); done))
    · have hl : 2 ≤ l ∧ l ≤ 20 := by simpa [inB] using h1
      have hc : 1 ≤ c ∧ c ≤ 1000000000 := by simpa [inB] using h2
      have hk : cnOk l c = true := cnOk_of ⟨hl.1, hl.2, by omega, by omega⟩
      have e1 : cnAB l c = true := by simp [cnAB, hk]; omega
      rw [show cnAV l c = (cnA l c : Int) by simp [cnAV, e1], e1]
      have HS := Lib.hid (search_after l c hk)
      have hA : cnA l c ≤ c.toNat := (cnA_fact l c hl.1).2
      generalize cnA l c = A at *
      go_enter Try.func24, Try.ntmps24
      go_wp2_with (first | (go_at_call 27; refine (load_impl _ _).mono ?_; rintro e w1 ⟨rfl, rfl⟩; rw [h1]) | (go_at_call 38; refine (in_impl _ _ _ _).mono ?_; rintro e w1 ⟨rfl, rfl⟩; rw [h2]) | (go_at_call 39; refine (HS.out _ _ _ (by simp [go_sem]) (by simp [go_sem])).mono ?_; rintro e w1 ⟨rfl, rfl⟩))
      all_goals first | (exfalso; rename_i hx; simp at hx; omega) | (refine bodyPost_ret (v := .tuple #[.int .i64 A, .bool true]) (by simp only [results, Try.results24]; go_simp) rfl ⟨rfl, ?_⟩; first | rfl | ((repeat (first | with_reducible exact Below.refl _ _ | with_reducible assumption | with_reducible refine balloc ?_ _ | with_reducible refine bdrew ?_ | with_reducible refine below_drewN ?_ _ | with_reducible refine bset ?_ ?_ _ | with_reducible exact Nat.le_refl _ | with_reducible refine bsize ?_ | (dsimp only; refine Nat.le_trans ?_ (Nat.le_add_right _ _)) | with_reducible refine Nat.le_trans ?_ (Nat.le_add_right _ _) | (with_reducible refine bstep ?_ (by assumption)))); done))
theorem afterM_spec (l c : Int) (w : World) :
    Calls Try.prog 23 #[.int .i64 l, .int .i64 c] w fun e w' => e = .returned (.tuple #[.int .i64 (cnAV l c), .bool (cnAB l c)]) ∧ Below w.heap.size w w' :=
  (afterM_eq l c w).mono (by rintro e w' ⟨rfl, rfl⟩; exact ⟨rfl, Below.refl _ _⟩)
end Go.Proofs.Ytbhdnocdpincpaa
