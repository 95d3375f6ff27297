/- Takings of fuel: the table over takings, well by well, and taking the most each time, tell the same. Mathematics alone. -/
import Derived.Test.YtoienhjbhpdehaaMath
namespace Go.Proofs.Ytoienhjbhpdehaa
set_option linter.unusedVariables false
set_option linter.unusedSimpArgs false

/-- A number put into a falling list. -/
def tkIns (f : Int) : List Int → List Int
  | [] => [f]
  | u :: l => if u ≤ f then f :: u :: l else u :: tkIns f l
/-- Wells that are come to are put among those that may be taken from. -/
def tkPas (r : Int) : List Int → List (Int × Int) → List Int × List (Int × Int)
  | l, [] => (l, [])
  | l, (p, f) :: ws => if p ≤ r then tkPas r (tkIns f l) ws else (l, (p, f) :: ws)
/-- How far one comes with k takings, each of the most. -/
def tkG (r : Int) (l : List Int) (ws : List (Int × Int)) : Nat → Int
  | 0 => r
  | k + 1 => match tkPas r l ws with
    | ([], _) => r
    | (u :: l', ws') => tkG (r + u) l' ws' k
def Falls (l : List Int) : Prop := l.Pairwise (fun a b => b ≤ a)
def NonNeg (l : List Int) : Prop := ∀ x ∈ l, 0 ≤ x

theorem tkIns_mem (f : Int) : ∀ (l : List Int) (x : Int), x ∈ tkIns f l ↔ x = f ∨ x ∈ l
  | [], x => by simp [tkIns]
  | u :: l, x => by
    unfold tkIns
    split
    · simp
    · simp only [List.mem_cons, tkIns_mem f l x]
      constructor
      · rintro (h | h | h) <;> simp [h]
      · rintro (h | h | h) <;> simp [h]
theorem tkIns_falls (f : Int) : ∀ l : List Int, Falls l → Falls (tkIns f l)
  | [], _ => by simp [tkIns, Falls]
  | u :: l, h => by
    have h2 := List.pairwise_cons.1 h
    unfold tkIns
    split
    · rename_i hu
      refine List.pairwise_cons.2 ⟨fun x hx => ?_, h⟩
      rcases List.mem_cons.1 hx with rfl | hx
      · exact hu
      · exact Int.le_trans (h2.1 x hx) hu
    · rename_i hu
      refine List.pairwise_cons.2 ⟨fun x hx => ?_, tkIns_falls f l h2.2⟩
      rcases (tkIns_mem f l x).1 hx with rfl | hx
      · omega
      · exact h2.1 x hx
theorem tkIns_nonneg (f : Int) (l : List Int) (hf : 0 ≤ f) (h : NonNeg l) : NonNeg (tkIns f l) := by
  intro x hx
  rcases (tkIns_mem f l x).1 hx with rfl | hx
  · exact hf
  · exact h x hx
theorem tkIns_len (f : Int) : ∀ l : List Int, (tkIns f l).length = l.length + 1
  | [] => rfl
  | u :: l => by unfold tkIns; split <;> simp [tkIns_len f l]

/-- All are come to. -/
theorem tkPas_all (r : Int) : ∀ (ws : List (Int × Int)) (l : List Int), (∀ w ∈ ws, w.1 ≤ r) → (tkPas r l ws).2 = [] ∧ ∀ a : Int × Int, a.1 ≤ r → tkPas r l (ws ++ [a]) = (tkIns a.2 (tkPas r l ws).1, [])
  | [], l, _ => by
    refine ⟨rfl, fun a ha => ?_⟩
    obtain ⟨p, f⟩ := a
    simp only [List.nil_append, tkPas]
    rw [if_pos ha]
  | (p, f) :: ws, l, h => by
    have hp : p ≤ r := h (p, f) (by simp)
    have ih := tkPas_all r ws (tkIns f l) (fun w hw => h w (by simp [hw]))
    simp only [List.cons_append, tkPas, if_pos hp]
    exact ih
/-- The last one is not come to. -/
theorem tkPas_not (r : Int) (a : Int × Int) (ha : r < a.1) : ∀ (ws : List (Int × Int)) (l : List Int), tkPas r l (ws ++ [a]) = ((tkPas r l ws).1, (tkPas r l ws).2 ++ [a])
  | [], l => by
    obtain ⟨p, f⟩ := a
    simp only [List.nil_append, tkPas]
    rw [if_neg (by show ¬ p ≤ r; have : r < p := ha; omega)]
  | (p, f) :: ws, l => by
    simp only [List.cons_append, tkPas]
    split
    · exact tkPas_not r a ha ws (tkIns f l)
    · rfl
theorem tkPas_falls (r : Int) : ∀ (ws : List (Int × Int)) (l : List Int), Falls l → Falls (tkPas r l ws).1
  | [], l, h => h
  | (p, f) :: ws, l, h => by
    simp only [tkPas]
    split
    · exact tkPas_falls r ws _ (tkIns_falls f l h)
    · exact h
theorem tkPas_nonneg (r : Int) : ∀ (ws : List (Int × Int)) (l : List Int), NonNeg l → (∀ w ∈ ws, 0 ≤ w.2) → NonNeg (tkPas r l ws).1 ∧ ∀ w ∈ (tkPas r l ws).2, w ∈ ws
  | [], l, h, _ => ⟨h, fun w hw => hw⟩
  | (p, f) :: ws, l, h, h2 => by
    simp only [tkPas]
    split
    · have ih := tkPas_nonneg r ws _ (tkIns_nonneg f l (h2 (p, f) (by simp)) h) (fun w hw => h2 w (by simp [hw]))
      exact ⟨ih.1, fun w hw => by simp [ih.2 w hw]⟩
    · exact ⟨h, fun w hw => hw⟩
theorem tkPas_len (r : Int) : ∀ (ws : List (Int × Int)) (l : List Int), (tkPas r l ws).1.length + (tkPas r l ws).2.length = l.length + ws.length
  | [], l => by simp [tkPas]
  | (p, f) :: ws, l => by
    simp only [tkPas]
    split
    · rw [tkPas_len r ws, tkIns_len]; simp; omega
    · rfl
theorem tkPas_idem (r : Int) : ∀ (ws : List (Int × Int)) (l : List Int), tkPas r (tkPas r l ws).1 (tkPas r l ws).2 = tkPas r l ws
  | [], l => rfl
  | (p, f) :: ws, l => by
    by_cases h : p ≤ r
    · simp only [tkPas, if_pos h]; exact tkPas_idem r ws _
    · simp only [tkPas, if_neg h]
theorem tkG_pas (r : Int) (l : List Int) (ws : List (Int × Int)) : ∀ k, tkG r (tkPas r l ws).1 (tkPas r l ws).2 k = tkG r l ws k
  | 0 => rfl
  | k + 1 => by simp only [tkG, tkPas_idem]

theorem tkG_nil (r : Int) : ∀ (k : Nat) (l : List Int), tkG r l [] k = r + (l.take k).sum
  | 0, l => by simp [tkG]
  | k + 1, [] => by simp [tkG, tkPas]
  | k + 1, u :: l => by
    simp only [tkG, tkPas]
    rw [tkG_nil (r + u) k l]
    simp; omega
theorem take_nonneg {l : List Int} (h : NonNeg l) (k : Nat) : 0 ≤ (l.take k).sum := by
  induction l generalizing k with
  | nil => simp
  | cons u l ih =>
    cases k with
    | zero => simp
    | succ k =>
      have h1 := h u (by simp)
      have h2 := ih (fun x hx => h x (by simp [hx])) k
      simp; omega
theorem take_next {u : Int} : ∀ {l : List Int}, NonNeg l → 0 ≤ u → (∀ x ∈ l, x ≤ u) → ∀ k, (l.take k).sum ≤ (l.take (k + 1)).sum ∧ (l.take (k + 1)).sum ≤ (l.take k).sum + u
  | [], _, h0, _, k => by simp; omega
  | x :: l, hn, h0, hu, 0 => by
    have := hn x (by simp)
    have := hu x (by simp)
    simp; omega
  | x :: l, hn, h0, hu, k + 1 => by
    have ih := take_next (l := l) (fun y hy => hn y (by simp [hy])) h0 (fun y hy => hu y (by simp [hy])) k
    simp only [List.take_succ_cons, List.sum_cons]
    omega
/-- One more among them: the greatest k + 1 are the greatest k + 1 without it, or the greatest k with it. -/
theorem top_ins (f : Int) (hf : 0 ≤ f) : ∀ (l : List Int), Falls l → NonNeg l → ∀ k, ((tkIns f l).take (k + 1)).sum = max ((l.take (k + 1)).sum) ((l.take k).sum + f)
  | [], _, _, k => by simp [tkIns]; omega
  | u :: l, hs, hn, k => by
    have h2 := List.pairwise_cons.1 hs
    have hn2 : NonNeg l := fun x hx => hn x (by simp [hx])
    have hu0 := hn u (by simp)
    unfold tkIns
    split
    · rename_i hu
      have h3 := take_next (u := f) hn hf (fun x hx => by
        rcases List.mem_cons.1 hx with rfl | hx
        · exact hu
        · exact Int.le_trans (h2.1 x hx) hu) k
      simp only [List.take_succ_cons (a := f), List.sum_cons]
      omega
    · rename_i hu
      cases k with
      | zero => simp; omega
      | succ k =>
        have ih := top_ins f hf l h2.2 hn2 k
        simp only [List.take_succ_cons, List.sum_cons]
        rw [ih]; omega

/-- A WELL MORE, NO NEARER THAN THE OTHERS. -/
theorem tkG_well (p f : Int) (hf : 0 ≤ f) : ∀ (k : Nat) (r : Int) (l : List Int) (ws : List (Int × Int)), Falls l → NonNeg l → (∀ w ∈ ws, w.1 ≤ p ∧ 0 ≤ w.2) →
    tkG r l (ws ++ [(p, f)]) (k + 1) = if p ≤ tkG r l ws k then max (tkG r l ws (k + 1)) (tkG r l ws k + f) else tkG r l ws (k + 1) := by
  intro k
  induction k with
  | zero =>
    intro r l ws hs hn hw
    by_cases hp : p ≤ r
    · have ha := tkPas_all r ws l (fun w h => Int.le_trans (hw w h).1 hp)
      have hL := (tkPas_nonneg r ws l hn (fun w h => (hw w h).2)).1
      have e1 : tkG r l ws 0 = r := rfl
      rw [e1, if_pos hp]
      have e2 : tkG r l (ws ++ [(p, f)]) (0 + 1) = r + ((tkIns f (tkPas r l ws).1).take 1).sum := by
        rw [← tkG_pas, ha.2 (p, f) hp, tkG_nil]
      have e3 : tkG r l ws (0 + 1) = r + ((tkPas r l ws).1.take 1).sum := by
        rw [← tkG_pas, ha.1, tkG_nil]
      have h4 := top_ins f hf _ (tkPas_falls r ws l hs) hL 0
      simp only [Nat.zero_add] at e2 e3 h4 ⊢
      rw [e2, e3, h4]
      simp only [List.take_zero, List.sum_nil]
      omega
    · have e1 : tkG r l ws 0 = r := rfl
      rw [e1, if_neg hp]
      simp only [tkG]
      rw [tkPas_not r (p, f) (by show r < p; omega)]
      generalize tkPas r l ws = x
      obtain ⟨x, y⟩ := x
      cases x <;> rfl
  | succ k ih =>
    intro r l ws hs hn hw
    by_cases hp : p ≤ r
    · have ha := tkPas_all r ws l (fun w h => Int.le_trans (hw w h).1 hp)
      have hL := (tkPas_nonneg r ws l hn (fun w h => (hw w h).2)).1
      have hS := tkPas_falls r ws l hs
      have e : ∀ j, tkG r l ws j = r + ((tkPas r l ws).1.take j).sum := fun j => by rw [← tkG_pas, ha.1, tkG_nil]
      have e2 : tkG r l (ws ++ [(p, f)]) (k + 1 + 1) = r + ((tkIns f (tkPas r l ws).1).take (k + 1 + 1)).sum := by
        rw [← tkG_pas, ha.2 (p, f) hp, tkG_nil]
      have h4 := top_ins f hf _ hS hL (k + 1)
      have h5 := take_nonneg hL (k + 1)
      rw [e2, e (k + 1), e (k + 1 + 1), h4, if_pos (by omega)]
      omega
    · have hn2 := tkPas_nonneg r ws l hn (fun w h => (hw w h).2)
      have hS := tkPas_falls r ws l hs
      have e1 : tkG r l (ws ++ [(p, f)]) (k + 1 + 1) = match (tkPas r l ws).1 with
          | [] => r
          | u :: l' => tkG (r + u) l' ((tkPas r l ws).2 ++ [(p, f)]) (k + 1) := by
        conv => lhs; unfold tkG
        rw [tkPas_not r (p, f) (by show r < p; omega)]
        cases (tkPas r l ws).1 <;> rfl
      have e2 : ∀ j, tkG r l ws (j + 1) = match (tkPas r l ws).1 with
          | [] => r
          | u :: l' => tkG (r + u) l' (tkPas r l ws).2 j := by
        intro j
        conv => lhs; unfold tkG
        generalize tkPas r l ws = x
        obtain ⟨x, y⟩ := x
        cases x <;> rfl
      rw [e1, e2 k, e2 (k + 1)]
      cases hx : (tkPas r l ws).1 with
      | nil => simp only; rw [if_neg hp]
      | cons u l' =>
        simp only
        rw [hx] at hS hn2
        exact ih (r + u) l' _ (List.pairwise_cons.1 hS).2 (fun x hx => hn2.1 x (by simp [hx])) (fun w h => hw w (hn2.2 w h))

/-- Once a taking brings nothing, none does. -/
theorem tkG_stuck : ∀ (k : Nat) (r : Int) (l : List Int) (ws : List (Int × Int)), Falls l → NonNeg l → (∀ w ∈ ws, 0 ≤ w.2) → tkG r l ws k = tkG r l ws (k + 1) → tkG r l ws (k + 1) = tkG r l ws (k + 1 + 1) := by
  intro k
  induction k with
  | zero =>
    intro r l ws hs hn hw h
    have hn2 := tkPas_nonneg r ws l hn hw
    have hS := tkPas_falls r ws l hs
    have hid : tkPas r (tkPas r l ws).1 (tkPas r l ws).2 = ((tkPas r l ws).1, (tkPas r l ws).2) := tkPas_idem r ws l
    have e2 : ∀ j, tkG r l ws (j + 1) = match (tkPas r l ws).1 with
        | [] => r
        | u :: l' => tkG (r + u) l' (tkPas r l ws).2 j := by
      intro j
      conv => lhs; unfold tkG
      generalize tkPas r l ws = x
      obtain ⟨x, y⟩ := x
      cases x <;> rfl
    have e0 : tkG r l ws 0 = r := rfl
    rw [e0, e2 0] at h
    rw [e2 0, e2 (0 + 1)]
    generalize (tkPas r l ws).2 = ws' at *
    cases hx : (tkPas r l ws).1 with
    | nil => rfl
    | cons u l' =>
      rw [hx] at h hS hn2 hid
      (try simp only at h ⊢)
      have hu : u = 0 := by have : tkG (r + u) l' ws' 0 = r + u := rfl; omega
      subst hu
      have hz : ∀ x ∈ l', x = 0 := fun x hx => by
        have h1 := (List.pairwise_cons.1 hS).1 x hx
        have h2 := hn2.1 x (by simp [hx])
        omega
      have e3 : tkG (r + 0) l' ws' 0 = r := by show r + 0 = r; omega
      rw [e3]
      -- nothing is passed any more
      have hst : tkPas r l' ws' = (l', ws') := by
        cases ws' with
        | nil => rfl
        | cons w ws2 =>
          obtain ⟨p, f⟩ := w
          by_cases hp : p ≤ r
          · exfalso
            have hl := tkPas_len r ((p, f) :: ws2) (0 :: l')
            rw [hid] at hl
            have h6 := congrArg (fun x => x.2.length) hid
            simp only [tkPas, if_pos hp] at h6
            have h7 : ∀ (ws : List (Int × Int)) (l : List Int), (tkPas r l ws).2.length ≤ ws.length := by
              intro ws
              induction ws with
              | nil => intro l; simp [tkPas]
              | cons w ws ih =>
                intro l
                obtain ⟨p, f⟩ := w
                simp only [tkPas]
                split
                · have := ih (tkIns f l); simp; omega
                · simp
            have h8 := h7 ws2 (tkIns f (0 :: l'))
            (try simp at h6)
            omega
          · simp only [tkPas, if_neg hp]
      show r = tkG (r + 0) l' ws' (0 + 1)
      rw [show r + 0 = r by omega]
      unfold tkG
      rw [hst]
      cases l' with
      | nil => rfl
      | cons v l2 =>
        have := hz v (by simp)
        subst this
        show r = r + 0
        omega
  | succ k ih =>
    intro r l ws hs hn hw h
    have hn2 := tkPas_nonneg r ws l hn hw
    have hS := tkPas_falls r ws l hs
    have e2 : ∀ j, tkG r l ws (j + 1) = match (tkPas r l ws).1 with
        | [] => r
        | u :: l' => tkG (r + u) l' (tkPas r l ws).2 j := by
      intro j
      conv => lhs; unfold tkG
      generalize tkPas r l ws = x
      obtain ⟨x, y⟩ := x
      cases x <;> rfl
    rw [e2, e2] at h
    rw [e2, e2]
    cases hx : (tkPas r l ws).1 with
    | nil => rfl
    | cons u l' =>
      rw [hx] at h hS hn2
      (try simp only at h ⊢)
      exact ih (r + u) l' _ (List.pairwise_cons.1 hS).2 (fun x hx => hn2.1 x (by simp [hx])) (fun w h => hw w (hn2.2 w h)) h
/-- No more takings than wells. -/
theorem tkG_len : ∀ (k : Nat) (r : Int) (l : List Int) (ws : List (Int × Int)), l.length + ws.length ≤ k → tkG r l ws (k + 1) = tkG r l ws k
  | 0, r, l, ws, h => by
    have h1 : l = [] := List.eq_nil_of_length_eq_zero (by omega)
    have h2 : ws = [] := List.eq_nil_of_length_eq_zero (by omega)
    subst h1 h2
    rfl
  | k + 1, r, l, ws, h => by
    have hl := tkPas_len r ws l
    have e2 : ∀ j, tkG r l ws (j + 1) = match (tkPas r l ws).1 with
        | [] => r
        | u :: l' => tkG (r + u) l' (tkPas r l ws).2 j := by
      intro j
      conv => lhs; unfold tkG
      generalize tkPas r l ws = x
      obtain ⟨x, y⟩ := x
      cases x <;> rfl
    rw [e2, e2]
    cases hx : (tkPas r l ws).1 with
    | nil => rfl
    | cons u l' =>
      rw [hx] at hl
      (try simp only)
      exact tkG_len k (r + u) l' _ (by simp at hl; omega)
theorem tkG_up : ∀ (k : Nat) (r : Int) (l : List Int) (ws : List (Int × Int)), NonNeg l → (∀ w ∈ ws, 0 ≤ w.2) → tkG r l ws k ≤ tkG r l ws (k + 1)
  | 0, r, l, ws, hn, hw => by
    have hn2 := tkPas_nonneg r ws l hn hw
    show r ≤ _
    unfold tkG
    generalize tkPas r l ws = x at *
    obtain ⟨x, y⟩ := x
    cases x with
    | nil => exact Int.le_refl _
    | cons u l' => have := hn2.1 u (by simp); show r ≤ r + u; omega
  | k + 1, r, l, ws, hn, hw => by
    have hn2 := tkPas_nonneg r ws l hn hw
    unfold tkG
    generalize tkPas r l ws = x at *
    obtain ⟨x, y⟩ := x
    cases x with
    | nil => exact Int.le_refl _
    | cons u l' => exact tkG_up k (r + u) l' y (fun x hx => hn2.1 x (by simp [hx])) (fun w h => hw w (hn2.2 w h))

/-- The table: T is what it holds behind the wells ws; entries from the number of wells on may be too small, where no taking more brings anything. -/
def TabOf (r : Int) (ws : List (Int × Int)) (T : Nat → Int) : Prop :=
  ∀ k, T k ≤ tkG r [] ws k ∧ (T k = tkG r [] ws k ∨ (0 < k ∧ tkG r [] ws (k - 1) = tkG r [] ws k))
/-- The next well's turn: each entry k + 1, k no greater than i, from the elder table. -/
def tkNext (p f : Int) (i : Nat) (T : Nat → Int) : Nat → Int
  | 0 => T 0
  | k + 1 => if k ≤ i ∧ p ≤ T k then max (T (k + 1)) (T k + f) else T (k + 1)
theorem tab_start (r : Int) : TabOf r [] (fun _ => r) := by
  intro k
  have h : tkG r [] [] k = r := by rw [tkG_nil]; simp
  exact ⟨by rw [h]; exact Int.le_refl _, Or.inl h.symm⟩
theorem tab_next (r p f : Int) (hf : 0 ≤ f) (ws : List (Int × Int)) (hw : ∀ w ∈ ws, w.1 ≤ p ∧ 0 ≤ w.2) (T : Nat → Int) (h : TabOf r ws T) : TabOf r (ws ++ [(p, f)]) (tkNext p f ws.length T) := by
  have F0 : Falls [] := List.Pairwise.nil
  have N0 : NonNeg [] := fun x hx => by cases hx
  have hw2 : ∀ w ∈ ws, 0 ≤ w.2 := fun w h => (hw w h).2
  have hW := fun k => tkG_well p f hf k r [] ws F0 N0 hw
  have hU := fun k => tkG_up k r [] ws N0 hw2
  have hSt := fun k => tkG_stuck k r [] ws F0 N0 hw2
  have hLen := fun k (hk : ws.length ≤ k) => tkG_len k r [] ws (by simpa using hk)
  intro k
  cases k with
  | zero => exact ⟨(h 0).1, Or.inl (by
      rcases (h 0).2 with e | e
      · exact e
      · omega)⟩
  | succ k =>
    have hk := h k
    have hk1 := h (k + 1)
    have hWk := hW k
    have hUk := hU k
    -- the elder value one before, too
    have hprev : 0 < k → tkG r [] ws (k - 1) = tkG r [] ws k → tkG r [] ws (k + 1) = tkG r [] ws k ∧ tkG r [] (ws ++ [(p, f)]) k = (if p ≤ tkG r [] ws k then tkG r [] ws k + f else tkG r [] ws k) := by
      intro h0 he
      obtain ⟨j, rfl⟩ : ∃ j, k = j + 1 := ⟨k - 1, by omega⟩
      rw [Nat.add_sub_cancel] at he
      have h3 := hSt j he
      refine ⟨h3.symm, ?_⟩
      rw [hW j, he]
      split <;> omega
    show (if k ≤ ws.length ∧ p ≤ T k then max (T (k + 1)) (T k + f) else T (k + 1)) ≤ _ ∧ _
    simp only [tkNext, Nat.add_sub_cancel] at *
    by_cases hc : k ≤ ws.length ∧ p ≤ T k
    · rw [if_pos hc]
      have hpg : p ≤ tkG r [] ws k := Int.le_trans hc.2 hk.1
      rw [hWk, if_pos hpg]
      refine ⟨by omega, ?_⟩
      rcases hk.2 with e | ⟨h0, e⟩
      · left
        rcases hk1.2 with e1 | ⟨_, e1⟩
        · rw [e, e1]
        · omega
      · right
        have h3 := hprev h0 e
        rw [if_pos hpg] at h3
        refine ⟨by omega, ?_⟩
        rw [h3.2, h3.1]; omega
    · rw [if_neg hc]
      have hge : tkG r [] ws (k + 1) ≤ tkG r [] (ws ++ [(p, f)]) (k + 1) := by
        rw [hWk]; split <;> omega
      refine ⟨Int.le_trans hk1.1 hge, ?_⟩
      rcases hk.2 with e | ⟨h0, e⟩
      · by_cases hkl : k ≤ ws.length
        · have hnp : ¬ p ≤ tkG r [] ws k := fun hp => hc ⟨hkl, by omega⟩
          rw [hWk, if_neg hnp]
          rcases hk1.2 with e1 | ⟨_, e1⟩
          · exact Or.inl e1
          · right
            refine ⟨by omega, ?_⟩
            cases k with
            | zero => exact e1
            | succ j =>
              have hUj := hU j
              rw [hW j, if_neg (by omega)]
              exact e1
        · have h3 := hLen k (by omega)
          have h4 := hLen (k - 1) (by omega)
          rw [show k - 1 + 1 = k by omega] at h4
          have h5 := hprev (by omega) h4.symm
          right
          refine ⟨by omega, ?_⟩
          rw [h5.2, hWk, h5.1]
          split <;> omega
      · have h5 := hprev h0 e
        right
        refine ⟨by omega, ?_⟩
        rw [h5.2, hWk, h5.1]
        split <;> omega
/-- The first entry that is enough is the least number of takings. -/
theorem tab_first (r : Int) (ws : List (Int × Int)) (T : Nat → Int) (h : TabOf r ws T) (way : Int) (k : Nat) (h1 : way ≤ T k) (h2 : ∀ j, j < k → T j < way) : way ≤ tkG r [] ws k ∧ ∀ j, j < k → tkG r [] ws j < way := by
  refine ⟨Int.le_trans h1 (h k).1, ?_⟩
  intro j
  induction j with
  | zero =>
    intro hj
    have := h2 0 hj
    rcases (h 0).2 with e | e
    · omega
    · omega
  | succ j ih =>
    intro hj
    have h3 := h2 (j + 1) hj
    have h4 := ih (by omega)
    rcases (h (j + 1)).2 with e | ⟨_, e⟩
    · omega
    · rw [Nat.add_sub_cancel] at e; omega
theorem tab_none (r : Int) (ws : List (Int × Int)) (T : Nat → Int) (h : TabOf r ws T) (way : Int) (n : Nat) (h2 : ∀ j, j ≤ n → T j < way) : ∀ j, j ≤ n → tkG r [] ws j < way := by
  intro j
  induction j with
  | zero =>
    intro hj
    have := h2 0 hj
    rcases (h 0).2 with e | e
    · omega
    · omega
  | succ j ih =>
    intro hj
    have h3 := h2 (j + 1) hj
    have h4 := ih (by omega)
    rcases (h (j + 1)).2 with e | ⟨_, e⟩
    · omega
    · rw [Nat.add_sub_cancel] at e; omega
end Go.Proofs.Ytoienhjbhpdehaa
