/- Takings of fuel: the model takes the most each time. -/
import Derived.Test.YtoienhjbhpdehaaTakI
namespace Go.Proofs.Ytoienhjbhpdehaa
open Go.ChangeShapes Go.WideShapes Go.ChangeAt Go.RowKit Go.Joins
set_option maxRecDepth 100000
set_option linter.unusedVariables false
set_option linter.unusedSimpArgs false

theorem tkIns_cons (f u : Int) (l : List Int) : tkIns f (u :: l) = if u ≤ f then f :: u :: l else u :: tkIns f l := rfl
def tkSrt (l : List Int) : List Int := l.foldr tkIns []
theorem tkSrt_mem (x : Int) : ∀ l : List Int, x ∈ tkSrt l ↔ x ∈ l
  | [] => by simp [tkSrt]
  | u :: l => by
    show x ∈ tkIns u (tkSrt l) ↔ _
    rw [tkIns_mem, tkSrt_mem x l]; simp
theorem tkIns_top (f : Int) : ∀ l : List Int, (∀ x ∈ l, x ≤ f) → tkIns f l = f :: l
  | [], _ => rfl
  | u :: l, h => by unfold tkIns; rw [if_pos (h u (by simp))]
theorem tkSrt_mid (f : Int) (Y : List Int) (hY : ∀ x ∈ Y, x ≤ f) : ∀ X : List Int, (∀ x ∈ X, x ≤ f) → tkSrt (X ++ f :: Y) = f :: tkSrt (X ++ Y)
  | [], _ => by
    show tkIns f (tkSrt Y) = _
    exact tkIns_top f _ (fun x hx => hY x ((tkSrt_mem x Y).1 hx))
  | x :: X, hX => by
    have ih := tkSrt_mid f Y hY X (fun y hy => hX y (by simp [hy]))
    show tkIns x (tkSrt (X ++ f :: Y)) = f :: tkIns x (tkSrt (X ++ Y))
    rw [ih]
    have hx := hX x (by simp)
    rw [tkIns_cons]
    by_cases h : f ≤ x
    · have e : x = f := by omega
      subst e
      rw [if_pos h]
      have h2 := tkIns_top x (tkSrt (X ++ Y)) (fun y hy => by
        have := (tkSrt_mem y (X ++ Y)).1 hy
        rcases List.mem_append.1 this with h | h
        · exact hX y (by simp [h])
        · exact hY y h)
      rw [h2]
    · rw [if_neg h]
/-- What may be taken: of the first m wells those that are not used. -/
def tkAv (l : List StaV) (U : Nat → Bool) : Nat → List Int
  | 0 => []
  | m + 1 => if U m = true then tkAv l U m else (l.getD m default).a :: tkAv l U m
theorem tkAv_succ (l : List StaV) (U : Nat → Bool) (m : Nat) : tkAv l U (m + 1) = if U m = true then tkAv l U m else (l.getD m default).a :: tkAv l U m := rfl
theorem tkAv_congr (l : List StaV) (U V : Nat → Bool) : ∀ m : Nat, (∀ k, k < m → U k = V k) → tkAv l U m = tkAv l V m
  | 0, _ => rfl
  | m + 1, h => by
    rw [tkAv_succ, tkAv_succ, h m (by omega), tkAv_congr l U V m (fun k hk => h k (by omega))]
theorem tkAv_le (l : List StaV) (U : Nat → Bool) (f : Int) : ∀ m : Nat, (∀ k, k < m → U k = false → (l.getD k default).a ≤ f) → ∀ x ∈ tkAv l U m, x ≤ f
  | 0, _, x, hx => by simp [tkAv] at hx
  | m + 1, h, x, hx => by
    rw [tkAv_succ] at hx
    have ih := tkAv_le l U f m (fun k hk => h k (by omega)) x
    split at hx
    · exact ih hx
    · rename_i hu
      rcases List.mem_cons.1 hx with rfl | hx
      · exact h m (by omega) (by simpa using hu)
      · exact ih hx
def tkUp (U : Nat → Bool) (b : Nat) : Nat → Bool := fun k => if k = b then true else U k
theorem tkAv_split (l : List StaV) (U : Nat → Bool) (b : Nat) (hb : U b = false) : ∀ m : Nat, b < m → ∃ X Y, tkAv l U m = X ++ (l.getD b default).a :: Y ∧ tkAv l (tkUp U b) m = X ++ Y
  | 0, h => by omega
  | m + 1, h => by
    by_cases e : b = m
    · subst e
      refine ⟨[], tkAv l U b, ?_, ?_⟩
      · rw [tkAv_succ, if_neg (by rw [hb]; simp)]; rfl
      · have h2 : tkUp U b b = true := by simp [tkUp]
        rw [tkAv_succ, if_pos h2]
        exact tkAv_congr l _ _ b (fun k hk => by unfold tkUp; rw [if_neg (by omega)])
    · obtain ⟨X, Y, h1, h2⟩ := tkAv_split l U b hb m (by omega)
      have h3 : tkUp U b m = U m := by unfold tkUp; rw [if_neg (by omega)]
      cases hu : U m
      · refine ⟨(l.getD m default).a :: X, Y, ?_, ?_⟩
        · rw [tkAv_succ, if_neg (by rw [hu]; simp), h1]; rfl
        · rw [tkAv_succ, if_neg (by rw [h3, hu]; simp), h2]; rfl
      · refine ⟨X, Y, ?_, ?_⟩
        · rw [tkAv_succ, if_pos hu, h1]
        · rw [tkAv_succ, if_pos (by rw [h3, hu]), h2]
theorem tkAv_none (l : List StaV) (U : Nat → Bool) : ∀ m : Nat, tkAv l U m = [] → ∀ k, k < m → U k = true
  | 0, _, k, hk => by omega
  | m + 1, h, k, hk => by
    rw [tkAv_succ] at h
    split at h
    · rename_i hu
      by_cases e : k = m
      · subst e; exact hu
      · exact tkAv_none l U m h k (by omega)
    · cases h
theorem tkG_push (r p f : Int) (h : p ≤ r) (L : List Int) (ws : List (Int × Int)) : ∀ j, tkG r L ((p, f) :: ws) j = tkG r (tkIns f L) ws j
  | 0 => rfl
  | j + 1 => by simp only [tkG, tkPas, if_pos h]
theorem tkG_take (r u : Int) (L : List Int) (ws : List (Int × Int)) (h : tkPas r (u :: L) ws = (u :: L, ws)) (j : Nat) : tkG r (u :: L) ws (j + 1) = tkG (r + u) L ws j := by
  conv => lhs; unfold tkG
  rw [h]
theorem tkG_end (r : Int) (ws : List (Int × Int)) (h : tkPas r [] ws = ([], ws)) : ∀ j, tkG r [] ws j = r
  | 0 => rfl
  | j + 1 => by
    unfold tkG
    rw [h]
theorem tkR_drop (l : List StaV) (n m : Nat) (hm : m < n) : (tkR l n).drop m = (tkAt l (m + 1), (l.getD m default).a) :: (tkR l n).drop (m + 1) := by
  have hlt : m < (tkR l n).length := by rw [tkR_len]; exact hm
  rw [List.drop_eq_getElem_cons hlt]
  congr 1
  simp [tkR]
theorem tkR_dropn (l : List StaV) (n : Nat) : (tkR l n).drop n = [] := List.drop_eq_nil_of_le (by rw [tkR_len]; exact Nat.le_refl _)
/-- Nothing more is come to. -/
theorem tkPas_still (l : List StaV) (n m : Nat) (r : Int) (h : m < n → r < tkAt l (m + 1)) (hm : m ≤ n) (L : List Int) : tkPas r L ((tkR l n).drop m) = (L, (tkR l n).drop m) := by
  by_cases hlt : m < n
  · rw [tkR_drop l n m hlt]
    unfold tkPas
    rw [if_neg (by have := h hlt; omega)]
  · obtain rfl : m = n := by omega
    rw [tkR_dropn]; rfl

/-- A row of truths by their function. -/
def rowB (n : Nat) (U : Nat → Bool) : List Value := (List.range n).map (fun k => .bool (U k))
theorem rowB_len (n : Nat) (U : Nat → Bool) : (rowB n U).length = n := by simp [rowB]
theorem rowB_get (n : Nat) (U : Nat → Bool) (k : Nat) (hk : k < n) : (rowB n U)[k]? = some (.bool (U k)) := by simp [rowB, hk]
theorem rowB_set (n : Nat) (U : Nat → Bool) (b : Nat) : (rowB n U).set b (.bool true) = rowB n (tkUp U b) := by
  apply List.ext_getElem?
  intro k
  by_cases hk : k < n
  · rw [rowB_get n _ k hk]
    by_cases e : k = b
    · subst e
      rw [List.getElem?_set_self (by rw [rowB_len]; exact hk)]; simp [tkUp]
    · rw [List.getElem?_set_ne (by omega), rowB_get n U k hk]; simp [tkUp, e]
  · rw [List.getElem?_eq_none (by rw [List.length_set, rowB_len]; omega), List.getElem?_eq_none (by rw [rowB_len]; omega)]
theorem rowB_made (n : Nat) : (madeCells #[(.bool false : Value)] n).toList = rowB n (fun _ => false) := by
  rw [toList_madeCells_one]
  unfold rowB
  rw [List.map_const', List.length_range]

/-- Where the model stands: t takings, m wells passed, these used, fuel for r in all. -/
structure TkSt (fuel way : Int) (l : List StaV) (n t m : Nat) (U : Nat → Bool) (r : Int) : Prop where
  hm : m ≤ n
  hg : ∀ j, tkG fuel [] (tkR l n) (t + j) = tkG r (tkSrt (tkAv l U m)) ((tkR l n).drop m) j
  hlow : ∀ j, j < t → tkG fuel [] (tkR l n) j < way
  hu : ∀ k, m ≤ k → U k = false
  hc : (tkAv l U m).length + (n - m) + t = n
theorem tkSt_start (fuel way : Int) (l : List StaV) (n : Nat) : TkSt fuel way l n 0 0 (fun _ => false) fuel :=
  ⟨Nat.zero_le _, fun j => by rw [Nat.zero_add]; rfl, fun j hj => absurd hj (Nat.not_lt_zero _), fun _ _ => rfl, by simp [tkAv]⟩
theorem tkSt_pass {fuel way : Int} {l : List StaV} {n t m : Nat} {U : Nat → Bool} {r : Int} (h : TkSt fuel way l n t m U r) (hm : m < n) (hp : tkAt l (m + 1) ≤ r) : TkSt fuel way l n t (m + 1) U r := by
  have e : tkAv l U (m + 1) = (l.getD m default).a :: tkAv l U m := by
    rw [tkAv_succ, if_neg (by rw [h.hu m (Nat.le_refl _)]; simp)]
  refine ⟨hm, fun j => ?_, h.hlow, fun k hk => h.hu k (by omega), ?_⟩
  · rw [h.hg j, tkR_drop l n m hm, tkG_push _ _ _ hp, e]; rfl
  · have := h.hc; rw [e, List.length_cons]; omega
theorem tkSt_take {fuel way : Int} {l : List StaV} {n t m : Nat} {U : Nat → Bool} {r : Int} (h : TkSt fuel way l n t m U r) (hs : m < n → r < tkAt l (m + 1)) (hr : r < way) (b : Nat) (hb : b < m) (hu : U b = false) (hmax : ∀ k, k < m → U k = false → (l.getD k default).a ≤ (l.getD b default).a) :
    TkSt fuel way l n (t + 1) m (tkUp U b) (r + (l.getD b default).a) := by
  obtain ⟨X, Y, e1, e2⟩ := tkAv_split l U b hu m hb
  have hle := tkAv_le l U _ m hmax
  rw [e1] at hle
  have es : tkSrt (tkAv l U m) = (l.getD b default).a :: tkSrt (tkAv l (tkUp U b) m) := by
    rw [e1, e2]
    exact tkSrt_mid _ Y (fun x hx => hle x (by simp [hx])) X (fun x hx => hle x (by simp [hx]))
  have h0 := h.hg 0
  rw [Nat.add_zero] at h0
  have hg0 : tkG r (tkSrt (tkAv l U m)) ((tkR l n).drop m) 0 = r := rfl
  refine ⟨h.hm, fun j => ?_, fun j hj => ?_, fun k hk => ?_, ?_⟩
  · rw [show t + 1 + j = t + (j + 1) by omega, h.hg (j + 1), es]
    exact tkG_take r _ _ _ (tkPas_still l n m r hs h.hm _) j
  · by_cases e : j = t
    · subst e; rw [h0, hg0]; exact hr
    · exact h.hlow j (by omega)
  · unfold tkUp; rw [if_neg (by omega)]; exact h.hu k hk
  · have := h.hc
    rw [e1] at this
    rw [e2]
    simp only [List.length_append, List.length_cons] at *
    omega
theorem tkSt_none {fuel way : Int} {l : List StaV} {n t m : Nat} {U : Nat → Bool} {r : Int} (h : TkSt fuel way l n t m U r) (hs : m < n → r < tkAt l (m + 1)) (hr : r < way) (hn : tkAv l U m = []) : ∀ j, tkG fuel [] (tkR l n) j < way := by
  intro j
  by_cases hj : j < t
  · exact h.hlow j hj
  · have e := h.hg (j - t)
    rw [show t + (j - t) = j by omega, hn] at e
    rw [e]
    have := tkG_end r _ (tkPas_still l n m r hs h.hm []) (j - t)
    show tkG r [] _ _ < way
    rw [this]; exact hr
theorem tkSt_end {fuel way : Int} {l : List StaV} {n t m : Nat} {U : Nat → Bool} {r : Int} (h : TkSt fuel way l n t m U r) (hr : way ≤ r) : t ≤ n ∧ way ≤ tkG fuel [] (tkR l n) t ∧ ∀ j, j < t → tkG fuel [] (tkR l n) j < way := by
  have h0 := h.hg 0
  rw [Nat.add_zero] at h0
  have hg0 : tkG r (tkSrt (tkAv l U m)) ((tkR l n).drop m) 0 = r := rfl
  exact ⟨by have := h.hc; omega, by rw [h0, hg0]; exact hr, h.hlow⟩
/-- The best one so far: of the first i wells. -/
def TkBest (l : List StaV) (U : Nat → Bool) (i : Nat) (b : Int) : Prop :=
  (b = -1 ∧ tkAv l U i = []) ∨ ∃ k : Nat, b = k ∧ k < i ∧ U k = false ∧ ∀ j, j < i → U j = false → (l.getD j default).a ≤ (l.getD k default).a
theorem tkBest_used {l : List StaV} {U : Nat → Bool} {k : Nat} {b : Int} (h : TkBest l U k b) (hu : U k = true) : TkBest l U (k + 1) b := by
  rcases h with ⟨h1, h2⟩ | ⟨j, h1, h2, h3, h4⟩
  · exact Or.inl ⟨h1, by rw [tkAv_succ, if_pos hu]; exact h2⟩
  · refine Or.inr ⟨j, h1, by omega, h3, fun i hi hui => ?_⟩
    by_cases e : i = k
    · subst e; rw [hu] at hui; cases hui
    · exact h4 i (by omega) hui
theorem tkBest_first {l : List StaV} {U : Nat → Bool} {k : Nat} (h : tkAv l U k = []) (hu : U k = false) : TkBest l U (k + 1) (k : Int) := by
  refine Or.inr ⟨k, rfl, by omega, hu, fun i hi hui => ?_⟩
  by_cases e : i = k
  · subst e; exact Int.le_refl _
  · have := tkAv_none l U k h i (by omega)
    rw [this] at hui; cases hui
theorem tkBest_more {l : List StaV} {U : Nat → Bool} {k j : Nat} (h4 : ∀ i, i < k → U i = false → (l.getD i default).a ≤ (l.getD j default).a) (hu : U k = false) (hlt : (l.getD j default).a < (l.getD k default).a) : TkBest l U (k + 1) (k : Int) := by
  refine Or.inr ⟨k, rfl, by omega, hu, fun i hi hui => ?_⟩
  by_cases e : i = k
  · subst e; exact Int.le_refl _
  · have := h4 i (by omega) hui
    omega
theorem tkBest_less {l : List StaV} {U : Nat → Bool} {k j : Nat} (h2 : j < k) (h3 : U j = false) (h4 : ∀ i, i < k → U i = false → (l.getD i default).a ≤ (l.getD j default).a) (hle : (l.getD k default).a ≤ (l.getD j default).a) : TkBest l U (k + 1) (j : Int) := by
  refine Or.inr ⟨j, rfl, by omega, h3, fun i hi hui => ?_⟩
  by_cases e : i = k
  · subst e; exact hle
  · exact h4 i (by omega) hui
end Go.Proofs.Ytoienhjbhpdehaa
