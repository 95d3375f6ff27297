/- The model's splitting of a text at a byte. -/
import Derived.Test.YtffafiidblamkaaDoorRead
import Derived.Test.YtffafiidblamkaaDoorRow
import Derived.Test.YtffafiidblamkaaDoorApp
import Derived.OwnWalk
namespace Go.Proofs.YtffafiidblamkaaDoor
open Go.ChangeShapes Go.WideShapes Go.ChangeAt Go.RowKit Go.Joins
set_option maxRecDepth 100000
set_option linter.unusedVariables false
set_option linter.unusedSimpArgs false

/-- The pieces of a text, the first of which has begun. -/
def spA (b : UInt8) : List UInt8 → List UInt8 → List (List UInt8)
  | cur, [] => [cur]
  | cur, c :: l => if c = b then cur :: spA b [] l else spA b (cur ++ [c]) l
def spl (b : UInt8) (l : List UInt8) : List (List UInt8) := spA b [] l
/-- A piece as a value; the cells of all. -/
def pieceV (p : List UInt8) : Value := .string ⟨p.toArray⟩
def cellsS (l : List (List UInt8)) : List Value := l.map pieceV
theorem extract_is (s : ByteArray) (i j : Nat) : s.extract i j = ⟨((s.data.toList.take j).drop i).toArray⟩ := by
  apply ByteArray.ext
  rw [ByteArray.data_extract]
  apply Array.toList_inj.1
  simp [List.extract_eq_take_drop, List.drop_take]
theorem infoStr : (Tryd.prog.info? 9).map (fun i => (i.zero, i.size, i.bytes)) = some (some (.string { data := #[] }), 1, 16) := by kernel_rfl
theorem drop_cons (s : ByteArray) (k : Nat) (h : k < s.size) : s.data.toList.drop k = s[k] :: s.data.toList.drop (k + 1) := by
  rw [List.drop_eq_getElem_cons (by rw [size_len]; exact h)]; rfl
theorem cur_snoc (s : ByteArray) (f k : Nat) (hf : f ≤ k) (h : k < s.size) : (s.data.toList.take (k + 1)).drop f = (s.data.toList.take k).drop f ++ [s[k]] := by
  rw [take_snoc s k h, List.drop_append_of_le_length (by rw [List.length_take, size_len]; omega)]
set_option maxHeartbeats 1600000 in
theorem split_spec (s : ByteArray) (b : UInt8) (hs : s.size ≤ 1000000) (w : World) :
    Calls Tryd.prog 35 #[.string s, .int .u8 (b.toNat : Int)] w fun e w' => ∃ v, e = .returned v ∧ w'.ownsRow w.heap.size 9 1 v (spl b s.data.toList).length (cellsS (spl b s.data.toList)) ∧ Below w.heap.size w w' := by
  have hl := size_len s
  obtain ⟨i0, hi, hz0, hz1, hz2⟩ := info_parts infoStr
  go_enter Tryd.func35, Tryd.ntmps35
  go_wp2
  go_loopw [5, 6, 7] (fun o f i wr => ∃ (k from_ : Nat) (D : List (List UInt8)) (v : Value), v = o ∧ k ≤ s.size ∧ from_ ≤ k ∧ D.length ≤ k ∧ i = .int .i64 k ∧ f = .int .i64 from_ ∧ Hid (D ++ spA b ((s.data.toList.take k).drop from_) (s.data.toList.drop k) = spl b s.data.toList) ∧
      wr.ownsRow w.heap.size 9 1 v D.length (cellsS D) ∧ Below w.heap.size w wr) (fun _ _ i _ => s.size - (intOf i).toNat)
  case atStart => exact ⟨0, 0, [], _, rfl, Nat.zero_le _, Nat.le_refl _, Nat.zero_le _, rfl, rfl, Lib.hid (by simp [spl]), ⟨rfl, Or.inl ⟨rfl, rfl⟩⟩, Below.refl _ _⟩
  case round =>
    obtain ⟨k, fr, D, v, rfl, hk, hfr, hD, rfl, rfl, hsp, hown, hbel⟩ := hrel
    have hbs := hbel.size
    by_cases hlt : k < s.size
    · have hdc := drop_cons s k hlt
      have hcs := cur_snoc s fr k hfr hlt
      by_cases hb : (s[k].toNat : Int) = (b.toNat : Int)
      · have heq : s[k] = b := UInt8.toNat_inj.1 (by omega)
        have hnx : Hid ((D ++ [(s.data.toList.take k).drop fr]) ++ spA b ((s.data.toList.take (k + 1)).drop (k + 1)) (s.data.toList.drop (k + 1)) = spl b s.data.toList) := Lib.hid (by
          have h := hsp.out
          rw [hdc, spA, if_pos heq] at h
          rw [← h]
          have e : (s.data.toList.take (k + 1)).drop (k + 1) = [] := by rw [List.drop_eq_nil_iff, List.length_take]; omega
          rw [e]; simp)
        have hex := Lib.hid (extract_is s fr k)
        have i1 : (0 : Int) ≤ (fr : Int) := by omega
        have i2 : (fr : Int) ≤ (k : Int) := by omega
        have i3 : (k : Int) ≤ (s.size : Int) := by omega
        clear hdc hcs hsp heq
        go_wp2_with (at_builtin; refine wpList_append_own _ rfl _ _ 55 rfl w.heap.size 9 i0 (.string { data := #[] }) 1 16 Tryd.underlying55 hi hz0 hz1 hz2 rfl (by decide) v D.length (cellsS D) rfl ?own ⟨_, 0, none⟩ 1 1 [.string (s.extract fr k)] rfl rfl ?s1 ?s2 ?s3 ?s4 ?s5 ?_)
        case own => (repeat (first | with_reducible assumption | with_reducible refine own_alloc ?_ _ | with_reducible refine own_drew ?_ | with_reducible refine own_set ?_ ?_ _))
        case s1 =>
          intro j u hu
          match j, hu with
          | 0, hu => simp at hu; subst hu; simp [go_sem, Addr.add]
        case s2 => simp [Value.oneCell']
        case s3 => unfold maxLen; omega
        case s4 => omega
        case s5 => first | (simp; done) | (simp; omega)
        intro v' w4 hown' hgrow hnn
        have bel4 : Below w.heap.size w w4 := by
          refine grown_bel (base := w.heap.size) (e := 9) (size := 1) (n := D.length) (xs := cellsS D) ?_ hgrow (by (repeat (first | with_reducible assumption | with_reducible refine own_alloc ?_ _ | with_reducible refine own_drew ?_ | with_reducible refine own_set ?_ ?_ _))) (Nat.le_refl _)
          (repeat (first | with_reducible exact Below.refl _ _ | with_reducible assumption | with_reducible refine balloc ?_ _ | with_reducible refine bdrew ?_ | with_reducible refine below_drewN ?_ _ | with_reducible refine bset ?_ ?_ _ | with_reducible exact Nat.le_refl _ | with_reducible refine bsize ?_ | (dsimp only; refine Nat.le_trans ?_ (Nat.le_add_right _ _)) | with_reducible refine Nat.le_trans ?_ (Nat.le_add_right _ _) | (with_reducible refine bstep ?_ (by assumption))))
        have hown2 : w4.ownsRow w.heap.size 9 1 v' (D ++ [(s.data.toList.take k).drop fr]).length (cellsS (D ++ [(s.data.toList.take k).drop fr])) := by
          rw [List.length_append]
          have e : cellsS (D ++ [(s.data.toList.take k).drop fr]) = cellsS D ++ [.string (s.extract fr k)] := by unfold cellsS; rw [List.map_append, hex.out]; rfl
          rw [e]
          exact hown'
        clear hown' hgrow hown hex
        go_wp2
        go_roundw
        case rel => exact ⟨k + 1, k + 1, _, _, rfl, by omega, Nat.le_refl _, by simp; omega, by go_num, by go_num, hnx, hown2, bel4⟩
        case measure => simp [intOf]; omega
      · have hne : ¬ s[k] = b := fun e => hb (by rw [e])
        have hnx : Hid (D ++ spA b ((s.data.toList.take (k + 1)).drop fr) (s.data.toList.drop (k + 1)) = spl b s.data.toList) := Lib.hid (by
          have h := hsp.out
          rw [hdc, spA, if_neg hne] at h
          rw [hcs]
          exact h)
        clear hdc hcs hsp hne
        go_wp2
        go_roundw
        case rel => exact ⟨k + 1, fr, D, _, rfl, by omega, by omega, by omega, by go_num, rfl, hnx, hown, hbel⟩
        case measure => simp [intOf]; omega
    · have hk' : k = s.size := by omega
      subst hk'
      have hfin : Hid (spl b s.data.toList = D ++ [s.data.toList.drop fr]) := Lib.hid (by
        have h := hsp.out
        have e1 : s.data.toList.drop s.size = [] := List.drop_of_length_le (by omega)
        have e2 : s.data.toList.take s.size = s.data.toList := List.take_of_length_le (by omega)
        rw [e1, e2] at h
        rw [← h]; rfl)
      have hex : Hid (s.extract fr s.size = ⟨(s.data.toList.drop fr).toArray⟩) := Lib.hid (by rw [extract_is, List.take_of_length_le (by omega)])
      have i1 : (0 : Int) ≤ (fr : Int) := by omega
      have i2 : (fr : Int) ≤ (s.size : Int) := by omega
      clear hsp
      go_wp2_with (at_builtin; refine wpList_append_own _ rfl _ _ 55 rfl w.heap.size 9 i0 (.string { data := #[] }) 1 16 Tryd.underlying55 hi hz0 hz1 hz2 rfl (by decide) v D.length (cellsS D) rfl ?own ⟨_, 0, none⟩ 1 1 [.string (s.extract fr s.size)] rfl rfl ?s1 ?s2 ?s3 ?s4 ?s5 ?_)
      case own => (repeat (first | with_reducible assumption | with_reducible refine own_alloc ?_ _ | with_reducible refine own_drew ?_ | with_reducible refine own_set ?_ ?_ _))
      case s1 =>
        intro j u hu
        match j, hu with
        | 0, hu => simp at hu; subst hu; simp [go_sem, Addr.add]
      case s2 => simp [Value.oneCell']
      case s3 => unfold maxLen; omega
      case s4 => omega
      case s5 => first | (simp; done) | (simp; omega)
      intro v' w4 hown' hgrow hnn
      have bel4 : Below w.heap.size w w4 := by
        refine grown_bel (base := w.heap.size) (e := 9) (size := 1) (n := D.length) (xs := cellsS D) ?_ hgrow (by (repeat (first | with_reducible assumption | with_reducible refine own_alloc ?_ _ | with_reducible refine own_drew ?_ | with_reducible refine own_set ?_ ?_ _))) (Nat.le_refl _)
        (repeat (first | with_reducible exact Below.refl _ _ | with_reducible assumption | with_reducible refine balloc ?_ _ | with_reducible refine bdrew ?_ | with_reducible refine below_drewN ?_ _ | with_reducible refine bset ?_ ?_ _ | with_reducible exact Nat.le_refl _ | with_reducible refine bsize ?_ | (dsimp only; refine Nat.le_trans ?_ (Nat.le_add_right _ _)) | with_reducible refine Nat.le_trans ?_ (Nat.le_add_right _ _) | (with_reducible refine bstep ?_ (by assumption))))
      have hown2 : w4.ownsRow w.heap.size 9 1 v' (spl b s.data.toList).length (cellsS (spl b s.data.toList)) := by
        rw [hfin.out, List.length_append]
        have e : cellsS (D ++ [s.data.toList.drop fr]) = cellsS D ++ [.string (s.extract fr s.size)] := by unfold cellsS; rw [List.map_append, hex.out]; rfl
        rw [e]
        exact hown'
      clear hown' hgrow hown hex
      go_wp2
      go_ret
      exact ⟨v', rfl, hown2, bel4⟩
end Go.Proofs.YtffafiidblamkaaDoor
