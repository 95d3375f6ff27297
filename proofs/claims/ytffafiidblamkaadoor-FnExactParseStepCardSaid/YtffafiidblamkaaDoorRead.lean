/- The model's reading of decimal numbers. -/
import Derived.Test.YtffafiidblamkaaDoorText
import Derived.Deep.QuietTactic
namespace Go.Proofs.YtffafiidblamkaaDoor
open Go.ChangeShapes Go.WideShapes Go.ChangeAt Go.RowKit Go.Joins
set_option maxRecDepth 100000
set_option linter.unusedVariables false
set_option linter.unusedSimpArgs false

/-- Is it a digit? -/
def dgB (c : UInt8) : Bool := decide (48 ≤ (c.toNat : Int) ∧ (c.toNat : Int) ≤ 57)
/-- The number that digits spell. -/
def rdG (l : List UInt8) : Int := l.foldl (fun n c => 10 * n + ((c.toNat : Int) - 48)) 0
/-- What is read: a number of one to six digits with no zero ahead, or -1. -/
def rdB (l : List UInt8) : Bool := decide (1 ≤ l.length ∧ l.length ≤ 6) && (!(decide (l.head? = some 48 ∧ 1 < l.length)) && l.all dgB)
def rdI (l : List UInt8) : Int := if rdB l = true then rdG l else -1
theorem rdG_snoc (l : List UInt8) (c : UInt8) : rdG (l ++ [c]) = 10 * rdG l + ((c.toNat : Int) - 48) := by unfold rdG; rw [List.foldl_append]; rfl
theorem rdG_bd (k : Nat) : ∀ l : List UInt8, l.length = k → l.all dgB = true → 0 ≤ rdG l ∧ rdG l < 10 ^ k := by
  induction k with
  | zero => intro l h _; rw [List.length_eq_zero_iff.1 h]; exact ⟨by decide, by decide⟩
  | succ k ih =>
    intro l h ha
    obtain ⟨l', c, rfl⟩ : ∃ l' c, l = l' ++ [c] := by
      have hne : l ≠ [] := by intro e; rw [e] at h; simp at h
      exact ⟨_, _, (List.dropLast_concat_getLast hne).symm⟩
    rw [List.all_append] at ha
    simp at ha
    have hc : dgB c = true := ha.2
    unfold dgB at hc
    have hc := of_decide_eq_true hc
    have := ih l' (by simpa using h) (by simpa using ha.1)
    rw [rdG_snoc]
    have e : (10 : Int) ^ (k + 1) = 10 * 10 ^ k := by rw [Int.pow_succ]; omega
    rw [e]
    omega
theorem take_snoc (s : ByteArray) (k : Nat) (h : k < s.size) : s.data.toList.take (k + 1) = s.data.toList.take k ++ [s[k]] := by
  rw [List.take_succ_eq_append_getElem (by simpa using h)]; rfl
theorem size_len (s : ByteArray) : s.data.toList.length = s.size := Array.length_toList
set_option maxHeartbeats 800000 in
theorem read_spec (s : ByteArray) (hs : s.size ≤ 9223372036854775807) (w : World) :
    Calls Tryd.prog 36 #[.string s] w fun e w' => e = .returned (.int .i64 (rdI s.data.toList)) ∧ w = w' := by
  have hl := size_len s
  have HI := Lib.hid (fun W => in_spec (s.size : Int) 1 6 W)
  by_cases h1 : 1 ≤ s.size ∧ s.size ≤ 6
  · have hb : inB (s.size : Int) 1 6 = true := by unfold inB; exact decide_eq_true ⟨by omega, by omega⟩
    rw [hb] at HI
    obtain ⟨h1a, h1b⟩ := h1
    have h0 : 0 < s.size := by omega
    have hh : s.data.toList.head? = some s[0] := by
      rw [List.head?_eq_getElem?, List.getElem?_eq_getElem (by omega)]; rfl
    clear hb
    by_cases hz : (s[0].toNat : Int) = 48
    · by_cases h2 : 1 < s.size
      · have e : Hid (rdI s.data.toList = -1) := Lib.hid (by
          have : rdB s.data.toList = false := by
            have e48 : s[0] = 48 := by apply UInt8.toNat_inj.1; have : (48 : UInt8).toNat = 48 := rfl; omega
            unfold rdB; rw [hh, hl, e48]; simp [h2]
          unfold rdI; rw [this]; rfl)
        clear hh hl
        go_enter Tryd.func36, Tryd.ntmps36
        go_wp2_with fail
        refine (HI.out _).mono ?_
        rintro e1 w1 ⟨rfl, rfl⟩
        go_wp2
        go_ret
        exact ⟨by rw [e.out]; rfl, rfl⟩
      · go_enter Tryd.func36, Tryd.ntmps36
        go_wp2_with fail
        refine (HI.out _).mono ?_
        rintro e1 w1 ⟨rfl, rfl⟩
        go_wp2
        go_loopw [3, 4] (fun n i wr => ∃ k : Nat, k ≤ s.size ∧ i = .int .i64 k ∧ n = .int .i64 (rdG (s.data.toList.take k)) ∧ Hid ((s.data.toList.take k).all dgB = true) ∧ wr = w) (fun _ i _ => s.size - (intOf i).toNat)
        case atStart => exact ⟨0, Nat.zero_le _, rfl, rfl, Lib.hid rfl, rfl⟩
        case round =>
          obtain ⟨k, hk, rfl, rfl, hall, rfl⟩ := hrel
          by_cases hlt : k < s.size
          · have hts := take_snoc s k hlt
            have hbd := rdG_bd k (s.data.toList.take k) (by rw [List.length_take, hl]; omega) hall.out
            have hpw : (10 : Int) ^ k ≤ 100000 := by
              have : k ≤ 5 := by omega
              match k, this with
              | 0, _ => decide
              | 1, _ => decide
              | 2, _ => decide
              | 3, _ => decide
              | 4, _ => decide
              | 5, _ => decide
            have hG : Hid (rdG (s.data.toList.take (k + 1)) = 10 * rdG (s.data.toList.take k) + ((s[k].toNat : Int) - 48)) := Lib.hid (by rw [hts]; exact rdG_snoc _ _)
            have hA : Hid ((s.data.toList.take (k + 1)).all dgB = dgB s[k]) := Lib.hid (by rw [hts, List.all_append, hall.out]; simp)
            have hin : Hid (dgB s[k] = false → rdI s.data.toList = -1) := Lib.hid (fun h => by
              have : s.data.toList.all dgB = false := by
                rw [Bool.eq_false_iff]
                intro ha
                have := (List.all_eq_true.1 ha) s[k] (by
                  have := List.getElem_mem (l := s.data.toList) (n := k) (by omega)
                  exact this)
                rw [h] at this
                cases this
              have : rdB s.data.toList = false := by unfold rdB; rw [this]; simp
              unfold rdI; rw [this]; rfl)
            have hx : s[k].toNat ≤ 255 := by have := s[k].toNat_lt; omega
            obtain ⟨b1, b2⟩ := hbd
            generalize rdG (s.data.toList.take k) = G at *
            by_cases d1 : (s[k].toNat : Int) < 48
            · have hno := Lib.hid (hin.out (by unfold dgB; exact decide_eq_false (by omega)))
              clear hts hG hA hin hall hpw
              go_wp2
              go_ret
              exact ⟨by rw [hno.out]; rfl, rfl⟩
            by_cases d2 : 57 < (s[k].toNat : Int)
            · have hno := Lib.hid (hin.out (by unfold dgB; exact decide_eq_false (by omega)))
              clear hts hG hA hin hall hpw
              go_wp2
              go_ret
              exact ⟨by rw [hno.out]; rfl, rfl⟩
            · have hnx : Hid ((s.data.toList.take (k + 1)).all dgB = true) := Lib.hid (by rw [hA.out]; unfold dgB; exact decide_eq_true ⟨by omega, by omega⟩)
              have wq1 : IntKind.u8.wrap ((s[k].toNat : Int) - 48) = (s[k].toNat : Int) - 48 := IntWalk.u8_in _ (by omega)
              have wq2 : IntKind.i64.wrap ((s[k].toNat : Int) - 48) = (s[k].toNat : Int) - 48 := IntWalk.i64_in _ (by omega)
              have wq3 : IntKind.i64.wrap (10 * G) = 10 * G := IntWalk.i64_in _ (by omega)
              have wq4 : IntKind.i64.wrap (10 * G + ((s[k].toNat : Int) - 48)) = 10 * G + ((s[k].toNat : Int) - 48) := IntWalk.i64_in _ (by omega)
              clear hts hA hin hall hpw
              go_wp2
              go_roundw
              case rel => exact ⟨k + 1, by omega, by go_num, by rw [hG.out], hnx, by first | trivial | rfl⟩
              case measure => simp [intOf]; omega
          · have hk' : k = s.size := by omega
            subst hk'
            have hfin : Hid (rdI s.data.toList = rdG (s.data.toList.take s.size)) := Lib.hid (by
              have ht : s.data.toList.take s.size = s.data.toList := List.take_of_length_le (by omega)
              rw [ht]
              have ha := hall.out
              rw [ht] at ha
              have : rdB s.data.toList = true := by
                unfold rdB
                rw [hl, ha, hh]
                have : ¬ 1 < s.size := h2
                simp [h1a, h1b]; omega
              unfold rdI; rw [if_pos this])
            clear hall
            go_wp2
            go_ret
            exact ⟨by rw [hfin.out]; rfl, rfl⟩
    · go_enter Tryd.func36, Tryd.ntmps36
      go_wp2_with fail
      refine (HI.out _).mono ?_
      rintro e1 w1 ⟨rfl, rfl⟩
      go_wp2
      go_loopw [3, 4] (fun n i wr => ∃ k : Nat, k ≤ s.size ∧ i = .int .i64 k ∧ n = .int .i64 (rdG (s.data.toList.take k)) ∧ Hid ((s.data.toList.take k).all dgB = true) ∧ wr = w) (fun _ i _ => s.size - (intOf i).toNat)
      case atStart => exact ⟨0, Nat.zero_le _, rfl, rfl, Lib.hid rfl, rfl⟩
      case round =>
        obtain ⟨k, hk, rfl, rfl, hall, rfl⟩ := hrel
        by_cases hlt : k < s.size
        · have hts := take_snoc s k hlt
          have hbd := rdG_bd k (s.data.toList.take k) (by rw [List.length_take, hl]; omega) hall.out
          have hpw : (10 : Int) ^ k ≤ 100000 := by
            have : k ≤ 5 := by omega
            match k, this with
            | 0, _ => decide
            | 1, _ => decide
            | 2, _ => decide
            | 3, _ => decide
            | 4, _ => decide
            | 5, _ => decide
          have hG : Hid (rdG (s.data.toList.take (k + 1)) = 10 * rdG (s.data.toList.take k) + ((s[k].toNat : Int) - 48)) := Lib.hid (by rw [hts]; exact rdG_snoc _ _)
          have hA : Hid ((s.data.toList.take (k + 1)).all dgB = dgB s[k]) := Lib.hid (by rw [hts, List.all_append, hall.out]; simp)
          have hin : Hid (dgB s[k] = false → rdI s.data.toList = -1) := Lib.hid (fun h => by
            have : s.data.toList.all dgB = false := by
              rw [Bool.eq_false_iff]
              intro ha
              have := (List.all_eq_true.1 ha) s[k] (by
                have := List.getElem_mem (l := s.data.toList) (n := k) (by omega)
                exact this)
              rw [h] at this
              cases this
            have : rdB s.data.toList = false := by unfold rdB; rw [this]; simp
            unfold rdI; rw [this]; rfl)
          have hx : s[k].toNat ≤ 255 := by have := s[k].toNat_lt; omega
          obtain ⟨b1, b2⟩ := hbd
          generalize rdG (s.data.toList.take k) = G at *
          by_cases d1 : (s[k].toNat : Int) < 48
          · have hno := Lib.hid (hin.out (by unfold dgB; exact decide_eq_false (by omega)))
            clear hts hG hA hin hall hpw
            go_wp2
            go_ret
            exact ⟨by rw [hno.out]; rfl, rfl⟩
          by_cases d2 : 57 < (s[k].toNat : Int)
          · have hno := Lib.hid (hin.out (by unfold dgB; exact decide_eq_false (by omega)))
            clear hts hG hA hin hall hpw
            go_wp2
            go_ret
            exact ⟨by rw [hno.out]; rfl, rfl⟩
          · have hnx : Hid ((s.data.toList.take (k + 1)).all dgB = true) := Lib.hid (by rw [hA.out]; unfold dgB; exact decide_eq_true ⟨by omega, by omega⟩)
            have wq1 : IntKind.u8.wrap ((s[k].toNat : Int) - 48) = (s[k].toNat : Int) - 48 := IntWalk.u8_in _ (by omega)
            have wq2 : IntKind.i64.wrap ((s[k].toNat : Int) - 48) = (s[k].toNat : Int) - 48 := IntWalk.i64_in _ (by omega)
            have wq3 : IntKind.i64.wrap (10 * G) = 10 * G := IntWalk.i64_in _ (by omega)
            have wq4 : IntKind.i64.wrap (10 * G + ((s[k].toNat : Int) - 48)) = 10 * G + ((s[k].toNat : Int) - 48) := IntWalk.i64_in _ (by omega)
            clear hts hA hin hall hpw
            go_wp2
            go_roundw
            case rel => exact ⟨k + 1, by omega, by go_num, by rw [hG.out], hnx, by first | trivial | rfl⟩
            case measure => simp [intOf]; omega
        · have hk' : k = s.size := by omega
          subst hk'
          have hfin : Hid (rdI s.data.toList = rdG (s.data.toList.take s.size)) := Lib.hid (by
            have ht : s.data.toList.take s.size = s.data.toList := List.take_of_length_le (by omega)
            rw [ht]
            have ha := hall.out
            rw [ht] at ha
            have : rdB s.data.toList = true := by
              unfold rdB
              rw [hl, ha, hh]
              have : s[0] ≠ 48 := by
                intro e
                apply hz
                rw [e]; rfl
              simp [h1a, h1b, this]
            unfold rdI; rw [if_pos this])
          clear hall
          go_wp2
          go_ret
          exact ⟨by rw [hfin.out]; rfl, rfl⟩
  · have e : Hid (rdI s.data.toList = -1) := Lib.hid (by
      have : rdB s.data.toList = false := by
        unfold rdB; rw [hl]; rw [decide_eq_false h1]; rfl
      unfold rdI; rw [this]; rfl)
    have hb : inB (s.size : Int) 1 6 = false := by unfold inB; exact decide_eq_false (by omega)
    rw [hb] at HI
    clear hb
    go_enter Tryd.func36, Tryd.ntmps36
    go_wp2_with fail
    refine (HI.out _).mono ?_
    rintro e1 w1 ⟨rfl, rfl⟩
    go_wp2
    go_ret
    exact ⟨by rw [e.out]; rfl, rfl⟩
end Go.Proofs.YtffafiidblamkaaDoor
