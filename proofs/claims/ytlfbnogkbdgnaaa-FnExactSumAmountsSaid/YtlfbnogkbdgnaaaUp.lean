/- Unit parts: plain facts, slices of whole numbers, and the contract of the model's UnitParts. -/
import Derived.Test.YtlfbnogkbdgnaaaLawBase
import Derived.Test.YtlfbnogkbdgnaaaReck2
import Derived.Test.YtlfbnogkbdgnaaaPubS2
import Derived.Test.YtlfbnogkbdgnaaaStep
import Derived.Test.YtlfbnogkbdgnaaaUnits
import Derived.WalkSmall
import Derived.IntWalk
namespace Go.Proofs.Ytlfbnogkbdgnaaa
open Go.RowKit
set_option linter.unusedVariables false
set_option linter.unusedSimpArgs false

theorem infoInt : (Try.prog.info? 3).map (fun i => (i.zero, i.size, i.bytes)) = some (some (.int .i64 0), 1, 8) := by kernel_rfl

/-- The Den of the greatest unit fraction that is no greater than n / d. -/
def denU (n d : Int) : Int := (d + n - 1) / n
/-- The Dens of at most j unit fractions that are n / d together. -/
def upF : Nat → Int → Int → Option (List Int)
  | 0, n, d => if n = 0 then some [] else none
  | j + 1, n, d => if n = 0 then some [] else if lowB (n * denU n d - d) (d * denU n d) = true then (upF j (lowN (n * denU n d - d) (d * denU n d)) (lowD (n * denU n d - d) (d * denU n d))).map (denU n d :: ·) else none
theorem upF_zero (j : Nat) (d : Int) : upF j 0 d = some [] := by cases j <;> simp [upF]
theorem upF_step (j : Nat) (n d : Int) (h : n ≠ 0) : upF (j + 1) n d = if lowB (n * denU n d - d) (d * denU n d) = true then (upF j (lowN (n * denU n d - d) (d * denU n d)) (lowD (n * denU n d - d) (d * denU n d))).map (denU n d :: ·) else none := by
  simp [upF, h]
theorem upF_none (n d : Int) (h : n ≠ 0) : upF 0 n d = none := by simp [upF, h]
theorem den_bd (n d : Int) (h1 : 0 < n) (h2 : n ≤ 1000000000) (h3 : 1 ≤ d) (h4 : d ≤ 1000000000) : 1 ≤ denU n d ∧ denU n d ≤ 1000000000 ∧ d ≤ n * denU n d := by
  unfold denU
  refine ⟨?_, ?_, ?_⟩
  · exact (Int.le_ediv_iff_mul_le h1).2 (by omega)
  · have : (d + n - 1) / n ≤ d := by
      have h : d + n - 1 < (d + 1) * n := by
        have : (d + 1) * n = d * n + n := by rw [Int.add_mul, Int.one_mul]
        have : d ≤ d * n := by
          have := Int.mul_le_mul_of_nonneg_left (show (1 : Int) ≤ n by omega) (show 0 ≤ d by omega)
          omega
        omega
      have := Int.ediv_lt_of_lt_mul h1 h
      omega
    omega
  · have h := Int.emod_add_mul_ediv (d + n - 1) n
    have h' := Int.emod_lt_of_pos (d + n - 1) h1
    omega
/-- All that UnitParts answers. -/
def upO (n d : Int) : Option (List Int) := if amB n d = true ∧ n < d then upF 6 n d else none
def upL (n d : Int) : List Int := (upO n d).getD []

/-- The ending of UnitParts: a slice that the call owns, and whether there are such fractions. -/
def UpPost (o : Option (List Int)) (w : World) (e : Ending) (w' : World) : Prop :=
  ∃ v, e = .returned (.tuple #[v, .bool o.isSome]) ∧ w'.ownsRow w.heap.size 3 1 v (o.getD []).length ((o.getD []).map (Value.int .i64)) ∧ Below w.heap.size w w'

theorem ownsRow_mono {w : World} {base base' e size n : Nat} {v : Value} {xs : List Value} (h : w.ownsRow base e size v n xs) (hb : base' ≤ base) : w.ownsRow base' e size v n xs := by
  obtain ⟨h1, h⟩ := h
  rcases h with h | ⟨g', cap, cur, hv, hg, r⟩
  · exact ⟨h1, Or.inl h⟩
  · exact ⟨h1, Or.inr ⟨g', cap, cur, hv, by omega, r⟩⟩
/-- What a call does that makes blocks of its own, to a row that is there. -/
theorem ownsRow_below {w w' : World} {base e size n : Nat} {v : Value} {xs : List Value} (h : w.ownsRow base e size v n xs) (hb : Below w.heap.size w w') : w'.ownsRow base e size v n xs := by
  obtain ⟨h1, h⟩ := h
  rcases h with h | ⟨g', cap, cur, hv, hg, hh, r⟩
  · exact ⟨h1, Or.inl h⟩
  · have hlt : g' < w.heap.size := (Array.getElem?_eq_some_iff.1 hh).1
    exact ⟨h1, Or.inr ⟨g', cap, cur, hv, hg, by rw [hb.block g' hlt]; exact hh, r⟩⟩
def lenOf : Value → Nat | .slice _ k _ => k | _ => 0
theorem owns_shape {w : World} {base e size n : Nat} {v : Value} {xs : List Value} (h : w.ownsRow base e size v n xs) : ∃ a cap, v = .slice a n cap := by
  obtain ⟨_, h⟩ := h
  rcases h with ⟨rfl, rfl⟩ | ⟨g', cap, cur, rfl, _⟩
  · exact ⟨none, 0, rfl⟩
  · exact ⟨_, cap, rfl⟩
theorem up_nil (w w' : World) (h : Below w.heap.size w w') : UpPost none w (.returned (.tuple #[.slice none 0 0, .bool false])) w' := ⟨_, rfl, ⟨rfl, Or.inl ⟨rfl, rfl⟩⟩, h⟩

set_option maxHeartbeats 1600000 in
theorem up_spec_no (n d : Int) (bn : -9223372036854775808 ≤ n ∧ n ≤ 9223372036854775807) (bd : -9223372036854775808 ≤ d ∧ d ≤ 9223372036854775807) (h : ¬ (amB n d = true ∧ n < d)) (w : World) :
    Calls Try.prog 49 #[.agg #[.int .i64 n, .int .i64 d]] w (UpPost none w) := by
  cases ha : amB n d
  · clear h
    go_enter Try.func49, Try.ntmps49
    (go_wp2_with fail; refine (good_spec _ _ _).mono ?_; rintro e w1 ⟨rfl, hb1⟩; rw [ha]; have ha1 := hb1; obtain ⟨kc1, kf1, kz1, ky1, kx1, kv1, ku1⟩ := bcell hb1)
    go_wp2
    go_ret2
    refine up_nil _ _ ?_
    (repeat (first | exact Below.refl _ _ | assumption | refine balloc ?_ _ | refine bdrew ?_ | refine bset ?_ ?_ _ | exact Nat.le_refl _ | refine bsize ?_ | (dsimp only; refine Nat.le_trans ?_ (Nat.le_add_right _ _)) | refine Nat.le_trans ?_ (Nat.le_add_right _ _) | (refine bstep ?_ (by assumption))))
  · have hlt : ¬ n < d := fun e => h ⟨ha, e⟩
    clear h
    go_enter Try.func49, Try.ntmps49
    (go_wp2_with fail; refine (good_spec _ _ _).mono ?_; rintro e w1 ⟨rfl, hb1⟩; rw [ha]; have ha1 := hb1; obtain ⟨kc1, kf1, kz1, ky1, kx1, kv1, ku1⟩ := bcell hb1)
    go_wp2
    go_ret2
    refine up_nil _ _ ?_
    (repeat (first | exact Below.refl _ _ | assumption | refine balloc ?_ _ | refine bdrew ?_ | refine bset ?_ ?_ _ | exact Nat.le_refl _ | refine bsize ?_ | (dsimp only; refine Nat.le_trans ?_ (Nat.le_add_right _ _)) | refine Nat.le_trans ?_ (Nat.le_add_right _ _) | (refine bstep ?_ (by assumption))))

set_option maxHeartbeats 3200000 in
theorem up_spec_yes (n d : Int) (ha : amB n d = true) (hlt : n < d) (w : World) :
    Calls Try.prog 49 #[.agg #[.int .i64 n, .int .i64 d]] w (UpPost (upF 6 n d) w) := by
  obtain ⟨i0, hi, hz0, hz1, hz2⟩ := info_parts infoInt
  have HA := Lib.hid ha
  go_enter Try.func49, Try.ntmps49
  (go_wp2_with fail; refine (good_spec _ _ _).mono ?_; rintro e w1 ⟨rfl, hb1⟩; rw [ha]; have ha1 := hb1; obtain ⟨kc1, kf1, kz1, ky1, kx1, kv1, ku1⟩ := bcell hb1)
  clear ha
  go_wp2
  go_loopw [4] (fun v wr => ∃ (l : List Int) (x y : Int) (a : Option Addr) (cap : Nat), v = .slice a l.length cap ∧ l.length ≤ 6 ∧ Hid (amB x y = true) ∧ Hid (upF 6 n d = (upF (6 - l.length) x y).map (l ++ ·)) ∧ wr.cell? ⟨w.heap.size, 0, none⟩ = some (.int .i64 x) ∧ wr.cell? ⟨w.heap.size, 1, none⟩ = some (.int .i64 y) ∧
      wr.frozen? ⟨w.heap.size, 0, none⟩ = false ∧ wr.frozen? ⟨w.heap.size, 1, none⟩ = false ∧ wr.ownsRow (w.heap.size + 1) 3 1 v l.length (l.map (Value.int .i64)) ∧ w.heap.size < wr.heap.size ∧ Below w.heap.size w wr) (fun v _ => 7 - lenOf v)
  case atStart =>
    refine ⟨[], n, d, none, 0, rfl, by simp, HA.out, by simp [Hid], by simp [go_sem, kc1], by simp [go_sem, kc1], by simp [go_sem, kf1], by simp [go_sem, kf1], ⟨rfl, Or.inl ⟨rfl, rfl⟩⟩, kz1 _ (by simp), ?_⟩
    (repeat (first | exact Below.refl _ _ | assumption | refine balloc ?_ _ | refine bdrew ?_ | refine bset ?_ ?_ _ | exact Nat.le_refl _ | refine bsize ?_ | (dsimp only; refine Nat.le_trans ?_ (Nat.le_add_right _ _)) | refine Nat.le_trans ?_ (Nat.le_add_right _ _) | (refine bstep ?_ (by assumption))))
  case round =>
    clear kc1 kf1 kz1 ky1 kx1 kv1 ku1 hb1 ha1
    obtain ⟨l, x, y, a, cap, rfl, hl6, hxy, hup, c1, c2, f1, f2, hown, hs, hbel⟩ := hrel
    have hxa := am_of x y hxy.out
    by_cases hx0 : x = 0
    · subst hx0
      have hfin : Hid (upF 6 n d = some l) := by
        have := hup.out
        rw [upF_zero] at this
        simpa [Hid] using this
      clear hup
      go_wp2
      go_ret2
      rw [hfin.out]
      exact ⟨_, rfl, ownsRow_mono hown (by omega), hbel⟩
    · have hxp : 0 < x := by have := hxa.a; omega
      obtain ⟨e1, e2, e3⟩ := den_bd x y hxp hxa.b hxa.c hxa.d
      by_cases h6 : l.length = 6
      · have hfin : Hid (upF 6 n d = none) := by
          have := hup.out
          rw [h6, upF_none x y hx0] at this
          simpa [Hid] using this
        have h6' : ((l.length : Int) == 6) = true := by simp; omega
        obtain ⟨b1, b2, b3, b4⟩ := hxa
        unfold denU at e1 e2 e3
        clear hup h6
        go_wp2
        go_ret2
        rw [hfin.out]
        exact up_nil _ _ hbel
      · have h6' : ((l.length : Int) == 6) = false := by simp; omega
        have hl5 : l.length ≤ 5 := by omega
        have hup2 := hup.out
        obtain ⟨j, hj⟩ : ∃ j, 6 - l.length = j + 1 := ⟨5 - l.length, by omega⟩
        rw [hj, upF_step j x y hx0] at hup2
        have hjl : 6 - (l ++ [denU x y]).length = j := by simp; omega
        obtain ⟨b1, b2, b3, b4⟩ := hxa
        have m1 := mul_bd x (denU x y) b1 b2 (by omega) e2
        have m2 := mul_bd y (denU x y) (by omega) b4 (by omega) e2
        have n2 := Int.mul_pos (show 0 < y by omega) (show 0 < denU x y by omega)
        have hb0 : ∀ W, lowB (x * denU x y - y) (y * denU x y) = false → Calls Try.prog 59 #[.int .i64 (x * denU x y - y), .int .i64 (y * denU x y)] W fun e w' => e = .returned (.tuple #[.agg #[.int .i64 0, .int .i64 0], .bool false]) ∧ Below W.heap.size W w' := by
          intro W hb
          have := make_spec (x * denU x y - y) (y * denU x y) (by omega) (by omega) (by omega) (by omega) W
          rwa [lowN_no _ _ hb, lowD_no _ _ hb, hb] at this
        have hb1 : ∀ W, lowB (x * denU x y - y) (y * denU x y) = true → Calls Try.prog 59 #[.int .i64 (x * denU x y - y), .int .i64 (y * denU x y)] W fun e w' => e = .returned (.tuple #[.agg #[.int .i64 (lowN (x * denU x y - y) (y * denU x y)), .int .i64 (lowD (x * denU x y - y) (y * denU x y))], .bool true]) ∧ Below W.heap.size W w' := by
          intro W hb
          have := make_spec (x * denU x y - y) (y * denU x y) (by omega) (by omega) (by omega) (by omega) W
          rwa [hb] at this
        have hdd0 : (y + x - 1) / x = denU x y := rfl
        generalize denU x y = dd at *
        have HB0 := Lib.hid hb0
        have HB1 := Lib.hid hb1
        have HU := Lib.hid hup2
        have HJ := Lib.hid hjl
        have HX := Lib.hid hxy
        clear hb0 hb1 hup2 hjl hup h6 hxy hj
        go_wp2_with (at_builtin; refine wpList_append_own _ rfl _ _ 46 rfl (w.heap.size + 1) 3 i0 (.int .i64 0) 1 8 Try.underlying46 hi hz0 hz1 hz2 rfl (by decide) _ _ _ rfl (hown.alloc _) ⟨wr.heap.size, 0, none⟩ 1 1 [.int .i64 dd] rfl rfl ?q1 ?q2 ?q3 ?q4 ?q5 ?_)
        case q1 => exact cell_one_new _ _ _
        case q2 => simp [Value.oneCell']
        case q3 => unfold maxLen; omega
        case q4 => omega
        case q5 => first | (simp; omega) | omega
        intro v' w1 hown' hgrow _
        have hown2 : w1.ownsRow (w.heap.size + 1) 3 1 v' (l ++ [dd]).length ((l ++ [dd]).map (Value.int .i64)) := by simpa using hown'
        have hbg : Below (w.heap.size + 1) wr w1 := by
          refine ((Below.refl _ _).alloc (by omega) _).grown hgrow ?_ (fun g e => own_block hown e)
          simp; omega
        obtain ⟨a', cap', hv'⟩ := owns_shape hown2
        have c1' := (hbg.cell (p := ⟨w.heap.size, 0, none⟩) (by simp)).trans c1
        have c2' := (hbg.cell (p := ⟨w.heap.size, 1, none⟩) (by simp)).trans c2
        have f1' := (hbg.frozen (p := ⟨w.heap.size, 0, none⟩) (by simp)).trans f1
        have f2' := (hbg.frozen (p := ⟨w.heap.size, 1, none⟩) (by simp)).trans f2
        have hs' : w.heap.size < w1.heap.size := by have := hbg.size; omega
        have hbel' : Below w.heap.size w w1 := hbel.trans (hbg.mono (by omega))
        clear hown' hgrow hbg c1 c2 f1 f2 hs hbel hown
        rw [hv']
        rw [hv'] at hown2
        clear hv'
        cases hB : lowB (x * dd - y) (y * dd)
        · have hfin : Hid (upF 6 n d = none) := by
            have := HU.out
            rw [hB] at this
            simpa [Hid] using this
          clear HB1
          go_wp2_with fail
          refine (HB0.out _ hB).mono ?_
          rintro e w3 ⟨rfl, hb3⟩
          obtain ⟨kc3, kf3, kz3, ky3, kx3, kv3, ku3⟩ := bcell hb3
          go_wp2
          go_ret2
          rw [hfin.out]
          refine up_nil _ _ ?_
          (repeat (first | exact Below.refl _ _ | assumption | refine balloc ?_ _ | refine bdrew ?_ | refine bset ?_ ?_ _ | exact Nat.le_refl _ | refine bsize ?_ | (dsimp only; refine Nat.le_trans ?_ (Nat.le_add_right _ _)) | refine Nat.le_trans ?_ (Nat.le_add_right _ _) | (refine bstep ?_ (by assumption))))
        · have hnew := Lib.hid (amB_low _ _ hB)
          have hnext : Hid (upF 6 n d = (upF (6 - (l ++ [dd]).length) (lowN (x * dd - y) (y * dd)) (lowD (x * dd - y) (y * dd))).map ((l ++ [dd]) ++ ·)) := by
            have h0 := HU.out
            rw [hB] at h0
            rw [HJ.out]
            show upF 6 n d = _
            rw [h0]
            simp [Option.map_map, Function.comp_def]
          clear HB0 HU
          go_wp2_with fail
          refine (HB1.out _ hB).mono ?_
          rintro e w3 ⟨rfl, hb3⟩
          obtain ⟨kc3, kf3, kz3, ky3, kx3, kv3, ku3⟩ := bcell hb3
          have q0 := (kc3 w.heap.size 0 hs').trans c1'
          have q1 := (kc3 w.heap.size 1 hs').trans c2'
          have q2 := (kf3 w.heap.size 0 hs').trans f1'
          have q3 := (kf3 w.heap.size 1 hs').trans f2'
          have z2 := kz3 w.heap.size hs'
          have hown3 := ownsRow_below hown2 hb3
          have hlen1 : (l ++ [dd]).length ≤ 6 := by simp; omega
          clear kc3 kf3 kz3 ky3 kx3 kv3 ku3
          go_wp2
          go_roundw
          case rel =>
            refine ⟨l ++ [dd], _, _, a', cap', by simp, hlen1, hnew, hnext, by simp [go_sem, q0, q1, z2], by simp [go_sem, q0, q1, z2], by simp [go_sem, q2, z2], by simp [go_sem, q3, z2], ?_, by simp; omega, ?_⟩
            · rw [show l.length + 1 = (l ++ [dd]).length by simp]
              exact ((ownsRow_setCell_below (a := ⟨w.heap.size, 1, none⟩) (ownsRow_setCell_below (a := ⟨w.heap.size, 0, none⟩) hown3 (by simp) _) (by simp) _).alloc _)
            · (repeat (first | exact Below.refl _ _ | assumption | refine balloc ?_ _ | refine bdrew ?_ | refine bset ?_ ?_ _ | exact Nat.le_refl _ | refine bsize ?_ | (dsimp only; refine Nat.le_trans ?_ (Nat.le_add_right _ _)) | refine Nat.le_trans ?_ (Nat.le_add_right _ _) | (refine bstep ?_ (by assumption))))
          case measure => simp [lenOf]; omega
end Go.Proofs.Ytlfbnogkbdgnaaa
