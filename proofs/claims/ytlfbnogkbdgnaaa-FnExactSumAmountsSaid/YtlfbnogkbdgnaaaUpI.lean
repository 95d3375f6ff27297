/- The contract of the program's UnitParts. -/
import Derived.Test.YtlfbnogkbdgnaaaUp
import Derived.Deep.RegionHeld3
import Derived.OneCell
namespace Go.Proofs.Ytlfbnogkbdgnaaa
open Go.RowKit
set_option linter.unusedVariables false
set_option linter.unusedSimpArgs false

set_option maxHeartbeats 1600000 in
theorem up_impl_no (n d : Int) (bn : -9223372036854775808 ≤ n ∧ n ≤ 9223372036854775807) (bd : -9223372036854775808 ≤ d ∧ d ≤ 9223372036854775807) (h : ¬ (amB n d = true ∧ n < d)) (w : World) :
    Calls Try.prog 50 #[.agg #[.int .i64 n, .int .i64 d]] w (UpPost none w) := by
  cases ha : amB n d
  · clear h
    go_enter Try.func50, Try.ntmps50
    (go_wp2_with fail; refine (isam_impl _ _ (by omega) (by omega) _).mono ?_; rintro e w1 ⟨rfl, hb1⟩; rw [ha]; have ha1 := hb1; obtain ⟨kc1, kf1, kz1, ky1, kx1, kv1, ku1⟩ := bcell hb1)
    go_wp2
    go_ret2
    refine up_nil _ _ ?_
    (repeat (first | exact Below.refl _ _ | assumption | refine balloc ?_ _ | refine bdrew ?_ | refine bset ?_ ?_ _ | exact Nat.le_refl _ | refine bsize ?_ | (dsimp only; refine Nat.le_trans ?_ (Nat.le_add_right _ _)) | refine Nat.le_trans ?_ (Nat.le_add_right _ _) | (refine bstep ?_ (by assumption))))
  · have hlt : ¬ n < d := fun e => h ⟨ha, e⟩
    clear h
    go_enter Try.func50, Try.ntmps50
    (go_wp2_with fail; refine (isam_impl _ _ (by omega) (by omega) _).mono ?_; rintro e w1 ⟨rfl, hb1⟩; rw [ha]; have ha1 := hb1; obtain ⟨kc1, kf1, kz1, ky1, kx1, kv1, ku1⟩ := bcell hb1)
    go_wp2
    go_ret2
    refine up_nil _ _ ?_
    (repeat (first | exact Below.refl _ _ | assumption | refine balloc ?_ _ | refine bdrew ?_ | refine bset ?_ ?_ _ | exact Nat.le_refl _ | refine bsize ?_ | (dsimp only; refine Nat.le_trans ?_ (Nat.le_add_right _ _)) | refine Nat.le_trans ?_ (Nat.le_add_right _ _) | (refine bstep ?_ (by assumption))))


/-- An amount is 0 just where its Num is. -/
theorem am_zero (x y : Int) (h : amB x y = true) (h0 : x = 0) : y = 1 := by
  have a := (amB_iff x y).1 h
  subst h0
  have := a.2.2.2.2
  unfold gi at this
  rw [Int.gcd_zero_left] at this
  omega
theorem am_unit (k : Int) (h1 : 1 ≤ k) (h2 : k ≤ 1000000000) : amB 1 k = true := by
  rw [amB_iff]
  refine ⟨by omega, by omega, h1, h2, ?_⟩
  unfold gi; rw [Int.gcd_one_left]; rfl
/-- LessAmount by a unit fraction. -/
theorem less1_impl (x y k : Int) (ha : amB x y = true) (h1 : 1 ≤ k) (h2 : k ≤ 1000000000) (w : World) :
    Calls Try.prog 27 #[.agg #[.int .i64 x, .int .i64 y], .agg #[.int .i64 1, .int .i64 k]] w fun e w' => e = .returned (.tuple #[.agg #[.int .i64 (lowN (x * k - y) (y * k)), .int .i64 (lowD (x * k - y) (y * k))], .bool (lowB (x * k - y) (y * k))]) ∧ Below w.heap.size w w' := by
  have a := am_of _ _ ha
  have h := minus_pub_impl x y 1 k (by have := a.a; have := a.b; omega) (by have := a.c; have := a.d; omega) (by omega) (by omega) w
  have hk : okk x y 1 k = true := by simp [okk, ha, am_unit k h1 h2]
  obtain ⟨e1, e2, e3⟩ := two_yes (x * k - 1 * y) (y * k)
  rw [hk, e1, e2, e3] at h
  simpa only [Int.one_mul] using h

/-- Block g holds an amount. -/
def IsAmtBlock (w : World) (g : Nat) : Prop := ∃ cs fr, w.heap[g]? = some (.cells cs 25 fr)
theorem amt_new (w : World) (cs : Array Value) : IsAmtBlock (w.alloc (.cells cs 25)) w.heap.size := ⟨cs, (0, 0), by show (w.heap.push _)[w.heap.size]? = _; simp⟩
theorem amt_block {w w' : World} {g : Nat} (h : IsAmtBlock w g) (hb : w'.heap[g]? = w.heap[g]?) : IsAmtBlock w' g := by
  obtain ⟨cs, fr, h⟩ := h; exact ⟨cs, fr, hb.trans h⟩
theorem amt_below {w w' : World} {g : Nat} (h : IsAmtBlock w g) (hlt : g < w.heap.size) (hb : Below w.heap.size w w') : IsAmtBlock w' g := amt_block h (hb.block g hlt)
/-- A row of numbers lies in another block than an amount. -/
theorem own_ne {w : World} {base size n g : Nat} {v : Value} {xs : List Value} (h : w.ownsRow base 3 size v n xs) (ht : IsAmtBlock w g) : v.ownBlock ≠ some g := by
  obtain ⟨cs, fr, ht⟩ := ht
  obtain ⟨_, h⟩ := h
  rcases h with ⟨rfl, _⟩ | ⟨g', cap, cur, rfl, _, hh, _⟩
  · intro e; cases e
  · intro e
    simp only [Value.ownBlock, Option.some.injEq] at e
    subst e
    rw [hh] at ht
    simp at ht
theorem own_lt {w : World} {base e size n o : Nat} {v : Value} {xs : List Value} (h : w.ownsRow base e size v n xs) (hg : v.ownBlock = some o) : o < w.heap.size := by
  obtain ⟨_, h⟩ := h
  rcases h with ⟨rfl, _⟩ | ⟨g', cap, cur, rfl, _, hh, _⟩
  · cases hg
  · simp only [Value.ownBlock, Option.some.injEq] at hg
    subst hg
    exact (Array.getElem?_eq_some_iff.1 hh).1

set_option maxHeartbeats 3200000 in
theorem up_impl_yes (n d : Int) (ha : amB n d = true) (hlt : n < d) (w : World) :
    Calls Try.prog 50 #[.agg #[.int .i64 n, .int .i64 d]] w (UpPost (upF 6 n d) w) := by
  obtain ⟨i0, hi, hz0, hz1, hz2⟩ := info_parts infoInt
  have HA := Lib.hid ha
  have hna := am_of n d ha
  have bn : n ≤ 9223372036854775807 := by have := hna.b; omega
  have bd : d ≤ 9223372036854775807 := by have := hna.d; omega
  clear hna
  go_enter Try.func50, Try.ntmps50
  (go_wp2_with fail; refine (isam_impl _ _ bn bd _).mono ?_; rintro e w1 ⟨rfl, hb1⟩; rw [ha]; have ha1 := hb1; obtain ⟨kc1, kf1, kz1, ky1, kx1, kv1, ku1⟩ := bcell hb1)
  clear ha
  go_wp2
  go_loopw [4, 5] (fun v s5 wr => ∃ (l : List Int) (x y : Int) (a : Option Addr) (cap g : Nat), v = .slice a l.length cap ∧ s5 = .pointer (some ⟨g, 0, none⟩) ∧ w.heap.size ≤ g ∧ l.length ≤ 6 ∧ Hid (amB x y = true) ∧ Hid (upF 6 n d = (upF (6 - l.length) x y).map (l ++ ·)) ∧ wr.cell? ⟨g, 0, none⟩ = some (.int .i64 x) ∧ wr.cell? ⟨g, 1, none⟩ = some (.int .i64 y) ∧
      wr.frozen? ⟨g, 0, none⟩ = false ∧ wr.frozen? ⟨g, 1, none⟩ = false ∧ wr.ownsRow w.heap.size 3 1 v l.length (l.map (Value.int .i64)) ∧ IsAmtBlock wr g ∧ g < wr.heap.size ∧ Below w.heap.size w wr) (fun v _ _ => 7 - lenOf v)
  case atStart =>
    refine ⟨[], n, d, none, 0, w1.heap.size, rfl, rfl, ?_, by simp, HA.out, by simp [Hid], by simp [go_sem], by simp [go_sem], by simp [go_sem], by simp [go_sem], ⟨rfl, Or.inl ⟨rfl, rfl⟩⟩, amt_new _ _, by simp, ?_⟩
    all_goals (repeat (first | exact Below.refl _ _ | assumption | refine balloc ?_ _ | refine bdrew ?_ | refine bset ?_ ?_ _ | exact Nat.le_refl _ | refine bsize ?_ | (dsimp only; refine Nat.le_trans ?_ (Nat.le_add_right _ _)) | refine Nat.le_trans ?_ (Nat.le_add_right _ _) | (refine bstep ?_ (by assumption))))
  case round =>
    clear kc1 kf1 kz1 ky1 kx1 kv1 ku1 hb1 ha1
    obtain ⟨l, x, y, a, cap, g, rfl, rfl, hgw, hl6, hxy, hup, c1, c2, f1, f2, hown, hT, hs, hbel⟩ := hrel
    have hxa := am_of x y hxy.out
    by_cases hx0 : x = 0
    · subst hx0
      obtain rfl := am_zero 0 y hxy.out rfl
      have hfin : Hid (upF 6 n d = some l) := by
        have := hup.out
        rw [upF_zero] at this
        simpa [Hid] using this
      clear hup
      go_wp2_with fail
      go_region_held3 (fun w' => w'.cell? ⟨g, 0, none⟩ = some (.int .i64 0) ∧ w'.cell? ⟨g, 1, none⟩ = some (.int .i64 1)) (((repeat' apply And.intro) <;> first | assumption | (simp [go_sem, c1, c2, hs]; done) | go_keep)) (first | (go_at_call 73; refine (whole_is_impl _ _).mono ?_; rintro e w1 ⟨rfl, rfl⟩))
      all_goals go_wp2
      all_goals go_ret2
      all_goals rw [hfin.out]
      all_goals exact ⟨_, rfl, ownsRow_below hown (by (repeat (first | exact Below.refl _ _ | assumption | refine balloc ?_ _ | refine bdrew ?_ | refine bset ?_ ?_ _ | exact Nat.le_refl _ | refine bsize ?_ | (dsimp only; refine Nat.le_trans ?_ (Nat.le_add_right _ _)) | refine Nat.le_trans ?_ (Nat.le_add_right _ _) | (refine bstep ?_ (by assumption))))), by (repeat (first | exact Below.refl _ _ | assumption | refine balloc ?_ _ | refine bdrew ?_ | refine bset ?_ ?_ _ | exact Nat.le_refl _ | refine bsize ?_ | (dsimp only; refine Nat.le_trans ?_ (Nat.le_add_right _ _)) | refine Nat.le_trans ?_ (Nat.le_add_right _ _) | (refine bstep ?_ (by assumption))))⟩
    · have hxp : 0 < x := by have := hxa.a; omega
      obtain ⟨e1, e2, e3⟩ := den_bd x y hxp hxa.b hxa.c hxa.d
      have hless := fun W => less1_impl x y (denU x y) hxy.out e1 e2 W
      obtain ⟨b1, b2, b3, b4⟩ := hxa
      have hup2 := hup.out
      have hstep : Hid (∀ j, 6 - l.length = j + 1 → upF 6 n d = (if lowB (x * denU x y - y) (y * denU x y) = true then (upF j (lowN (x * denU x y - y) (y * denU x y)) (lowD (x * denU x y - y) (y * denU x y))).map (denU x y :: ·) else none).map (l ++ ·)) := by
        intro j hj
        rw [hj, upF_step j x y hx0] at hup2
        exact hup2
      have hsix : Hid (l.length = 6 → upF 6 n d = none) := by
        intro h6
        rw [h6, upF_none x y hx0] at hup2
        simpa using hup2
      clear hup2 hup
      have hdd0 : (y + x - 1) / x = denU x y := rfl
      generalize denU x y = dd at *
      have HL := Lib.hid hless
      clear hless
      go_upto_region 5 with fail
      go_cut [22] (fun s22 wx => s22 = .bool true ∧ wx.cell? ⟨g, 0, none⟩ = some (.int .i64 x) ∧ wx.cell? ⟨g, 1, none⟩ = some (.int .i64 y) ∧ wx.frozen? ⟨g, 0, none⟩ = false ∧ wx.frozen? ⟨g, 1, none⟩ = false ∧ wx.ownsRow w.heap.size 3 1 (.slice a l.length cap) l.length (l.map (Value.int .i64)) ∧ IsAmtBlock wx g ∧ g < wx.heap.size ∧ Below w.heap.size w wx)
      case first =>
        go_region_held3 (fun w' => w'.cell? ⟨g, 0, none⟩ = some (.int .i64 x) ∧ w'.cell? ⟨g, 1, none⟩ = some (.int .i64 y)) (((repeat' apply And.intro) <;> first | assumption | (simp [go_sem, c1, c2, hs]; done) | go_keep)) (first | (go_at_call 73; refine (whole_is_impl _ _).mono ?_; rintro e w1 ⟨rfl, rfl⟩))
        all_goals (go_wp2_with fail; go_meet)
        all_goals refine ⟨by simp [hx0], by simp [go_sem, c1, hs], by simp [go_sem, c2, hs], by simp [go_sem, f1, hs], by simp [go_sem, f2, hs], ownsRow_below hown (by (repeat (first | exact Below.refl _ _ | assumption | refine balloc ?_ _ | refine bdrew ?_ | refine bset ?_ ?_ _ | exact Nat.le_refl _ | refine bsize ?_ | (dsimp only; refine Nat.le_trans ?_ (Nat.le_add_right _ _)) | refine Nat.le_trans ?_ (Nat.le_add_right _ _) | (refine bstep ?_ (by assumption))))), amt_below hT hs (by (repeat (first | exact Below.refl _ _ | assumption | refine balloc ?_ _ | refine bdrew ?_ | refine bset ?_ ?_ _ | exact Nat.le_refl _ | refine bsize ?_ | (dsimp only; refine Nat.le_trans ?_ (Nat.le_add_right _ _)) | refine Nat.le_trans ?_ (Nat.le_add_right _ _) | (refine bstep ?_ (by assumption))))), by simp; omega, ?_⟩
        all_goals (repeat (first | exact Below.refl _ _ | assumption | refine balloc ?_ _ | refine bdrew ?_ | refine bset ?_ ?_ _ | exact Nat.le_refl _ | refine bsize ?_ | (dsimp only; refine Nat.le_trans ?_ (Nat.le_add_right _ _)) | refine Nat.le_trans ?_ (Nat.le_add_right _ _) | (refine bstep ?_ (by assumption))))
      case rest =>
        clear c1 c2 f1 f2 hown hs hbel hT
        obtain ⟨rfl, c1, c2, f1, f2, hown, hT, hs, hbel⟩ := hcut
        cases hB : lowB (x * dd - y) (y * dd)
        · have hfin : Hid (upF 6 n d = none) := by
            by_cases h6 : l.length = 6
            · exact hsix.out h6
            · have := hstep.out (5 - l.length) (by omega)
              rw [hB] at this
              have h2 : upF 6 n d = none := by simpa using this
              exact h2
          clear hsix hstep
          go_wp2_with fail
          refine (HL.out _).mono ?_
          rintro e w3 ⟨rfl, hb3⟩
          rw [hB]
          obtain ⟨kc3, kf3, kz3, ky3, kx3, kv3, ku3⟩ := bcell hb3
          go_wp2
          go_ret2
          rw [hfin.out]
          refine up_nil _ _ ?_
          (repeat (first | exact Below.refl _ _ | assumption | refine balloc ?_ _ | refine bdrew ?_ | refine bset ?_ ?_ _ | exact Nat.le_refl _ | refine bsize ?_ | (dsimp only; refine Nat.le_trans ?_ (Nat.le_add_right _ _)) | refine Nat.le_trans ?_ (Nat.le_add_right _ _) | (refine bstep ?_ (by assumption))))
        · by_cases h6 : l.length = 6
          · have hfin : Hid (upF 6 n d = none) := hsix.out h6
            have h6' : ((l.length : Int) == 6) = true := by simp [h6]
            clear hsix hstep h6
            go_wp2_with fail
            refine (HL.out _).mono ?_
            rintro e w3 ⟨rfl, hb3⟩
            rw [hB]
            obtain ⟨kc3, kf3, kz3, ky3, kx3, kv3, ku3⟩ := bcell hb3
            go_wp2
            go_ret2
            rw [hfin.out]
            refine up_nil _ _ ?_
            (repeat (first | exact Below.refl _ _ | assumption | refine balloc ?_ _ | refine bdrew ?_ | refine bset ?_ ?_ _ | exact Nat.le_refl _ | refine bsize ?_ | (dsimp only; refine Nat.le_trans ?_ (Nat.le_add_right _ _)) | refine Nat.le_trans ?_ (Nat.le_add_right _ _) | (refine bstep ?_ (by assumption))))
          · have hl5 : l.length ≤ 5 := by omega
            have h6' : ((l.length : Int) == 6) = false := by simp; omega
            have hnew := Lib.hid (amB_low _ _ hB)
            have hnext : Hid (upF 6 n d = (upF (6 - (l ++ [dd]).length) (lowN (x * dd - y) (y * dd)) (lowD (x * dd - y) (y * dd))).map ((l ++ [dd]) ++ ·)) := by
              have h0 := hstep.out (5 - l.length) (by omega)
              rw [hB] at h0
              have hj : 6 - (l ++ [dd]).length = 5 - l.length := by first | (simp; done) | (simp; omega)
              rw [hj]
              show upF 6 n d = _
              rw [h0]
              simp [Option.map_map, Function.comp_def]
            clear hsix hstep h6
            go_wp2_with fail
            refine (HL.out _).mono ?_
            rintro e w3 ⟨rfl, hb3⟩
            rw [hB]
            obtain ⟨kc3, kf3, kz3, ky3, kx3, kv3, ku3⟩ := bcell hb3
            have q0 := (kc3 g 0 hs).trans c1
            have q1 := (kc3 g 1 hs).trans c2
            have q2 := (kf3 g 0 hs).trans f1
            have q3 := (kf3 g 1 hs).trans f2
            have z2 := kz3 g hs
            have hown3 := ownsRow_below hown hb3
            have hT3 := amt_below hT hs hb3
            have hne := own_ne hown3 hT3
            have hbel3 : Below w.heap.size w w3 := by (repeat (first | exact Below.refl _ _ | assumption | refine balloc ?_ _ | refine bdrew ?_ | refine bset ?_ ?_ _ | exact Nat.le_refl _ | refine bsize ?_ | (dsimp only; refine Nat.le_trans ?_ (Nat.le_add_right _ _)) | refine Nat.le_trans ?_ (Nat.le_add_right _ _) | (refine bstep ?_ (by assumption))))
            clear kc3 kf3 kz3 ky3 kx3 kv3 ku3 c1 c2 f1 f2 hs hown hbel hb3
            go_wp2_with (at_builtin; refine wpList_append_own _ rfl _ _ 46 rfl w.heap.size 3 i0 (.int .i64 0) 1 8 Try.underlying46 hi hz0 hz1 hz2 rfl (by decide) _ _ _ rfl ((hown3.alloc _).alloc _) ⟨w3.heap.size + 1, 0, none⟩ 1 1 [.int .i64 dd] rfl rfl ?q1 ?q2 ?q3 ?q4 ?q5 ?_)
            case q1 =>
              intro j u hj
              have h := cell_one_new (w3.alloc (.cells #[.int .i64 (lowN (x * dd - y) (y * dd)), .int .i64 (lowD (x * dd - y) (y * dd))] 25)) (.int .i64 dd) 3 j u hj
              simpa using h
            case q2 => simp [Value.oneCell']
            case q3 => unfold maxLen; omega
            case q4 => omega
            case q5 => have := hbel3.size; first | (simp; omega) | omega
            intro v' w4 hown' hgrow _
            have hrow : ∀ o, (Value.slice a l.length cap).ownBlock = some o → o < w3.heap.size := fun o e => own_lt hown3 e
            have r0 : w4.cell? ⟨g, 0, none⟩ = some (.int .i64 x) := by
              rw [World.cell?_of_block (a := ⟨g, 0, none⟩) (hgrow.block _ (by simp; omega) (fun e => hne e.symm))]; simp [go_sem, q0, z2]
            have r1 : w4.cell? ⟨g, 1, none⟩ = some (.int .i64 y) := by
              rw [World.cell?_of_block (a := ⟨g, 1, none⟩) (hgrow.block _ (by simp; omega) (fun e => hne e.symm))]; simp [go_sem, q1, z2]
            have r4 : w4.cell? ⟨w3.heap.size, 0, none⟩ = some (.int .i64 (lowN (x * dd - y) (y * dd))) := by
              rw [World.cell?_of_block (a := ⟨w3.heap.size, 0, none⟩) (hgrow.block _ (by simp) (fun e => by have := hrow _ e.symm; simp at this))]; simp [go_sem]
            have r5 : w4.cell? ⟨w3.heap.size, 1, none⟩ = some (.int .i64 (lowD (x * dd - y) (y * dd))) := by
              rw [World.cell?_of_block (a := ⟨w3.heap.size, 1, none⟩) (hgrow.block _ (by simp) (fun e => by have := hrow _ e.symm; simp at this))]; simp [go_sem]
            have r2 : w4.frozen? ⟨g, 0, none⟩ = false := by
              rw [World.frozen?_of_block (hgrow.block g (by simp; omega) (fun e => hne e.symm))]; simp [go_sem, q2, z2]
            have r3 : w4.frozen? ⟨g, 1, none⟩ = false := by
              rw [World.frozen?_of_block (hgrow.block g (by simp; omega) (fun e => hne e.symm))]; simp [go_sem, q3, z2]
            have hT4 : IsAmtBlock w4 g := amt_block (amt_below hT3 z2 (w' := (w3.alloc (.cells #[.int .i64 (lowN (x * dd - y) (y * dd)), .int .i64 (lowD (x * dd - y) (y * dd))] 25)).alloc (.cells #[.int .i64 dd] 3)) (by (repeat (first | exact Below.refl _ _ | assumption | refine balloc ?_ _ | refine bdrew ?_ | refine bset ?_ ?_ _ | exact Nat.le_refl _ | refine bsize ?_ | (dsimp only; refine Nat.le_trans ?_ (Nat.le_add_right _ _)) | refine Nat.le_trans ?_ (Nat.le_add_right _ _) | (refine bstep ?_ (by assumption)))))) (hgrow.block g (by simp; omega) (fun e => hne e.symm))
            have hs4 : g < w4.heap.size := by have := hgrow.size; simp at this; omega
            have hown2 : w4.ownsRow w.heap.size 3 1 v' (l ++ [dd]).length ((l ++ [dd]).map (Value.int .i64)) := by simpa using hown'
            have hb4 : Below w.heap.size w w4 := by
              refine ((hbel3.alloc hbel3.size _).alloc ?_ _).grown hgrow ?_ (fun o e => own_block hown3 e)
              all_goals (have := hbel3.size; simp; omega)
            obtain ⟨a', cap', hv'⟩ := owns_shape hown2
            have hlen1 : (l ++ [dd]).length ≤ 6 := by simp; omega
            have hne2 := own_ne hown2 hT4
            clear hown' hgrow hrow q0 q1 q2 q3 z2 hown3 hbel3 hne hT3 hT hT4
            rw [hv']
            rw [hv'] at hown2 hne2
            clear hv'
            go_wp2
            go_roundw
            case rel =>
              refine ⟨l ++ [dd], _, _, a', cap', w4.heap.size, rfl, rfl, ?_, hlen1, hnew, hnext, by simp [go_sem], by simp [go_sem], by simp [go_sem], by simp [go_sem], ?_, ?_, by simp, ?_⟩
              · exact hb4.size
              · exact ((ownsRow_setCell_other (a := ⟨g, 1, none⟩) (ownsRow_setCell_other (a := ⟨g, 0, none⟩) hown2 hne2 _) hne2 _).alloc _)
              · have e : ((w4.setCell ⟨g, 0, none⟩ (.int .i64 (lowN (x * dd - y) (y * dd)))).setCell ⟨g, 1, none⟩ (.int .i64 (lowD (x * dd - y) (y * dd)))).heap.size = w4.heap.size := by simp
                have := amt_new ((w4.setCell ⟨g, 0, none⟩ (.int .i64 (lowN (x * dd - y) (y * dd)))).setCell ⟨g, 1, none⟩ (.int .i64 (lowD (x * dd - y) (y * dd)))) #[.int .i64 (lowN (x * dd - y) (y * dd)), .int .i64 (lowD (x * dd - y) (y * dd))]
                rwa [e] at this
              · (repeat (first | exact Below.refl _ _ | assumption | refine balloc ?_ _ | refine bdrew ?_ | refine bset ?_ ?_ _ | exact Nat.le_refl _ | refine bsize ?_ | (dsimp only; refine Nat.le_trans ?_ (Nat.le_add_right _ _)) | refine Nat.le_trans ?_ (Nat.le_add_right _ _) | (refine bstep ?_ (by assumption))))
            case measure => simp [lenOf]; omega
end Go.Proofs.Ytlfbnogkbdgnaaa
