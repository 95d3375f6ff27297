/- Relays: all meetings, of the program. -/
import Derived.Test.YtgpbkjakmbmccaaRelI
import Derived.Test.YtgpbkjakmbmccaaOHandover
import Derived.Test.YtgpbkjakmbmccaaLHandover
import Derived.Test.YtgpbkjakmbmccaaMeetEq
import Derived.Test.YtgpbkjakmbmccaaApp
import Derived.ScopeJumps
import Derived.WalkMore
namespace Go.Proofs.Ytgpbkjakmbmccaa
open Go.ChangeShapes Go.WideShapes Go.ChangeAt Go.RowKit Go.Joins
set_option maxRecDepth 100000
set_option linter.unusedVariables false
set_option linter.unusedSimpArgs false


/-- The first m of what F tells. -/
def hL (F : Nat → HandV) (m : Nat) : List HandV := (List.range m).map F
theorem hL_len (F : Nat → HandV) (m : Nat) : (hL F m).length = m := by simp [hL]
theorem hL_succ (F : Nat → HandV) (m : Nat) : hL F (m + 1) = hL F m ++ [F m] := by simp [hL, List.range_succ]
/-- Meetings that follow one another by one step. -/
structure Meets (m : Nat) (mp mq mr : Nat → Int) (dp dq dr : Int) : Prop where
  m20 : m ≤ 20
  bd : ∀ k, k ≤ m → (-1000 ≤ mp k ∧ mp k ≤ 1000) ∧ (-1000 ≤ mq k ∧ mq k ≤ 1000) ∧ -1000 ≤ mr k ∧ mr k ≤ 1000
  bs : (-1000 ≤ dp ∧ dp ≤ 1000) ∧ (-1000 ≤ dq ∧ dq ≤ 1000) ∧ -1000 ≤ dr ∧ dr ≤ 1000
  step : ∀ k, k < m → mp (k + 1) = mp k + dp ∧ mq (k + 1) = mq k + dq ∧ mr (k + 1) = mr k + dr
  ne : ∀ k, k < m → mp k ≠ mp m
/-- Where the walk stands behind k meetings. -/
structure Way (w W : World) (m k : Nat) (v : Value) (F : Nat → HandV) (mp mq mr : Nat → Int) (dp dq dr : Int) : Prop where
  s0 : W.cell? ⟨w.heap.size + 1, 0, none⟩ = some (.int .i64 dp)
  s1 : W.cell? ⟨w.heap.size + 1, 1, none⟩ = some (.int .i64 dq)
  s2 : W.cell? ⟨w.heap.size + 1, 2, none⟩ = some (.int .i64 dr)
  l0 : W.cell? ⟨w.heap.size + 1 + 1, 0, none⟩ = some (.int .i64 (mp m))
  l1 : W.cell? ⟨w.heap.size + 1 + 1, 1, none⟩ = some (.int .i64 (mq m))
  l2 : W.cell? ⟨w.heap.size + 1 + 1, 2, none⟩ = some (.int .i64 (mr m))
  h0 : W.cell? ⟨w.heap.size + 1 + 1 + 1, 0, none⟩ = some (.int .i64 (mp k))
  h1 : W.cell? ⟨w.heap.size + 1 + 1 + 1, 1, none⟩ = some (.int .i64 (mq k))
  h2 : W.cell? ⟨w.heap.size + 1 + 1 + 1, 2, none⟩ = some (.int .i64 (mr k))
  z0 : W.frozen? ⟨w.heap.size + 1 + 1 + 1, 0, none⟩ = false
  z1 : W.frozen? ⟨w.heap.size + 1 + 1 + 1, 1, none⟩ = false
  z2 : W.frozen? ⟨w.heap.size + 1 + 1 + 1, 2, none⟩ = false
  own : W.ownsRow (w.heap.size + 1 + 1 + 1 + 1) 58 6 v k (cellsG fHand (hL F k))
  sz : w.heap.size + 1 + 1 + 1 < W.heap.size
  bel : Below w.heap.size w W

set_option maxHeartbeats 6400000 in
theorem relay_parts (g m : Nat) (mp mq mr : Nat → Int) (dp dq dr : Int) (F : Nat → HandV) (hM : Meets m mp mq mr dp dq dr) (w : World) (hT : ∀ i, i < m → ∀ W, Below w.heap.size w W → Calls Try.prog 106 #[.agg #[.int .i64 (mp (i + 1)), .int .i64 (mq (i + 1)), .int .i64 (mr (i + 1))], .pointer (some ⟨g, 0, none⟩)] W fun e w' => e = .returned (.agg #[.int .i64 (F i).a, .int .i64 (F i).b, .int .i64 (F i).c, .int .i64 (F i).d, .int .i64 (F i).e, .int .i64 (F i).f]) ∧ Below W.heap.size W w') :
    Calls Try.prog 75 #[.agg #[.int .i64 (mp 0), .int .i64 (mq 0), .int .i64 (mr 0)], .agg #[.int .i64 dp, .int .i64 dq, .int .i64 dr], .agg #[.int .i64 (mp m), .int .i64 (mq m), .int .i64 (mr m)], .func (.func 106) #[] #[.pointer (some ⟨g, 0, none⟩)]] w fun e w' => ∃ v, e = .returned v ∧ w'.ownsRow w.heap.size 58 6 v m (cellsG fHand (hL F m)) ∧ Below w.heap.size w w' := by
  obtain ⟨i0, hi, hz0, hz1, hz2⟩ := info_parts infoHandover
  go_enter Try.func75, Try.ntmps75
  go_wp2
  refine wp_scope_jumps 0 (fun a' w' => ∃ (k : Nat) (v u11 u12 u13 u14 u15 u16 u17 u18 u19 u20 u21 u22 u23 u24 : Value), a' = { tmps := #[.agg #[.int .i64 (mp 0), .int .i64 (mq 0), .int .i64 (mr 0)], .agg #[.int .i64 dp, .int .i64 dq, .int .i64 dr], .agg #[.int .i64 (mp m), .int .i64 (mq m), .int .i64 (mr m)], .func (.func 106) #[] #[.pointer (some ⟨g, 0, none⟩)], .pointer (some ⟨w.heap.size, 0, none⟩), .pointer (some ⟨w.heap.size + 1, 0, none⟩), .pointer (some ⟨w.heap.size + 1 + 1, 0, none⟩), undef, .slice none 0 0, v, .pointer (some ⟨w.heap.size + 1 + 1 + 1, 0, none⟩), u11, u12, u13, u14, u15, u16, u17, u18, u19, u20, u21, u22, u23, u24], defers := [] } ∧ k ≤ m ∧ Way w w' m k v F mp mq mr dp dq dr) (fun a' _ => m - lenV (a'.tmps.getD 9 undef)) rfl ?_ ?_
  · have hm20 := hM.m20
    by_cases hlt : 0 < m
    · have hne : (mp 0 == mp m) = false := by simpa using hM.ne 0 hlt
      obtain ⟨e0, e1, e2⟩ := hM.step 0 hlt
      have hbk := hM.bd 0 (by omega)
      have hP := fun W : World => mplus_impl (mp 0) (mq 0) (mr 0) dp dq dr hbk.1 hbk.2.1 hbk.2.2 hM.bs.1 hM.bs.2.1 hM.bs.2.2 W
      rw [← e0, ← e1, ← e2] at hP
      have hT1 := fun (W : World) (hB : Below w.heap.size w W) => hT 0 hlt W hB
      have HP := Lib.hid hP
      have HT1 := Lib.hid hT1
      have HTT := Lib.hid hT
      have HM := Lib.hid hM
      have i20 : 0 ≤ 20 := by have := hM.m20; omega
      clear hP hT1 hT hM e0 e1 e2 hbk
      go_wp2
      go_step3
      go_wp2_with fail
      obtain ⟨wr, hwr, s0, s1, s2, l0, l1, l2, h0, h1, h2, z0, z1, z2, own, sz, bel⟩ : ∃ wr, ((((w.alloc (.cells #[.int .i64 (mp 0), .int .i64 (mq 0), .int .i64 (mr 0)] 86)).alloc (.cells #[.int .i64 dp, .int .i64 dq, .int .i64 dr] 86)).alloc (.cells #[.int .i64 (mp m), .int .i64 (mq m), .int .i64 (mr m)] 86)).alloc (.cells #[.int .i64 (mp 0), .int .i64 (mq 0), .int .i64 (mr 0)] 86)) = wr ∧ Way w wr m 0 (.slice none 0 0) F mp mq mr dp dq dr := by
        refine ⟨_, rfl, ?_, ?_, ?_, ?_, ?_, ?_, ?_, ?_, ?_, ?_, ?_, ?_, ?_, ?_, ?_⟩
        all_goals first | exact ⟨rfl, Or.inl ⟨rfl, rfl⟩⟩ | ((repeat (first | with_reducible exact Below.refl _ _ | with_reducible assumption | with_reducible refine balloc ?_ _ | with_reducible refine bdrew ?_ | with_reducible refine below_drewN ?_ _ | with_reducible refine bset ?_ ?_ _ | with_reducible exact Nat.le_refl _ | with_reducible refine bsize ?_ | (dsimp only; refine Nat.le_trans ?_ (Nat.le_add_right _ _)) | with_reducible refine Nat.le_trans ?_ (Nat.le_add_right _ _) | (with_reducible refine bstep ?_ (by assumption)))); done) | (simp [go_sem]; done) | (simp; omega)
      rw [hwr]
      clear hwr
      obtain ⟨v, hv⟩ : ∃ v : Value, v = .slice none 0 0 := ⟨_, rfl⟩
      rw [← hv] at own ⊢
      have HV := Lib.hid hv
      clear hv
      have y0 : w.heap.size < wr.heap.size := by omega
      have y1 : w.heap.size + 1 < wr.heap.size := by omega
      have y2 : w.heap.size + 1 + 1 < wr.heap.size := by omega
      refine (HP.out _).mono ?_
      rintro e w1 ⟨rfl, hb1⟩
      have s01 := keepa hb1 y1 s0
      have s11 := keepa hb1 y1 s1
      have s21 := keepa hb1 y1 s2
      have l01 := keepa hb1 y2 l0
      have l11 := keepa hb1 y2 l1
      have l21 := keepa hb1 y2 l2
      have h01 := keepa hb1 sz h0
      have h11 := keepa hb1 sz h1
      have h21 := keepa hb1 sz h2
      have z01 := keepf hb1 sz z0
      have z11 := keepf hb1 sz z1
      have z21 := keepf hb1 sz z2
      have own1 := ownsRow_below own hb1
      have sz1 : w.heap.size + 1 + 1 + 1 < w1.heap.size := Nat.lt_of_lt_of_le sz hb1.size
      have y11 : w.heap.size + 1 < w1.heap.size := by omega
      have y21 : w.heap.size + 1 + 1 < w1.heap.size := by omega
      have bel1 := bstep bel hb1
      have ne1 : v.ownBlock ≠ some (w.heap.size + 1 + 1 + 1) := own_ne own1 (by omega)
      clear s0 s1 s2 l0 l1 l2 h0 h1 h2 z0 z1 z2 own bel sz y0 y1 y2 hb1
      go_wp2_with fail
      refine (HT1.out _ (by (repeat (first | with_reducible exact Below.refl _ _ | with_reducible assumption | with_reducible refine balloc ?_ _ | with_reducible refine bdrew ?_ | with_reducible refine below_drewN ?_ _ | with_reducible refine bset ?_ ?_ _ | with_reducible exact Nat.le_refl _ | with_reducible refine bsize ?_ | (dsimp only; refine Nat.le_trans ?_ (Nat.le_add_right _ _)) | with_reducible refine Nat.le_trans ?_ (Nat.le_add_right _ _) | (with_reducible refine bstep ?_ (by assumption)))))).mono ?_
      rintro e w2 ⟨rfl, hb2⟩
      have own2 := ownsRow_below (own_set (own_set (own_set own1 ne1 _) ne1 _) ne1 _) hb2
      have s02 : w2.cell? ⟨w.heap.size + 1, 0, none⟩ = some (.int .i64 (dp)) := keepa hb2 (by simpa using y11) (by simp [go_sem, s01])
      have s12 : w2.cell? ⟨w.heap.size + 1, 1, none⟩ = some (.int .i64 (dq)) := keepa hb2 (by simpa using y11) (by simp [go_sem, s11])
      have s22 : w2.cell? ⟨w.heap.size + 1, 2, none⟩ = some (.int .i64 (dr)) := keepa hb2 (by simpa using y11) (by simp [go_sem, s21])
      have l02 : w2.cell? ⟨w.heap.size + 1 + 1, 0, none⟩ = some (.int .i64 (mp m)) := keepa hb2 (by simpa using y21) (by simp [go_sem, l01])
      have l12 : w2.cell? ⟨w.heap.size + 1 + 1, 1, none⟩ = some (.int .i64 (mq m)) := keepa hb2 (by simpa using y21) (by simp [go_sem, l11])
      have l22 : w2.cell? ⟨w.heap.size + 1 + 1, 2, none⟩ = some (.int .i64 (mr m)) := keepa hb2 (by simpa using y21) (by simp [go_sem, l21])
      have h02 : w2.cell? ⟨w.heap.size + 1 + 1 + 1, 0, none⟩ = some (.int .i64 (mp (0 + 1))) := keepa hb2 (by simpa using sz1) (by simp [go_sem, h01, h11, h21, sz1])
      have z02 : w2.frozen? ⟨w.heap.size + 1 + 1 + 1, 0, none⟩ = false := keepf hb2 (by simpa using sz1) (by simp [go_sem, z01])
      have h12 : w2.cell? ⟨w.heap.size + 1 + 1 + 1, 1, none⟩ = some (.int .i64 (mq (0 + 1))) := keepa hb2 (by simpa using sz1) (by simp [go_sem, h01, h11, h21, sz1])
      have z12 : w2.frozen? ⟨w.heap.size + 1 + 1 + 1, 1, none⟩ = false := keepf hb2 (by simpa using sz1) (by simp [go_sem, z11])
      have h22 : w2.cell? ⟨w.heap.size + 1 + 1 + 1, 2, none⟩ = some (.int .i64 (mr (0 + 1))) := keepa hb2 (by simpa using sz1) (by simp [go_sem, h01, h11, h21, sz1])
      have z22 : w2.frozen? ⟨w.heap.size + 1 + 1 + 1, 2, none⟩ = false := keepf hb2 (by simpa using sz1) (by simp [go_sem, z21])
      have bel2 : Below w.heap.size w w2 := by (repeat (first | with_reducible exact Below.refl _ _ | with_reducible assumption | with_reducible refine balloc ?_ _ | with_reducible refine bdrew ?_ | with_reducible refine below_drewN ?_ _ | with_reducible refine bset ?_ ?_ _ | with_reducible exact Nat.le_refl _ | with_reducible refine bsize ?_ | (dsimp only; refine Nat.le_trans ?_ (Nat.le_add_right _ _)) | with_reducible refine Nat.le_trans ?_ (Nat.le_add_right _ _) | (with_reducible refine bstep ?_ (by assumption))))
      have sz2 : w.heap.size + 1 + 1 + 1 < w2.heap.size := Nat.lt_of_lt_of_le (by simpa using sz1) hb2.size
      clear s01 s11 s21 l01 l11 l21 h01 h11 h21 z01 z11 z21 own1 bel1 sz1 y11 y21 hb2 ne1
      go_wp2_with (at_builtin; refine wpList_append_own _ rfl _ _ 52 rfl (w.heap.size + 1 + 1 + 1 + 1) 58 i0 (.agg #[.int .i64 0, .int .i64 0, .int .i64 0, .int .i64 0, .int .i64 0, .int .i64 0]) 6 48 Try.underlying52 hi hz0 hz1 hz2 rfl (by decide) _ _ _ rfl (own2.alloc _) ⟨w2.heap.size, 0, none⟩ 1 1 [.int .i64 (F 0).a, .int .i64 (F 0).b, .int .i64 (F 0).c, .int .i64 (F 0).d, .int .i64 (F 0).e, .int .i64 (F 0).f] rfl rfl ?c1 ?c2 ?c3 ?c4 ?c5 ?_)
      case c1 => exact cell_six_new _ _ _ _ _ _ _ _
      case c2 => simp [Value.oneCell']
      case c3 => unfold maxLen; omega
      case c4 => omega
      case c5 => first | (simp; done) | (simp; omega)
      intro v' w3 hown' hgrow _
      have own3 : w3.ownsRow (w.heap.size + 1 + 1 + 1 + 1) 58 6 v' (0 + 1) (cellsG fHand (hL F (0 + 1))) := by
        rw [hL_succ, cellsG_snoc]; simpa [fHand] using hown'
      have hB3 : Below (w.heap.size + 1 + 1 + 1 + 1) w2 w3 := ((Below.refl _ _).alloc (by omega) _).grown hgrow (by simp; omega) (fun g e => own_block own2 e)
      have bel3 : Below w.heap.size w w3 := bel2.trans (hB3.mono (by omega))
      have sz3 : w.heap.size + 1 + 1 + 1 < w3.heap.size := Nat.lt_of_lt_of_le sz2 hB3.size
      have s03 := (hB3.cell (p := ⟨w.heap.size + 1, 0, none⟩) (by first | (simp; done) | (simp; omega))).trans s02
      have s13 := (hB3.cell (p := ⟨w.heap.size + 1, 1, none⟩) (by first | (simp; done) | (simp; omega))).trans s12
      have s23 := (hB3.cell (p := ⟨w.heap.size + 1, 2, none⟩) (by first | (simp; done) | (simp; omega))).trans s22
      have l03 := (hB3.cell (p := ⟨w.heap.size + 1 + 1, 0, none⟩) (by first | (simp; done) | (simp; omega))).trans l02
      have l13 := (hB3.cell (p := ⟨w.heap.size + 1 + 1, 1, none⟩) (by first | (simp; done) | (simp; omega))).trans l12
      have l23 := (hB3.cell (p := ⟨w.heap.size + 1 + 1, 2, none⟩) (by first | (simp; done) | (simp; omega))).trans l22
      have h03 := (hB3.cell (p := ⟨w.heap.size + 1 + 1 + 1, 0, none⟩) (by first | (simp; done) | (simp; omega))).trans h02
      have h13 := (hB3.cell (p := ⟨w.heap.size + 1 + 1 + 1, 1, none⟩) (by first | (simp; done) | (simp; omega))).trans h12
      have h23 := (hB3.cell (p := ⟨w.heap.size + 1 + 1 + 1, 2, none⟩) (by first | (simp; done) | (simp; omega))).trans h22
      have z03 := (hB3.frozen (p := ⟨w.heap.size + 1 + 1 + 1, 0, none⟩) (by first | (simp; done) | (simp; omega))).trans z02
      have z13 := (hB3.frozen (p := ⟨w.heap.size + 1 + 1 + 1, 1, none⟩) (by first | (simp; done) | (simp; omega))).trans z12
      have z23 := (hB3.frozen (p := ⟨w.heap.size + 1 + 1 + 1, 2, none⟩) (by first | (simp; done) | (simp; omega))).trans z22
      clear hown' hgrow own2 hB3 bel2 sz2 s02 s12 s22 l02 l12 l22 h02 h12 h22 z02 z12 z22
      go_wp2
      go_step3
      have hv := HV.out
      subst hv
      exact ⟨rfl, 0 + 1, v', _, _, _, _, _, _, _, _, _, _, _, _, _, _, rfl, by omega, ⟨s03, s13, s23, l03, l13, l23, h03, h13, h23, z03, z13, z23, own3, sz3, bel3⟩⟩
    · obtain rfl : m = 0 := by omega
      go_wp2
      go_step3
      go_wp2
      simp only [Exit.jump]
      go_ret
      refine ⟨_, rfl, ⟨rfl, Or.inl ⟨rfl, rfl⟩⟩, ?_⟩
      (repeat (first | with_reducible exact Below.refl _ _ | with_reducible assumption | with_reducible refine balloc ?_ _ | with_reducible refine bdrew ?_ | with_reducible refine below_drewN ?_ _ | with_reducible refine bset ?_ ?_ _ | with_reducible exact Nat.le_refl _ | with_reducible refine bsize ?_ | (dsimp only; refine Nat.le_trans ?_ (Nat.le_add_right _ _)) | with_reducible refine Nat.le_trans ?_ (Nat.le_add_right _ _) | (with_reducible refine bstep ?_ (by assumption))))
  · rintro a' wr ⟨k, v, u11, u12, u13, u14, u15, u16, u17, u18, u19, u20, u21, u22, u23, u24, rfl, hkm, s0, s1, s2, l0, l1, l2, h0, h1, h2, z0, z1, z2, own, sz, bel⟩
    have y0 : w.heap.size < wr.heap.size := by omega
    have y1 : w.heap.size + 1 < wr.heap.size := by omega
    have y2 : w.heap.size + 1 + 1 < wr.heap.size := by omega
    by_cases hlt : k < m
    · have hne : (mp k == mp m) = false := by simpa using hM.ne k hlt
      obtain ⟨e0, e1, e2⟩ := hM.step k hlt
      have hbk := hM.bd k (by omega)
      have hP := fun W : World => mplus_impl (mp k) (mq k) (mr k) dp dq dr hbk.1 hbk.2.1 hbk.2.2 hM.bs.1 hM.bs.2.1 hM.bs.2.2 W
      rw [← e0, ← e1, ← e2] at hP
      have hT1 := fun (W : World) (hB : Below w.heap.size w W) => hT k hlt W hB
      have HP := Lib.hid hP
      have HT1 := Lib.hid hT1
      have HTT := Lib.hid hT
      have HM := Lib.hid hM
      have i20 : k ≤ 20 := by have := hM.m20; omega
      clear hP hT1 hT hM e0 e1 e2 hbk
      go_wp2_with fail
      refine (HP.out _).mono ?_
      rintro e w1 ⟨rfl, hb1⟩
      have s01 := keepa hb1 y1 s0
      have s11 := keepa hb1 y1 s1
      have s21 := keepa hb1 y1 s2
      have l01 := keepa hb1 y2 l0
      have l11 := keepa hb1 y2 l1
      have l21 := keepa hb1 y2 l2
      have h01 := keepa hb1 sz h0
      have h11 := keepa hb1 sz h1
      have h21 := keepa hb1 sz h2
      have z01 := keepf hb1 sz z0
      have z11 := keepf hb1 sz z1
      have z21 := keepf hb1 sz z2
      have own1 := ownsRow_below own hb1
      have sz1 : w.heap.size + 1 + 1 + 1 < w1.heap.size := Nat.lt_of_lt_of_le sz hb1.size
      have y11 : w.heap.size + 1 < w1.heap.size := by omega
      have y21 : w.heap.size + 1 + 1 < w1.heap.size := by omega
      have bel1 := bstep bel hb1
      have ne1 : v.ownBlock ≠ some (w.heap.size + 1 + 1 + 1) := own_ne own1 (by omega)
      clear s0 s1 s2 l0 l1 l2 h0 h1 h2 z0 z1 z2 own bel sz y0 y1 y2 hb1
      go_wp2_with fail
      refine (HT1.out _ (by (repeat (first | with_reducible exact Below.refl _ _ | with_reducible assumption | with_reducible refine balloc ?_ _ | with_reducible refine bdrew ?_ | with_reducible refine below_drewN ?_ _ | with_reducible refine bset ?_ ?_ _ | with_reducible exact Nat.le_refl _ | with_reducible refine bsize ?_ | (dsimp only; refine Nat.le_trans ?_ (Nat.le_add_right _ _)) | with_reducible refine Nat.le_trans ?_ (Nat.le_add_right _ _) | (with_reducible refine bstep ?_ (by assumption)))))).mono ?_
      rintro e w2 ⟨rfl, hb2⟩
      have own2 := ownsRow_below (own_set (own_set (own_set own1 ne1 _) ne1 _) ne1 _) hb2
      have s02 : w2.cell? ⟨w.heap.size + 1, 0, none⟩ = some (.int .i64 (dp)) := keepa hb2 (by simpa using y11) (by simp [go_sem, s01])
      have s12 : w2.cell? ⟨w.heap.size + 1, 1, none⟩ = some (.int .i64 (dq)) := keepa hb2 (by simpa using y11) (by simp [go_sem, s11])
      have s22 : w2.cell? ⟨w.heap.size + 1, 2, none⟩ = some (.int .i64 (dr)) := keepa hb2 (by simpa using y11) (by simp [go_sem, s21])
      have l02 : w2.cell? ⟨w.heap.size + 1 + 1, 0, none⟩ = some (.int .i64 (mp m)) := keepa hb2 (by simpa using y21) (by simp [go_sem, l01])
      have l12 : w2.cell? ⟨w.heap.size + 1 + 1, 1, none⟩ = some (.int .i64 (mq m)) := keepa hb2 (by simpa using y21) (by simp [go_sem, l11])
      have l22 : w2.cell? ⟨w.heap.size + 1 + 1, 2, none⟩ = some (.int .i64 (mr m)) := keepa hb2 (by simpa using y21) (by simp [go_sem, l21])
      have h02 : w2.cell? ⟨w.heap.size + 1 + 1 + 1, 0, none⟩ = some (.int .i64 (mp (k + 1))) := keepa hb2 (by simpa using sz1) (by simp [go_sem, h01, h11, h21, sz1])
      have z02 : w2.frozen? ⟨w.heap.size + 1 + 1 + 1, 0, none⟩ = false := keepf hb2 (by simpa using sz1) (by simp [go_sem, z01])
      have h12 : w2.cell? ⟨w.heap.size + 1 + 1 + 1, 1, none⟩ = some (.int .i64 (mq (k + 1))) := keepa hb2 (by simpa using sz1) (by simp [go_sem, h01, h11, h21, sz1])
      have z12 : w2.frozen? ⟨w.heap.size + 1 + 1 + 1, 1, none⟩ = false := keepf hb2 (by simpa using sz1) (by simp [go_sem, z11])
      have h22 : w2.cell? ⟨w.heap.size + 1 + 1 + 1, 2, none⟩ = some (.int .i64 (mr (k + 1))) := keepa hb2 (by simpa using sz1) (by simp [go_sem, h01, h11, h21, sz1])
      have z22 : w2.frozen? ⟨w.heap.size + 1 + 1 + 1, 2, none⟩ = false := keepf hb2 (by simpa using sz1) (by simp [go_sem, z21])
      have bel2 : Below w.heap.size w w2 := by (repeat (first | with_reducible exact Below.refl _ _ | with_reducible assumption | with_reducible refine balloc ?_ _ | with_reducible refine bdrew ?_ | with_reducible refine below_drewN ?_ _ | with_reducible refine bset ?_ ?_ _ | with_reducible exact Nat.le_refl _ | with_reducible refine bsize ?_ | (dsimp only; refine Nat.le_trans ?_ (Nat.le_add_right _ _)) | with_reducible refine Nat.le_trans ?_ (Nat.le_add_right _ _) | (with_reducible refine bstep ?_ (by assumption))))
      have sz2 : w.heap.size + 1 + 1 + 1 < w2.heap.size := Nat.lt_of_lt_of_le (by simpa using sz1) hb2.size
      clear s01 s11 s21 l01 l11 l21 h01 h11 h21 z01 z11 z21 own1 bel1 sz1 y11 y21 hb2 ne1
      go_wp2_with (at_builtin; refine wpList_append_own _ rfl _ _ 52 rfl (w.heap.size + 1 + 1 + 1 + 1) 58 i0 (.agg #[.int .i64 0, .int .i64 0, .int .i64 0, .int .i64 0, .int .i64 0, .int .i64 0]) 6 48 Try.underlying52 hi hz0 hz1 hz2 rfl (by decide) _ _ _ rfl (own2.alloc _) ⟨w2.heap.size, 0, none⟩ 1 1 [.int .i64 (F k).a, .int .i64 (F k).b, .int .i64 (F k).c, .int .i64 (F k).d, .int .i64 (F k).e, .int .i64 (F k).f] rfl rfl ?c1 ?c2 ?c3 ?c4 ?c5 ?_)
      case c1 => exact cell_six_new _ _ _ _ _ _ _ _
      case c2 => simp [Value.oneCell']
      case c3 => unfold maxLen; omega
      case c4 => omega
      case c5 => first | (simp; done) | (simp; omega)
      intro v' w3 hown' hgrow _
      have own3 : w3.ownsRow (w.heap.size + 1 + 1 + 1 + 1) 58 6 v' (k + 1) (cellsG fHand (hL F (k + 1))) := by
        rw [hL_succ, cellsG_snoc]; simpa [fHand] using hown'
      have hB3 : Below (w.heap.size + 1 + 1 + 1 + 1) w2 w3 := ((Below.refl _ _).alloc (by omega) _).grown hgrow (by simp; omega) (fun g e => own_block own2 e)
      have bel3 : Below w.heap.size w w3 := bel2.trans (hB3.mono (by omega))
      have sz3 : w.heap.size + 1 + 1 + 1 < w3.heap.size := Nat.lt_of_lt_of_le sz2 hB3.size
      have s03 := (hB3.cell (p := ⟨w.heap.size + 1, 0, none⟩) (by first | (simp; done) | (simp; omega))).trans s02
      have s13 := (hB3.cell (p := ⟨w.heap.size + 1, 1, none⟩) (by first | (simp; done) | (simp; omega))).trans s12
      have s23 := (hB3.cell (p := ⟨w.heap.size + 1, 2, none⟩) (by first | (simp; done) | (simp; omega))).trans s22
      have l03 := (hB3.cell (p := ⟨w.heap.size + 1 + 1, 0, none⟩) (by first | (simp; done) | (simp; omega))).trans l02
      have l13 := (hB3.cell (p := ⟨w.heap.size + 1 + 1, 1, none⟩) (by first | (simp; done) | (simp; omega))).trans l12
      have l23 := (hB3.cell (p := ⟨w.heap.size + 1 + 1, 2, none⟩) (by first | (simp; done) | (simp; omega))).trans l22
      have h03 := (hB3.cell (p := ⟨w.heap.size + 1 + 1 + 1, 0, none⟩) (by first | (simp; done) | (simp; omega))).trans h02
      have h13 := (hB3.cell (p := ⟨w.heap.size + 1 + 1 + 1, 1, none⟩) (by first | (simp; done) | (simp; omega))).trans h12
      have h23 := (hB3.cell (p := ⟨w.heap.size + 1 + 1 + 1, 2, none⟩) (by first | (simp; done) | (simp; omega))).trans h22
      have z03 := (hB3.frozen (p := ⟨w.heap.size + 1 + 1 + 1, 0, none⟩) (by first | (simp; done) | (simp; omega))).trans z02
      have z13 := (hB3.frozen (p := ⟨w.heap.size + 1 + 1 + 1, 1, none⟩) (by first | (simp; done) | (simp; omega))).trans z12
      have z23 := (hB3.frozen (p := ⟨w.heap.size + 1 + 1 + 1, 2, none⟩) (by first | (simp; done) | (simp; omega))).trans z22
      obtain ⟨av, cv, ev⟩ := owns_shape own2
      clear hown' hgrow own2 hB3 bel2 sz2 s02 s12 s22 l02 l12 l22 h02 h12 h22 z02 z12 z22
      go_wp2
      go_step3
      refine ⟨rfl, ⟨k + 1, v', _, _, _, _, _, _, _, _, _, _, _, _, _, _, rfl, by omega, ⟨s03, s13, s23, l03, l13, l23, h03, h13, h23, z03, z13, z23, own3, sz3, bel3⟩⟩, ?_⟩
      obtain ⟨bv, dv, ev'⟩ := owns_shape own3
      show m - lenV v' < m - lenV v
      rw [ev, ev']
      simp only [lenV]
      omega
    · obtain rfl : k = m := by omega
      go_wp2
      simp only [Exit.jump]
      go_ret
      exact ⟨_, rfl, own_mono own (by omega), bel⟩


end Go.Proofs.Ytgpbkjakmbmccaa
