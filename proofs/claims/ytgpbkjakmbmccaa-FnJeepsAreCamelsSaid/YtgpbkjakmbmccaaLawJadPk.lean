/- The law FnJeepsAreCamels: whatever bytes are drawn from: a camel that carries a load of 1 and eats 1 comes as far as a jeep, and leaves what the depots have. No condition. -/
import Derived.Test.YtgpbkjakmbmccaaPkK10a
import Derived.Test.YtgpbkjakmbmccaaLawBase
namespace Go.Proofs.Ytgpbkjakmbmccaa
open Go.ChangeShapes Go.WideShapes Go.ChangeAt Go.RowKit Go.Joins
set_option maxRecDepth 100000
set_option linter.unusedVariables false
set_option linter.unusedSimpArgs false

set_option maxHeartbeats 3200000 in
theorem jacd_walk (u : Value) (w0 : World) (hu0 : BytesAt w0 u) (v : Value) (w00 : World) (hv0 : BytesAt w00 v) (w : World) (ew : w0 = w := by rfl) (ew2 : w00 = w := by rfl) :
    Calls Try.prog 3 #[u, v] w fun e w' => e = .returned (.bool true) ∧ Below w.heap.size w w' := by
  subst ew
  subst ew2
  have HB := Lib.hid (big_c u v w00 hu0 hv0)
  have HP := Lib.hid (fun W h => drawPlan_c u W (bytesAt_below hu0 (show Below w00.heap.size w00 W from h)))
  go_enter Try.func3, Try.ntmps3
  go_wp2_with fail; refine HB.out.mono ?_; rintro e wb ⟨⟨bb, rfl⟩, hbb⟩
  cases bb
  · go_wp2_with fail; refine (HP.out _ hbb).mono ?_; rintro e wd ⟨⟨x, rfl⟩, hbd⟩
    replace hbd := bstep hbb hbd
    by_cases hx : x < 1 ∨ 6 < x
    · go_wp2
      all_goals first | (exfalso; omega) | (go_ret; exact ⟨rfl, by (repeat (first | with_reducible exact Below.refl _ _ | with_reducible assumption | with_reducible refine balloc ?_ _ | with_reducible refine bdrew ?_ | with_reducible refine below_drewN ?_ _ | with_reducible refine bset ?_ ?_ _ | with_reducible exact Nat.le_refl _ | with_reducible refine bsize ?_ | (dsimp only; refine Nat.le_trans ?_ (Nat.le_add_right _ _)) | with_reducible refine Nat.le_trans ?_ (Nat.le_add_right _ _) | (with_reducible refine bstep ?_ (by assumption))))⟩)
    · obtain ⟨t, rfl⟩ : ∃ t : Nat, x = t := ⟨x.toNat, by omega⟩
      have h1 : 1 ≤ t := by omega
      have h6 : t ≤ 6 := by omega
      clear hx hbb
      have HM := Lib.hid (jc_mk t h1 h6)
      have HF := Lib.hid (jc_far t h1 h6)
      have HO := Lib.hid (jc_out t h1 h6)
      have HS := Lib.hid (jc_stops t h1 h6)
      have HD := Lib.hid (jc_dep t h1 h6)
      have hl := jc_len t h1 h6
      generalize fwX 1 t 1 = fx at *
      generalize fwY 1 t 1 = fy at *
      go_wp2_with fail; refine (HM.out _).mono ?_; rintro e w1 ⟨rfl, hb1⟩
      replace hb1 := bstep hbd hb1
      go_wp2_with fail; refine (HF.out _).mono ?_; rintro e w2 ⟨rfl, hb2⟩
      have f2 : Below w1.heap.size w1 w2 := bstep (show Below w1.heap.size w1 _ by (repeat (first | with_reducible exact Below.refl _ _ | with_reducible assumption | with_reducible refine balloc ?_ _ | with_reducible refine bdrew ?_ | with_reducible refine below_drewN ?_ _ | with_reducible refine bset ?_ ?_ _ | with_reducible exact Nat.le_refl _ | with_reducible refine bsize ?_ | (dsimp only; refine Nat.le_trans ?_ (Nat.le_add_right _ _)) | with_reducible refine Nat.le_trans ?_ (Nat.le_add_right _ _) | (with_reducible refine bstep ?_ (by assumption))))) hb2
      have ha2 := bstep hb1 f2
      have g0 : w2.cell? ⟨w1.heap.size, 0, none⟩ = some (.int .i64 t) := (hb2.cell (p := ⟨w1.heap.size, 0, none⟩) (by first | (simp; done) | (simp; omega))).trans (by simp [go_sem])
      have g1 : w2.cell? ⟨w1.heap.size, 1, none⟩ = some (.int .i64 1) := (hb2.cell (p := ⟨w1.heap.size, 1, none⟩) (by first | (simp; done) | (simp; omega))).trans (by simp [go_sem])
      have c0 : w2.cell? ⟨w1.heap.size + 1, 0, none⟩ = some (.int .i64 1) := (hb2.cell (p := ⟨w1.heap.size + 1, 0, none⟩) (by simp)).trans (by simp [go_sem])
      have c1 : w2.cell? ⟨w1.heap.size + 1, 1, none⟩ = some (.int .i64 1) := (hb2.cell (p := ⟨w1.heap.size + 1, 1, none⟩) (by simp)).trans (by simp [go_sem])
      have gz : w1.heap.size < w2.heap.size := Nat.lt_of_lt_of_le (by first | (simp; done) | (simp; omega)) hb2.size
      have cz : w1.heap.size + 1 < w2.heap.size := Nat.lt_of_lt_of_le (by simp) hb2.size
      clear hb1 hb2 f2
      go_wp2_with fail; refine (HO.out _).mono ?_; rintro e w3 ⟨rfl, hb3⟩
      have f3 : Below w2.heap.size w2 w3 := bstep (show Below w2.heap.size w2 _ by (repeat (first | with_reducible exact Below.refl _ _ | with_reducible assumption | with_reducible refine balloc ?_ _ | with_reducible refine bdrew ?_ | with_reducible refine below_drewN ?_ _ | with_reducible refine bset ?_ ?_ _ | with_reducible exact Nat.le_refl _ | with_reducible refine bsize ?_ | (dsimp only; refine Nat.le_trans ?_ (Nat.le_add_right _ _)) | with_reducible refine Nat.le_trans ?_ (Nat.le_add_right _ _) | (with_reducible refine bstep ?_ (by assumption))))) hb3
      have ha3 := bstep ha2 f3
      have x0 : w3.cell? ⟨w2.heap.size, 0, none⟩ = some (.int .i64 fx) := (hb3.cell (p := ⟨w2.heap.size, 0, none⟩) (by simp)).trans (by simp [go_sem])
      have x1 : w3.cell? ⟨w2.heap.size, 1, none⟩ = some (.int .i64 fy) := (hb3.cell (p := ⟨w2.heap.size, 1, none⟩) (by simp)).trans (by simp [go_sem])
      have xz : w2.heap.size < w3.heap.size := Nat.lt_of_lt_of_le (by simp) hb3.size
      replace g0 := keepa f3 gz g0
      replace g1 := keepa f3 gz g1
      replace c0 := keepa f3 cz c0
      replace c1 := keepa f3 cz c1
      replace gz := Nat.lt_of_lt_of_le gz f3.size
      replace cz := Nat.lt_of_lt_of_le cz f3.size
      clear hb3 f3 ha2
      go_wp2_with fail; refine (HS.out _).mono ?_; rintro e w4 ⟨v4, rfl, own4, hb4⟩
      have f4 : Below w3.heap.size w3 w4 := bstep (show Below w3.heap.size w3 _ by (repeat (first | with_reducible exact Below.refl _ _ | with_reducible assumption | with_reducible refine balloc ?_ _ | with_reducible refine bdrew ?_ | with_reducible refine below_drewN ?_ _ | with_reducible refine bset ?_ ?_ _ | with_reducible exact Nat.le_refl _ | with_reducible refine bsize ?_ | (dsimp only; refine Nat.le_trans ?_ (Nat.le_add_right _ _)) | with_reducible refine Nat.le_trans ?_ (Nat.le_add_right _ _) | (with_reducible refine bstep ?_ (by assumption))))) hb4
      have ha4 := bstep ha3 f4
      have y0 : w4.cell? ⟨w3.heap.size, 0, none⟩ = some (.int .i64 fx) := (hb4.cell (p := ⟨w3.heap.size, 0, none⟩) (by simp)).trans (by simp [go_sem])
      have y1 : w4.cell? ⟨w3.heap.size, 1, none⟩ = some (.int .i64 fy) := (hb4.cell (p := ⟨w3.heap.size, 1, none⟩) (by simp)).trans (by simp [go_sem])
      have yz : w3.heap.size < w4.heap.size := Nat.lt_of_lt_of_le (by simp) hb4.size
      replace g0 := keepa f4 gz g0
      replace g1 := keepa f4 gz g1
      replace c0 := keepa f4 cz c0
      replace c1 := keepa f4 cz c1
      replace x0 := keepa f4 xz x0
      replace x1 := keepa f4 xz x1
      replace gz := Nat.lt_of_lt_of_le gz f4.size
      replace cz := Nat.lt_of_lt_of_le cz f4.size
      replace xz := Nat.lt_of_lt_of_le xz f4.size
      clear hb4 f4 ha3
      have own4' := own4
      rw [hl] at own4'
      obtain ⟨a4, k4, rfl⟩ := owns_shape own4'
      go_wp2_with fail; refine (HD.out _).mono ?_; rintro e w5 ⟨v5, rfl, own5, hb5⟩
      have ha5 := bstep ha4 hb5
      replace g0 := keepa hb5 gz g0
      replace g1 := keepa hb5 gz g1
      replace c0 := keepa hb5 cz c0
      replace c1 := keepa hb5 cz c1
      replace x0 := keepa hb5 xz x0
      replace x1 := keepa hb5 xz x1
      replace y0 := keepa hb5 yz y0
      replace y1 := keepa hb5 yz y1
      replace gz := Nat.lt_of_lt_of_le gz hb5.size
      replace cz := Nat.lt_of_lt_of_le cz hb5.size
      replace xz := Nat.lt_of_lt_of_le xz hb5.size
      replace yz := Nat.lt_of_lt_of_le yz hb5.size
      have own5' := own5
      rw [dpP_len] at own5'
      obtain ⟨a5, k5, rfl⟩ := owns_shape own5'
      replace own4 := ownsRow_below own4 hb5
      replace own4' := ownsRow_below own4' hb5
      clear hb5 ha4
      go_wp2
      go_loopw [92] (fun c wr => ∃ i : Nat, i ≤ t - 1 ∧ c = .int .i64 i ∧ Below w5.heap.size w5 wr) (fun c _ => t - 1 - (intOf c).toNat)
      case atStart => exact ⟨0, Nat.zero_le _, rfl, Below.refl _ _⟩
      case round =>
        obtain ⟨i, hit, rfl, hbel⟩ := hrel
        by_cases hlt : i < t - 1
        · obtain ⟨a, b, n, d, es, ed, hcon⟩ := jc_left t i h6 hlt
          have HL := Lib.hid hcon
          clear hcon
          obtain ⟨g4, rfl⟩ : ∃ g, a4 = some ⟨g, 0, none⟩ := by
            rcases own4'.2 with ⟨_, h0⟩ | ⟨g, cap, cur, hv, _⟩
            · omega
            · injection hv with h1 _ _; exact ⟨g, h1⟩
          obtain ⟨g5, rfl⟩ : ∃ g, a5 = some ⟨g, 0, none⟩ := by
            rcases own5'.2 with ⟨_, h0⟩ | ⟨g, cap, cur, hv, _⟩
            · omega
            · injection hv with h1 _ _; exact ⟨g, h1⟩
          have hL4 : LiesG 2 fAmt w5 ⟨g4, 0, none⟩ k4 (soL 1 1 t 1) := liesG_own (l := soL 1 1 t 1) fAmt_len (by rw [hl]; exact own4') (jc_bd t h6)
          have hL5 : LiesG 4 fDepot w5 ⟨g5, 0, none⟩ k5 (dpP 1 t (t - 1)) := liesG_own (l := dpP 1 t (t - 1)) fDepot_len (by rw [dpP_len]; exact own5') (dpP_bd t (by omega))
          have lc4 := hL4.hlc
          rw [hl] at lc4
          have kc4 := hL4.hcap
          have lc5 := hL5.hlc
          rw [dpP_len] at lc5
          have kc5 := hL5.hcap
          have s0 := hL4.hcell i _ es 0 _ rfl
          have s1 := hL4.hcell i _ es 1 _ rfl
          have d0 := hL5.hcell i _ ed 0 _ rfl
          have d1 := hL5.hcell i _ ed 1 _ rfl
          have d2 := hL5.hcell i _ ed 2 _ rfl
          have d3 := hL5.hcell i _ ed 3 _ rfl
          rw [Addr.add_lit, Nat.zero_add] at s0 s1 d0 d1 d2 d3
          rw [Nat.add_zero] at s0 d0
          have sz4 : g4 < w5.heap.size := cell_lt s0
          have sz5 : g5 < w5.heap.size := cell_lt d0
          replace g0 := keepa hbel gz g0
          replace g1 := keepa hbel gz g1
          replace c0 := keepa hbel cz c0
          replace c1 := keepa hbel cz c1
          replace x0 := keepa hbel xz x0
          replace x1 := keepa hbel xz x1
          replace y0 := keepa hbel yz y0
          replace y1 := keepa hbel yz y1
          replace s0 := keepa hbel sz4 s0
          replace s1 := keepa hbel sz4 s1
          replace d0 := keepa hbel sz5 d0
          replace d1 := keepa hbel sz5 d1
          replace d2 := keepa hbel sz5 d2
          replace d3 := keepa hbel sz5 d3
          have gz' := Nat.lt_of_lt_of_le gz hbel.size
          have cz' := Nat.lt_of_lt_of_le cz hbel.size
          have sz4' := Nat.lt_of_lt_of_le sz4 hbel.size
          have sz5' := Nat.lt_of_lt_of_le sz5 hbel.size
          have hi20 : i ≤ 20 := by omega
          clear hL4 hL5 es ed own4 own5
          go_wp2_with fail
          refine (HL.out _).mono ?_
          rintro e w6 ⟨rfl, hb6⟩
          have f6 : Below wr.heap.size wr w6 := bstep (show Below wr.heap.size wr _ by (repeat (first | with_reducible exact Below.refl _ _ | with_reducible assumption | with_reducible refine balloc ?_ _ | with_reducible refine bdrew ?_ | with_reducible refine below_drewN ?_ _ | with_reducible refine bset ?_ ?_ _ | with_reducible exact Nat.le_refl _ | with_reducible refine bsize ?_ | (dsimp only; refine Nat.le_trans ?_ (Nat.le_add_right _ _)) | with_reducible refine Nat.le_trans ?_ (Nat.le_add_right _ _) | (with_reducible refine bstep ?_ (by assumption))))) hb6
          have p0 : w6.cell? ⟨wr.heap.size, 0, none⟩ = some (.int .i64 a) := (hb6.cell (p := ⟨wr.heap.size, 0, none⟩) (by simp)).trans (by simp [go_sem])
          have p1 : w6.cell? ⟨wr.heap.size, 1, none⟩ = some (.int .i64 b) := (hb6.cell (p := ⟨wr.heap.size, 1, none⟩) (by simp)).trans (by simp [go_sem])
          have pz : wr.heap.size < w6.heap.size := Nat.lt_of_lt_of_le (by simp) hb6.size
          replace d0 := keepa f6 sz5' d0
          replace d1 := keepa f6 sz5' d1
          replace d2 := keepa f6 sz5' d2
          replace d3 := keepa f6 sz5' d3
          have sz5'' := Nat.lt_of_lt_of_le sz5' f6.size
          have bel6 := bstep hbel f6
          clear hb6 f6 g0 g1 c0 c1 s0 s1
          go_wp2
          all_goals (try go_region)
          all_goals (try go_wp2)
          go_roundw
          case rel => exact ⟨i + 1, by omega, by go_num, by (repeat (first | with_reducible exact Below.refl _ _ | with_reducible assumption | with_reducible refine balloc ?_ _ | with_reducible refine bdrew ?_ | with_reducible refine below_drewN ?_ _ | with_reducible refine bset ?_ ?_ _ | with_reducible exact Nat.le_refl _ | with_reducible refine bsize ?_ | (dsimp only; refine Nat.le_trans ?_ (Nat.le_add_right _ _)) | with_reducible refine Nat.le_trans ?_ (Nat.le_add_right _ _) | (with_reducible refine bstep ?_ (by assumption))))⟩
          case measure => simp [intOf]; omega
        · have hit' : i = t - 1 := by omega
          subst hit'
          have ha6 := bstep ha5 hbel
          go_wp2
          go_ret
          exact ⟨rfl, by (repeat (first | with_reducible exact Below.refl _ _ | with_reducible assumption | with_reducible refine balloc ?_ _ | with_reducible refine bdrew ?_ | with_reducible refine below_drewN ?_ _ | with_reducible refine bset ?_ ?_ _ | with_reducible exact Nat.le_refl _ | with_reducible refine bsize ?_ | (dsimp only; refine Nat.le_trans ?_ (Nat.le_add_right _ _)) | with_reducible refine Nat.le_trans ?_ (Nat.le_add_right _ _) | (with_reducible refine bstep ?_ (by assumption))))⟩
  · go_wp2
    go_ret
    exact ⟨rfl, by (repeat (first | with_reducible exact Below.refl _ _ | with_reducible assumption | with_reducible refine balloc ?_ _ | with_reducible refine bdrew ?_ | with_reducible refine below_drewN ?_ _ | with_reducible refine bset ?_ ?_ _ | with_reducible exact Nat.le_refl _ | with_reducible refine bsize ?_ | (dsimp only; refine Nat.le_trans ?_ (Nat.le_add_right _ _)) | with_reducible refine Nat.le_trans ?_ (Nat.le_add_right _ _) | (with_reducible refine bstep ?_ (by assumption))))⟩
namespace fnJeepsAreCamels
set_option maxRecDepth 100000 in
theorem lifted (os : Os) (started : os.Started) (H : Type) (enc : TypeId × Value → H) :
    ReturnsInHanded {} Try.checked os 3 .any (Rows.fnJeepsAreCamelsSpec.pre6 enc Try.prog Try.f3 Rows.fnJeepsAreCamelsRow.domain false) (Rows.fnJeepsAreCamelsSpec.post enc Try.prog Try.f3 false true false false) := by
  refine returnsInHanded_of_change (C := Try.checked) own started (by kernel_rfl) Try.func3
    (ChangeSpec.witness6 (enc := enc) (C := Try.checked) false ⟨#[], #[.slice none 0 0, .slice none 0 0], []⟩ 8 (by kernel_rfl) (by kernel_rfl) (by kernel_rfl) (by kernel_rfl)) ?_
  intro W base args ds gs before hval0 hW hcnd _
  have hval : ∀ (j : Nat) t v, Try.f3.params[j]? = some t → args[j]? = some v → Value.okWide Try.prog W .any base t v := hval0
  have hW' := hW
  obtain ⟨p, q, hA0, hV, rfl, hfz, hnd⟩ := hW
  have hA : DataW.TrodAll enc Try.prog W 0 (fun _ => true) true Try.f3.params.toList args.toList ds p := hA0
  rw [Try.params3] at hA hval
  obtain ⟨v0, vs0, d0, ds0, p0, q0, hargs, rfl, rfl, h0, r0⟩ := trodAll_cons hA
  obtain ⟨v1, vs1, d1, ds1, p1, q1, rfl, rfl, rfl, h1, r1⟩ := trodAll_cons r0
  obtain ⟨rfl, rfl, rfl⟩ := trodAll_nil r1
  obtain rfl : args = #[v0, v1] := by cases args; simp_all
  obtain ⟨rfl, rfl⟩ := trodVars_none hV
  have k0 := h0
  have lt0 : ∀ x ∈ p0, x.block < W.heap.size := by obtain ⟨m, hm⟩ := k0; exact DataW.trod_lt m _ _ _ hm
  have k1 := h1
  have lt1 : ∀ x ∈ p1, x.block < W.heap.size := by obtain ⟨m, hm⟩ := k1; exact DataW.trod_lt m _ _ _ hm
  have z0 := open_bytes (hval 0 22 v0 rfl rfl) h0
  have z1 := open_bytes (hval 1 22 v1 rfl rfl) h1
  clear hA0 hval0
  refine (jacd_walk v0 W z0 v1 W z1 W).mono fun e W1 ⟨he, bel⟩ => ?_
  subst he
  exact ⟨_, rfl, _, _, _, [], _, [], hW', trodAll_mk1 (shut_bool Try.underlying4 _), (trodAll_cons_mk (Below.trod laidOut (by kernel_rfl) (of_decide_eq_true (by kernel_rfl)) k0 bel lt0) (trodAll_cons_mk (Below.trod laidOut (by kernel_rfl) (of_decide_eq_true (by kernel_rfl)) k1 bel lt1) trodAll_mk0)), rfl, bel.frame _, fun h => by cases h⟩
theorem over : Rows.fnJeepsAreCamelsRow.holds Try.pinned (OpenSpec.ofChange Rows.fnJeepsAreCamelsSpec) :=
  OpenClaim.holds_of_wide 3 Try.f3 rfl rfl rfl rfl rfl rfl rfl ⟨rfl, rfl, rfl, rfl, rfl⟩ rfl rfl rfl rfl rfl (by kernel_rfl) Try.func3 (by kernel_rfl)
    (of_decide_eq_true (by kernel_rfl)) (by unfold Func.isWrapper; first | (rw [if_pos (by decide +kernel)]; kernel_rfl) | (rw [if_neg (by decide +kernel)]; exact ⟨rfl, rfl⟩))
    (fun os started H enc _ => lifted os started H enc)
theorem proved : Rows.FnJeepsAreCamelsSaid := over
end fnJeepsAreCamels
end Go.Proofs.Ytgpbkjakmbmccaa
