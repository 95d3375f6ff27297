/- Rings gone around the other way, of both sides. -/
import Derived.Test.YtcgchgkgmfemeaaRingF
import Derived.Test.YtcgchgkgmfemeaaApp
import Derived.Deep.RegionHeld3
import Derived.Deep.DeepCutAuto
namespace Go.Proofs.Ytcgchgkgmfemeaa
open Go.ChangeShapes Go.WideShapes Go.ChangeAt Go.RowKit Go.Joins
set_option maxRecDepth 100000
set_option linter.unusedVariables false
set_option linter.unusedSimpArgs false


/-- The station that comes k-th the other way around. -/
def bkI (n k : Nat) : Nat := (n - k) % n
def bkE (l : List StaV) (k : Nat) : StaV := ⟨(l.getD (bkI l.length k) default).a, (l.getD (bkI l.length (k + 1)) default).b⟩
def bkP (l : List StaV) (k : Nat) : List StaV := (List.range k).map (bkE l)
def bkL (l : List StaV) : List StaV := if rgB l = true then bkP l l.length else []
theorem bkP_len (l : List StaV) (k : Nat) : (bkP l k).length = k := by simp [bkP]
theorem bkP_succ (l : List StaV) (k : Nat) : bkP l (k + 1) = bkP l k ++ [bkE l k] := by simp [bkP, List.range_succ]
theorem bkL_len (l : List StaV) : (bkL l).length ≤ 1048576 := by
  unfold bkL
  split
  · next h => rw [bkP_len]; have := rgB_le h; omega
  · simp
theorem bkL_no {l : List StaV} (h : rgB l = false) : bkL l = [] := by simp [bkL, h]
theorem bkL_yes {l : List StaV} (h : rgB l = true) : bkL l = bkP l l.length := by simp [bkL, h]
theorem bkI_lt {n k : Nat} (h : 0 < n) : bkI n k < n := Nat.mod_lt _ h
theorem bkI_next {n k : Nat} (hk : k < n) : bkI n (k + 1) = (bkI n k + n - 1) % n := by
  unfold bkI
  by_cases h0 : k = 0
  · subst h0
    rw [Nat.sub_zero, Nat.mod_self]
    congr 1
    omega
  · rw [Nat.mod_eq_of_lt (show n - k < n by omega)]
    rw [show n - k + n - 1 = (n - (k + 1)) + n by omega, Nat.add_mod_right]
theorem tmod_nat (x n : Nat) : Int.tmod (x : Int) (n : Int) = ((x % n : Nat) : Int) := by
  rw [Int.tmod_eq_emod_of_nonneg (by omega)]; simp
theorem getD_get {l : List StaV} {i : Nat} (h : i < l.length) : l[i]? = some (l.getD i default) := by
  rw [List.getD_eq_getElem?_getD, List.getElem?_eq_getElem h]; rfl
theorem cell_two6 (w : World) (a b : Value) (t : TypeId) : ∀ j u, [a, b][j]? = some u → (w.alloc (.cells #[a, b] t)).cell? ((⟨w.heap.size, 0, none⟩ : Addr).add j) = some u := by
  intro j u h
  match j with
  | 0 => simp at h; subst h; simp [go_sem]
  | 1 => simp at h; subst h; simp [go_sem]
  | n + 2 => simp at h
set_option maxHeartbeats 6400000 in
theorem back_impl (v : Value) (l : List StaV) (w : World) (h : RowG 2 fSta w v l) :
    Calls Try.prog 34 #[v] w (AnsG 47 2 fSta (bkL l) (rgB l) w) := by
  obtain ⟨i0, hi, hz0, hz1, hz2⟩ := info_parts infoStation
  have HR := Lib.hid (ring_impl v l w h)
  cases hr : rgB l
  · obtain ⟨a0, c0, hv0, hl1, hl2⟩ := row_shape h
    rw [bkL_no hr]
    rw [hr] at HR
    subst hv0
    clear h hr
    go_enter Try.func34, Try.ntmps34
    go_wp2_with fail
    refine HR.out.mono ?_
    rintro e w1 ⟨rfl, hb1⟩
    go_wp2
    refine bodyPost_ret (v := .tuple #[.slice none 0 0, .bool false]) (by simp only [results, Try.results34]; go_simp) rfl ?_
    exact ans_owns rfl ⟨rfl, Or.inl ⟨rfl, rfl⟩⟩ (by (repeat (first | with_reducible exact Below.refl _ _ | with_reducible assumption | with_reducible refine balloc ?_ _ | with_reducible refine bdrew ?_ | with_reducible refine below_drewN ?_ _ | with_reducible refine bset ?_ ?_ _ | with_reducible exact Nat.le_refl _ | with_reducible refine bsize ?_ | (dsimp only; refine Nat.le_trans ?_ (Nat.le_add_right _ _)) | with_reducible refine Nat.le_trans ?_ (Nat.le_add_right _ _) | (with_reducible refine bstep ?_ (by assumption)))))
  · have hle := rgB_le hr
    obtain ⟨a, cap, rfl, hL⟩ := rowG_part h hle.1
    rw [bkL_yes hr]
    rw [hr] at HR
    have hlc := hL.hlc
    have hcap := hL.hcap
    have HL := Lib.hid hL
    have hab : a.block < w.heap.size := by
      have hx : l[0]? = some (l[0]'hle.1) := List.getElem?_eq_getElem hle.1
      have := cell_lt (hL.hcell 0 _ hx 0 _ rfl)
      rw [add_block] at this
      exact this
    clear h hr hL
    have hEk := Lib.hid (fun k => (show bkE l k = ⟨(l.getD (bkI l.length k) default).a, (l.getD (bkI l.length (k + 1)) default).b⟩ from rfl))
    have hget := Lib.hid (fun i (h : i < l.length) => getD_get h)
    have hbl := Lib.hid (fun k => bkP_len l k)
    generalize hn : l.length = n at *
    have hn2 := Lib.hid hn
    clear hn
    have h20 : n ≤ 20 := hle.2
    have h00 : 0 < n := hle.1
    go_enter Try.func34, Try.ntmps34
    go_wp2_with fail
    refine HR.out.mono ?_
    rintro e w1 ⟨rfl, hb1⟩
    go_wp2
    go_loopw [4, 5, 6, 12] (fun v hh u i wr => ∃ j : Nat, j ≤ n ∧ i = .int .i64 j ∧ hh = .int .i64 ((bkI n j : Nat) : Int) ∧ wr.ownsRow w.heap.size 47 2 v j (cellsG fSta (bkP l j)) ∧ Below w.heap.size w wr) (fun _ _ _ i _ => n - (intOf i).toNat)
    case atStart => exact ⟨0, Nat.zero_le _, rfl, by simp [bkI], World.ownsRow_nil _ _ _ _, hb1⟩
    case round =>
      obtain ⟨j, hj, rfl, rfl, hown, hbel⟩ := hrel
      by_cases hlt : j < n
      · have hL2 := liesG_below HL.out hbel
        obtain ⟨aq, cq, rfl⟩ := owns_shape hown
        have hq0 : bkI n j < n := bkI_lt h00
        have hq1 : bkI n (j + 1) < n := bkI_lt h00
        have hnx := bkI_next hlt
        have hmd : Int.tmod (((bkI n j : Nat) : Int) + (n : Int) - 1) (n : Int) = ((bkI n (j + 1) : Nat) : Int) := by
          rw [hnx, ← tmod_nat]; congr 1; omega
        have hm0 : Int.tmod ((n : Int) - (j : Int)) (n : Int) = ((bkI n j : Nat) : Int) := by
          unfold bkI; rw [← tmod_nat]; congr 1; omega
        have hp0 := hget.out _ hq0
        have hp1 := hget.out _ hq1
        have hE := hEk.out j
        generalize bkI n j = q0 at *
        generalize hqe : bkI n (j + 1) = q1 at *
        replace hqe := Lib.hid hqe
        generalize l.getD q0 default = x at *
        generalize l.getD q1 default = y at *
        have c0 := hL2.hcell _ _ hp0 0 x.a rfl
        rw [Nat.add_zero] at c0
        have c1 : wr.cell? ⟨(a.add (q1 * 2)).block, (a.add (q1 * 2)).off + 1, none⟩ = some (.int .i64 y.b) := by
          have h := hL2.hcell _ _ hp1 1 y.b rfl
          rw [← Deep.add_add] at h
          exact h
        replace hE := Lib.hid hE
        have hsz := hbel.size
        have g1 : (a.add (q0 * 2)).block < wr.heap.size := by have := cell_lt c0; exact this
        have g2 : (a.add (q1 * 2)).block < wr.heap.size := by have := cell_lt c1; exact this
        have i1 : (0 : Int) ≤ (q0 : Int) ∧ (q0 : Int) < (n : Int) := by omega
        have i2 : (0 : Int) ≤ (q1 : Int) ∧ (q1 : Int) < (n : Int) := by omega
        have i3 : ¬ ((n : Int) = 0) := by omega
        have n0 : ¬ (n = 0) := by omega
        have wq0 : IntKind.i64.wrap ((q0 : Int) + (n : Int)) = (q0 : Int) + (n : Int) := by rw [IntKind.wrap_i64]; omega
        have wq1 : IntKind.i64.wrap ((q0 : Int) + (n : Int) - 1) = (q0 : Int) + (n : Int) - 1 := by rw [IntKind.wrap_i64]; omega
        have wq2 : IntKind.i64.wrap ((q1 : Int)) = (q1 : Int) := by rw [IntKind.wrap_i64]; omega
        clear hL2 hp0 hp1 hnx
        generalize x.a = xa at *
        generalize y.b = yb at *
        have ga : (a.add (q0 * 2)).block < w.heap.size := by rw [add_block]; exact hab
        have gb : (a.add (q1 * 2)).block < w.heap.size := by rw [add_block]; exact hab
        go_upto_region 8 with fail
        refine wp_region_noPanic ?_
        refine wp_region_held_drew (S := (fun W => Below w.heap.size w W ∧ W.cell? (a.add (q0 * 2)) = some (.int .i64 xa) ∧ W.cell? ⟨(a.add (q1 * 2)).block, (a.add (q1 * 2)).off + 1, none⟩ = some (.int .i64 yb))) (by kernel_rfl) ?_ (fun hHeld0 => ?_)
        · (try dsimp only); (first | with_reducible assumption | (go_split_ands; (repeat' with_reducible apply And.intro) <;> first | with_reducible assumption | ((repeat (first | with_reducible exact Below.refl _ _ | with_reducible assumption | with_reducible refine balloc ?_ _ | with_reducible refine bdrew ?_ | with_reducible refine below_drewN ?_ _ | with_reducible refine bset ?_ ?_ _ | with_reducible exact Nat.le_refl _ | with_reducible refine bsize ?_ | (dsimp only; refine Nat.le_trans ?_ (Nat.le_add_right _ _)) | with_reducible refine Nat.le_trans ?_ (Nat.le_add_right _ _) | (with_reducible refine bstep ?_ (by assumption)))); done) | (simp [go_sem]; done) | go_keep))
        (refine wpAnyH_take (i := 0) (oi := { dst := some 22, op := Op.move (Operand.tmp 4), type := 26, pos := "l6_well.go:374", after := #[], guard := none }) (v := ?_) rfl (by kernel_rfl) (by kernel_rfl) (by kernel_rfl) (fun _ _ _ h => h) (Or.inl ⟨by rfl, ?_⟩) (by assumption) ?_; rotate_left; (focus (intro w hSw; (try dsimp only at hSw); go_simp; try with_reducible rfl)); (try simp only [Act.put, List.setIfInBounds_toArray, List.set_cons_zero, List.set_cons_succ]))
        (refine wpAnyH_take (i := 1) (oi := { dst := some 23, op := Op.move (Operand.tmp 0), type := 26, pos := "l6_well.go:374", after := #[], guard := none }) (v := ?_) rfl (by kernel_rfl) (by kernel_rfl) (by kernel_rfl) (fun _ _ _ h => h) (Or.inl ⟨by rfl, ?_⟩) (by assumption) ?_; rotate_left; (focus (intro w hSw; (try dsimp only at hSw); go_simp; try with_reducible rfl)); (try simp only [Act.put, List.setIfInBounds_toArray, List.set_cons_zero, List.set_cons_succ]))
        (refine wpAnyH_take (i := 2) (oi := { dst := some 24, op := Op.move (Operand.tmp 5), type := 3, pos := "l6_well.go:374", after := #[], guard := none }) (v := ?_) rfl (by kernel_rfl) (by kernel_rfl) (by kernel_rfl) (fun _ _ _ h => h) (Or.inl ⟨by rfl, ?_⟩) (by assumption) ?_; rotate_left; (focus (intro w hSw; (try dsimp only at hSw); go_simp; try with_reducible rfl)); (try simp only [Act.put, List.setIfInBounds_toArray, List.set_cons_zero, List.set_cons_succ]))
        (refine wpAnyH_take (i := 3) (oi := { dst := some 25, op := Op.indexAddr 26 (Operand.tmp 23) (Operand.tmp 24), type := 0, pos := "l6_well.go:374", after := #[{ on := 1, ground := Ground.data }, { on := 2, ground := Ground.data }], guard := none }) (v := ?_) rfl (by kernel_rfl) (by kernel_rfl) (by kernel_rfl) (fun _ _ _ h => h) (Or.inl ⟨by rfl, ?_⟩) (by assumption) ?_; rotate_left; (focus (intro w hSw; (try dsimp only at hSw); go_simp; try with_reducible rfl)); (try simp only [Act.put, List.setIfInBounds_toArray, List.set_cons_zero, List.set_cons_succ]))
        (refine wpAnyH_take (i := 4) (oi := { dst := some 26, op := Op.fieldAddr 47 (Operand.tmp 25) 0, type := 0, pos := "l6_well.go:374", after := #[{ on := 3, ground := Ground.data }], guard := none }) (v := ?_) rfl (by kernel_rfl) (by kernel_rfl) (by kernel_rfl) (fun _ _ _ h => h) (Or.inl ⟨by rfl, ?_⟩) (by assumption) ?_; rotate_left; (focus (intro w hSw; (try dsimp only at hSw); go_simp; try with_reducible rfl)); (try simp only [Act.put, List.setIfInBounds_toArray, List.set_cons_zero, List.set_cons_succ]))
        (refine wpAnyH_take (i := 5) (oi := { dst := some 27, op := Op.load 3 (Operand.tmp 26), type := 3, pos := "l6_well.go:374", after := #[{ on := 4, ground := Ground.data }], guard := none }) (v := ?_) rfl (by kernel_rfl) (by kernel_rfl) (by kernel_rfl) (fun _ _ _ h => h) (Or.inl ⟨by rfl, ?_⟩) (by assumption) ?_; rotate_left; (focus (intro w hSw; (try dsimp only at hSw); go_simp; try with_reducible rfl)); (try simp only [Act.put, List.setIfInBounds_toArray, List.set_cons_zero, List.set_cons_succ]))
        (refine wpAnyH_take (i := 6) (oi := { dst := some 28, op := Op.move (Operand.tmp 0), type := 26, pos := "l6_well.go:374", after := #[], guard := none }) (v := ?_) rfl (by kernel_rfl) (by kernel_rfl) (by kernel_rfl) (fun _ _ _ h => h) (Or.inl ⟨by rfl, ?_⟩) (by assumption) ?_; rotate_left; (focus (intro w hSw; (try dsimp only at hSw); go_simp; try with_reducible rfl)); (try simp only [Act.put, List.setIfInBounds_toArray, List.set_cons_zero, List.set_cons_succ]))
        (refine wpAnyH_take (i := 7) (oi := { dst := some 29, op := Op.move (Operand.tmp 6), type := 3, pos := "l6_well.go:374", after := #[], guard := none }) (v := ?_) rfl (by kernel_rfl) (by kernel_rfl) (by kernel_rfl) (fun _ _ _ h => h) (Or.inl ⟨by rfl, ?_⟩) (by assumption) ?_; rotate_left; (focus (intro w hSw; (try dsimp only at hSw); go_simp; try with_reducible rfl)); (try simp only [Act.put, List.setIfInBounds_toArray, List.set_cons_zero, List.set_cons_succ]))
        (refine wpAnyH_take (i := 8) (oi := { dst := some 30, op := Op.indexAddr 26 (Operand.tmp 28) (Operand.tmp 29), type := 0, pos := "l6_well.go:374", after := #[{ on := 6, ground := Ground.data }, { on := 7, ground := Ground.data }], guard := none }) (v := ?_) rfl (by kernel_rfl) (by kernel_rfl) (by kernel_rfl) (fun _ _ _ h => h) (Or.inl ⟨by rfl, ?_⟩) (by assumption) ?_; rotate_left; (focus (intro w hSw; (try dsimp only at hSw); go_simp; try with_reducible rfl)); (try simp only [Act.put, List.setIfInBounds_toArray, List.set_cons_zero, List.set_cons_succ]))
        (refine wpAnyH_take (i := 9) (oi := { dst := some 31, op := Op.fieldAddr 47 (Operand.tmp 30) 1, type := 0, pos := "l6_well.go:374", after := #[{ on := 8, ground := Ground.data }], guard := none }) (v := ?_) rfl (by kernel_rfl) (by kernel_rfl) (by kernel_rfl) (fun _ _ _ h => h) (Or.inl ⟨by rfl, ?_⟩) (by assumption) ?_; rotate_left; (focus (intro w hSw; (try dsimp only at hSw); go_simp; try with_reducible rfl)); (try simp only [Act.put, List.setIfInBounds_toArray, List.set_cons_zero, List.set_cons_succ]))
        (refine wpAnyH_take (i := 10) (oi := { dst := some 32, op := Op.load 3 (Operand.tmp 31), type := 3, pos := "l6_well.go:374", after := #[{ on := 9, ground := Ground.data }], guard := none }) (v := ?_) rfl (by kernel_rfl) (by kernel_rfl) (by kernel_rfl) (fun _ _ _ h => h) (Or.inl ⟨by rfl, ?_⟩) (by assumption) ?_; rotate_left; (focus (intro w hSw; (try dsimp only at hSw); go_simp; try with_reducible rfl)); (try simp only [Act.put, List.setIfInBounds_toArray, List.set_cons_zero, List.set_cons_succ]))
        (refine wpAnyH_take (i := 11) (oi := { dst := some 33, op := Op.build 47 #[(0, Operand.tmp 27), (1, Operand.tmp 32)], type := 47, pos := "l6_well.go:374", after := #[{ on := 5, ground := Ground.data }, { on := 10, ground := Ground.data }], guard := none }) (v := ?_) rfl (by kernel_rfl) (by kernel_rfl) (by kernel_rfl) (fun _ _ _ h => h) (Or.inl ⟨by rfl, ?_⟩) (by assumption) ?_; rotate_left; (focus (intro w hSw; (try dsimp only at hSw); go_simp; try with_reducible rfl)); (try simp only [Act.put, List.setIfInBounds_toArray, List.set_cons_zero, List.set_cons_succ]))
        (refine wpAnyH_ready (rs := [12]) (by kernel_rfl) (by simp) ?_; refine AllReadyH.cons (o := { dst := some 34, op := Op.buildSlice 26 1 #[(0, Operand.tmp 33)], type := 26, pos := "l6_well.go:374", after := #[{ on := 11, ground := Ground.data }], guard := none }) rfl (fun K hK => ?_) AllReadyH.nil; go_simp; skip; (first | refine hK.out _ _ ?_ (fun hHeld1 => ?_) | (go_wp2_with fail; refine hK.out _ _ ?_ (fun hHeld1 => ?_))); (focus ((try dsimp only); (first | with_reducible assumption | (go_split_ands; (repeat' with_reducible apply And.intro) <;> first | with_reducible assumption | ((repeat (first | with_reducible exact Below.refl _ _ | with_reducible assumption | with_reducible refine balloc ?_ _ | with_reducible refine bdrew ?_ | with_reducible refine below_drewN ?_ _ | with_reducible refine bset ?_ ?_ _ | with_reducible exact Nat.le_refl _ | with_reducible refine bsize ?_ | (dsimp only; refine Nat.le_trans ?_ (Nat.le_add_right _ _)) | with_reducible refine Nat.le_trans ?_ (Nat.le_add_right _ _) | (with_reducible refine bstep ?_ (by assumption)))); done) | (simp [go_sem]; done) | go_keep)))); clear hK K; (try clear hHeld0); (try simp only [Act.put, List.setIfInBounds_toArray, List.set_cons_zero, List.set_cons_succ]))
        (refine wpAnyH_ready (rs := [13]) (by kernel_rfl) (by simp) ?_; refine AllReadyH.cons (o := { dst := some 35, op := Op.call { callee := Callee.builtin Builtin.append, args := #[Operand.tmp 22, Operand.tmp 34], argTypes := #[26, 26] }, type := 26, pos := "l6_well.go:374", after := #[{ on := 0, ground := Ground.data }, { on := 12, ground := Ground.data }], guard := none }) rfl (fun K hK => ?_) AllReadyH.nil; (refine step_append_own rfl (.tmp 22) (.tmp 34) 26 rfl w.heap.size 47 i0 (.agg #[.int .i64 0, .int .i64 0]) 2 16 Try.underlying26 hi hz0 hz1 hz2 rfl (by decide) (.slice aq j cq) j (cellsG fSta (bkP l j)) ?c6 ?own ⟨wr.heap.size, 0, none⟩ 1 1 [.int .i64 xa, .int .i64 yb] ?c7 rfl ?c1 ?c2 ?c3 ?c4 ?c5 ?_; (case own => (repeat (first | with_reducible assumption | with_reducible refine own_alloc ?_ _ | with_reducible refine own_drew ?_ | with_reducible refine own_set ?_ ?_ _))); (case c1 => (intro k u hk; rcases k with _ | _ | k <;> simp at hk <;> subst hk <;> simp [go_sem])); (case c2 => simp [Value.oneCell']); (case c3 => unfold maxLen; omega); (case c4 => omega); (case c5 => first | ((repeat (first | with_reducible exact Below.refl _ _ | with_reducible assumption | with_reducible refine balloc ?_ _ | with_reducible refine bdrew ?_ | with_reducible refine below_drewN ?_ _ | with_reducible refine bset ?_ ?_ _ | with_reducible exact Nat.le_refl _ | with_reducible refine bsize ?_ | (dsimp only; refine Nat.le_trans ?_ (Nat.le_add_right _ _)) | with_reducible refine Nat.le_trans ?_ (Nat.le_add_right _ _) | (with_reducible refine bstep ?_ (by assumption)))); done) | (simp; omega)); (case c6 => simp [Act.eval, Act.put]); (case c7 => simp [Act.eval, Act.put]); intro v5 w5 hown' hgr; (have e0 : w5.cell? (a.add (q0 * 2)) = some (.int .i64 xa) := hgr.cell (by simp [go_sem, c0, g1]) (fun e => own_ne hown ga e.symm)); (have e1 : w5.cell? ⟨(a.add (q1 * 2)).block, (a.add (q1 * 2)).off + 1, none⟩ = some (.int .i64 yb) := hgr.cell (by simp [go_sem, c1, g2]) (fun e => own_ne hown gb e.symm)); (have f5 : Below w.heap.size w w5 := grown_bel (base := w.heap.size) (e := 47) (size := 2) (n := j) (xs := cellsG fSta (bkP l j)) (by (first | with_reducible assumption | ((repeat (first | with_reducible exact Below.refl _ _ | with_reducible assumption | with_reducible refine balloc ?_ _ | with_reducible refine bdrew ?_ | with_reducible refine below_drewN ?_ _ | with_reducible refine bset ?_ ?_ _ | with_reducible exact Nat.le_refl _ | with_reducible refine bsize ?_ | (dsimp only; refine Nat.le_trans ?_ (Nat.le_add_right _ _)) | with_reducible refine Nat.le_trans ?_ (Nat.le_add_right _ _) | (with_reducible refine bstep ?_ (by assumption)))); done))) hgr (by (repeat (first | with_reducible assumption | with_reducible refine own_alloc ?_ _ | with_reducible refine own_drew ?_ | with_reducible refine own_set ?_ ?_ _))) (Nat.le_refl _))); (first | refine hK.out _ _ ?_ (fun hHeld2 => ?_) | (go_wp2_with fail; refine hK.out _ _ ?_ (fun hHeld2 => ?_))); (focus ((try dsimp only); (first | with_reducible assumption | (go_split_ands; (repeat' with_reducible apply And.intro) <;> first | with_reducible assumption | ((repeat (first | with_reducible exact Below.refl _ _ | with_reducible assumption | with_reducible refine balloc ?_ _ | with_reducible refine bdrew ?_ | with_reducible refine below_drewN ?_ _ | with_reducible refine bset ?_ ?_ _ | with_reducible exact Nat.le_refl _ | with_reducible refine bsize ?_ | (dsimp only; refine Nat.le_trans ?_ (Nat.le_add_right _ _)) | with_reducible refine Nat.le_trans ?_ (Nat.le_add_right _ _) | (with_reducible refine bstep ?_ (by assumption)))); done) | (simp [go_sem]; done) | go_keep)))); clear hK K; (try clear hHeld1); (try simp only [Act.put, List.setIfInBounds_toArray, List.set_cons_zero, List.set_cons_succ]))
        (refine wpAnyH_take (i := 14) (oi := { dst := some 4, op := Op.assign (Operand.tmp 35), type := 26, pos := "l6_well.go:374", after := #[{ on := 13, ground := Ground.data }, { on := 13, ground := Ground.chain }, { on := 0, ground := Ground.phase }, { on := 1, ground := Ground.phase }, { on := 2, ground := Ground.phase }, { on := 3, ground := Ground.phase }, { on := 4, ground := Ground.phase }, { on := 5, ground := Ground.phase }, { on := 6, ground := Ground.phase }, { on := 7, ground := Ground.phase }, { on := 8, ground := Ground.phase }, { on := 9, ground := Ground.phase }, { on := 10, ground := Ground.phase }, { on := 11, ground := Ground.phase }, { on := 12, ground := Ground.phase }, { on := 13, ground := Ground.phase }], guard := none }) (v := ?_) rfl (by kernel_rfl) (by kernel_rfl) (by kernel_rfl) (fun _ _ _ h => h) (Or.inl ⟨by rfl, ?_⟩) (by assumption) ?_; rotate_left; (focus (intro w hSw; (try dsimp only at hSw); go_simp; try with_reducible rfl)); (try simp only [Act.put, List.setIfInBounds_toArray, List.set_cons_zero, List.set_cons_succ]))
        refine wpAnyH_done (by kernel_rfl) ?_ _
        (try refine NoPanic.normal ?_)
        have hown5 : w5.ownsRow w.heap.size 47 2 v5 (j + 1) (cellsG fSta (bkP l (j + 1))) := by
          rw [bkP_succ, hE.out, cellsG_snoc]; simpa [fSta] using hown'
        clear hown' hgr c0 c1 e0 e1 hown hbel
        go_wp2
        go_roundw
        case rel => exact ⟨j + 1, by omega, by go_num, by rw [hqe.out], hown5, f5⟩
        case measure => simp [intOf]; omega
      · have hjn : j = n := by omega
        subst hjn
        have hbel2 := hbel
        go_wp2
        go_ret2
        exact ⟨_, rfl, by rw [hbl.out]; exact hown, hbel2⟩
set_option maxHeartbeats 6400000 in
theorem back_spec (v : Value) (l : List StaV) (w : World) (h : RowG 2 fSta w v l) :
    Calls Try.prog 33 #[v] w (AnsG 47 2 fSta (bkL l) (rgB l) w) := by
  obtain ⟨i0, hi, hz0, hz1, hz2⟩ := info_parts infoStation
  have HR := Lib.hid (ring_spec v l w h)
  cases hr : rgB l
  · obtain ⟨a0, c0, hv0, hl1, hl2⟩ := row_shape h
    rw [bkL_no hr]
    rw [hr] at HR
    subst hv0
    clear h hr
    go_enter Try.func33, Try.ntmps33
    go_wp2_with fail
    refine HR.out.mono ?_
    rintro e w1 ⟨rfl, hb1⟩
    go_wp2
    refine bodyPost_ret (v := .tuple #[.slice none 0 0, .bool false]) (by simp only [results, Try.results33]; go_simp) rfl ?_
    exact ans_owns rfl ⟨rfl, Or.inl ⟨rfl, rfl⟩⟩ (by (repeat (first | with_reducible exact Below.refl _ _ | with_reducible assumption | with_reducible refine balloc ?_ _ | with_reducible refine bdrew ?_ | with_reducible refine below_drewN ?_ _ | with_reducible refine bset ?_ ?_ _ | with_reducible exact Nat.le_refl _ | with_reducible refine bsize ?_ | (dsimp only; refine Nat.le_trans ?_ (Nat.le_add_right _ _)) | with_reducible refine Nat.le_trans ?_ (Nat.le_add_right _ _) | (with_reducible refine bstep ?_ (by assumption)))))
  · have hle := rgB_le hr
    obtain ⟨a, cap, rfl, hL⟩ := rowG_part h hle.1
    rw [bkL_yes hr]
    rw [hr] at HR
    have hlc := hL.hlc
    have hcap := hL.hcap
    have HL := Lib.hid hL
    have hab : a.block < w.heap.size := by
      have hx : l[0]? = some (l[0]'hle.1) := List.getElem?_eq_getElem hle.1
      have := cell_lt (hL.hcell 0 _ hx 0 _ rfl)
      rw [add_block] at this
      exact this
    clear h hr hL
    have hEk := Lib.hid (fun k => (show bkE l k = ⟨(l.getD (bkI l.length k) default).a, (l.getD (bkI l.length (k + 1)) default).b⟩ from rfl))
    have hget := Lib.hid (fun i (h : i < l.length) => getD_get h)
    have hbl := Lib.hid (fun k => bkP_len l k)
    generalize hn : l.length = n at *
    have hn2 := Lib.hid hn
    clear hn
    have h20 : n ≤ 20 := hle.2
    have h00 : 0 < n := hle.1
    go_enter Try.func33, Try.ntmps33
    go_wp2_with fail
    refine HR.out.mono ?_
    rintro e w1 ⟨rfl, hb1⟩
    go_wp2
    go_loopw [5, 6, 7] (fun v i u wr => ∃ j : Nat, j ≤ n ∧ i = .int .i64 j ∧ wr.ownsRow w.heap.size 47 2 v j (cellsG fSta (bkP l j)) ∧ Below w.heap.size w wr) (fun _ i _ _ => n - (intOf i).toNat)
    case atStart => exact ⟨0, Nat.zero_le _, rfl, World.ownsRow_nil _ _ _ _, hb1⟩
    case round =>
      obtain ⟨j, hj, rfl, hown, hbel⟩ := hrel
      by_cases hlt : j < n
      · have hL2 := liesG_below HL.out hbel
        obtain ⟨aq, cq, rfl⟩ := owns_shape hown
        have hq0 : bkI n j < n := bkI_lt h00
        have hq1 : bkI n (j + 1) < n := bkI_lt h00
        have hnx := bkI_next hlt
        have hmd : Int.tmod (((bkI n j : Nat) : Int) + (n : Int) - 1) (n : Int) = ((bkI n (j + 1) : Nat) : Int) := by
          rw [hnx, ← tmod_nat]; congr 1; omega
        have hm0 : Int.tmod ((n : Int) - (j : Int)) (n : Int) = ((bkI n j : Nat) : Int) := by
          unfold bkI; rw [← tmod_nat]; congr 1; omega
        have hp0 := hget.out _ hq0
        have hp1 := hget.out _ hq1
        have hE := hEk.out j
        generalize bkI n j = q0 at *
        generalize hqe : bkI n (j + 1) = q1 at *
        replace hqe := Lib.hid hqe
        generalize l.getD q0 default = x at *
        generalize l.getD q1 default = y at *
        have c0 := hL2.hcell _ _ hp0 0 x.a rfl
        rw [Nat.add_zero] at c0
        have c1 : wr.cell? ⟨(a.add (q1 * 2)).block, (a.add (q1 * 2)).off + 1, none⟩ = some (.int .i64 y.b) := by
          have h := hL2.hcell _ _ hp1 1 y.b rfl
          rw [← Deep.add_add] at h
          exact h
        replace hE := Lib.hid hE
        have hsz := hbel.size
        have g1 : (a.add (q0 * 2)).block < wr.heap.size := by have := cell_lt c0; exact this
        have g2 : (a.add (q1 * 2)).block < wr.heap.size := by have := cell_lt c1; exact this
        have i1 : (0 : Int) ≤ (q0 : Int) ∧ (q0 : Int) < (n : Int) := by omega
        have i2 : (0 : Int) ≤ (q1 : Int) ∧ (q1 : Int) < (n : Int) := by omega
        have i3 : ¬ ((n : Int) = 0) := by omega
        have n0 : ¬ (n = 0) := by omega
        have wq0 : IntKind.i64.wrap ((q0 : Int) + (n : Int)) = (q0 : Int) + (n : Int) := by rw [IntKind.wrap_i64]; omega
        have wq1 : IntKind.i64.wrap ((q0 : Int) + (n : Int) - 1) = (q0 : Int) + (n : Int) - 1 := by rw [IntKind.wrap_i64]; omega
        have wq2 : IntKind.i64.wrap ((q1 : Int)) = (q1 : Int) := by rw [IntKind.wrap_i64]; omega
        clear hL2 hp0 hp1 hnx
        generalize x.a = xa at *
        generalize y.b = yb at *
        have ga : (a.add (q0 * 2)).block < w.heap.size := by rw [add_block]; exact hab
        have gb : (a.add (q1 * 2)).block < w.heap.size := by rw [add_block]; exact hab
        go_upto_region 9 with fail
        refine wp_region_noPanic ?_
        refine wp_region_held_drew (S := (fun W => Below w.heap.size w W ∧ W.cell? (a.add (q0 * 2)) = some (.int .i64 xa) ∧ W.cell? ⟨(a.add (q1 * 2)).block, (a.add (q1 * 2)).off + 1, none⟩ = some (.int .i64 yb))) (by kernel_rfl) ?_ (fun hHeld0 => ?_)
        · (try dsimp only); (first | with_reducible assumption | (go_split_ands; (repeat' with_reducible apply And.intro) <;> first | with_reducible assumption | ((repeat (first | with_reducible exact Below.refl _ _ | with_reducible assumption | with_reducible refine balloc ?_ _ | with_reducible refine bdrew ?_ | with_reducible refine below_drewN ?_ _ | with_reducible refine bset ?_ ?_ _ | with_reducible exact Nat.le_refl _ | with_reducible refine bsize ?_ | (dsimp only; refine Nat.le_trans ?_ (Nat.le_add_right _ _)) | with_reducible refine Nat.le_trans ?_ (Nat.le_add_right _ _) | (with_reducible refine bstep ?_ (by assumption)))); done) | (simp [go_sem]; done) | go_keep))
        (refine wpAnyH_take (i := 0) (oi := { dst := some 23, op := Op.move (Operand.tmp 5), type := 26, pos := "l6_well.go:339", after := #[], guard := none }) (v := ?_) rfl (by kernel_rfl) (by kernel_rfl) (by kernel_rfl) (fun _ _ _ h => h) (Or.inl ⟨by rfl, ?_⟩) (by assumption) ?_; rotate_left; (focus (intro w hSw; (try dsimp only at hSw); go_simp; try with_reducible rfl)); (try simp only [Act.put, List.setIfInBounds_toArray, List.set_cons_zero, List.set_cons_succ]))
        (refine wpAnyH_take (i := 1) (oi := { dst := some 24, op := Op.move (Operand.tmp 0), type := 26, pos := "l6_well.go:339", after := #[], guard := none }) (v := ?_) rfl (by kernel_rfl) (by kernel_rfl) (by kernel_rfl) (fun _ _ _ h => h) (Or.inl ⟨by rfl, ?_⟩) (by assumption) ?_; rotate_left; (focus (intro w hSw; (try dsimp only at hSw); go_simp; try with_reducible rfl)); (try simp only [Act.put, List.setIfInBounds_toArray, List.set_cons_zero, List.set_cons_succ]))
        (refine wpAnyH_take (i := 2) (oi := { dst := some 25, op := Op.move (Operand.tmp 7), type := 3, pos := "l6_well.go:339", after := #[], guard := none }) (v := ?_) rfl (by kernel_rfl) (by kernel_rfl) (by kernel_rfl) (fun _ _ _ h => h) (Or.inl ⟨by rfl, ?_⟩) (by assumption) ?_; rotate_left; (focus (intro w hSw; (try dsimp only at hSw); go_simp; try with_reducible rfl)); (try simp only [Act.put, List.setIfInBounds_toArray, List.set_cons_zero, List.set_cons_succ]))
        (refine wpAnyH_take (i := 3) (oi := { dst := some 26, op := Op.indexAddr 26 (Operand.tmp 24) (Operand.tmp 25), type := 0, pos := "l6_well.go:339", after := #[{ on := 1, ground := Ground.data }, { on := 2, ground := Ground.data }], guard := none }) (v := ?_) rfl (by kernel_rfl) (by kernel_rfl) (by kernel_rfl) (fun _ _ _ h => h) (Or.inl ⟨by rfl, ?_⟩) (by assumption) ?_; rotate_left; (focus (intro w hSw; (try dsimp only at hSw); go_simp; try with_reducible rfl)); (try simp only [Act.put, List.setIfInBounds_toArray, List.set_cons_zero, List.set_cons_succ]))
        (refine wpAnyH_take (i := 4) (oi := { dst := some 27, op := Op.fieldAddr 47 (Operand.tmp 26) 0, type := 0, pos := "l6_well.go:339", after := #[{ on := 3, ground := Ground.data }], guard := none }) (v := ?_) rfl (by kernel_rfl) (by kernel_rfl) (by kernel_rfl) (fun _ _ _ h => h) (Or.inl ⟨by rfl, ?_⟩) (by assumption) ?_; rotate_left; (focus (intro w hSw; (try dsimp only at hSw); go_simp; try with_reducible rfl)); (try simp only [Act.put, List.setIfInBounds_toArray, List.set_cons_zero, List.set_cons_succ]))
        (refine wpAnyH_take (i := 5) (oi := { dst := some 28, op := Op.load 3 (Operand.tmp 27), type := 3, pos := "l6_well.go:339", after := #[{ on := 4, ground := Ground.data }], guard := none }) (v := ?_) rfl (by kernel_rfl) (by kernel_rfl) (by kernel_rfl) (fun _ _ _ h => h) (Or.inl ⟨by rfl, ?_⟩) (by assumption) ?_; rotate_left; (focus (intro w hSw; (try dsimp only at hSw); go_simp; try with_reducible rfl)); (try simp only [Act.put, List.setIfInBounds_toArray, List.set_cons_zero, List.set_cons_succ]))
        (refine wpAnyH_take (i := 6) (oi := { dst := some 29, op := Op.move (Operand.tmp 0), type := 26, pos := "l6_well.go:339", after := #[], guard := none }) (v := ?_) rfl (by kernel_rfl) (by kernel_rfl) (by kernel_rfl) (fun _ _ _ h => h) (Or.inl ⟨by rfl, ?_⟩) (by assumption) ?_; rotate_left; (focus (intro w hSw; (try dsimp only at hSw); go_simp; try with_reducible rfl)); (try simp only [Act.put, List.setIfInBounds_toArray, List.set_cons_zero, List.set_cons_succ]))
        (refine wpAnyH_take (i := 7) (oi := { dst := some 30, op := Op.move (Operand.tmp 7), type := 3, pos := "l6_well.go:339", after := #[], guard := none }) (v := ?_) rfl (by kernel_rfl) (by kernel_rfl) (by kernel_rfl) (fun _ _ _ h => h) (Or.inl ⟨by rfl, ?_⟩) (by assumption) ?_; rotate_left; (focus (intro w hSw; (try dsimp only at hSw); go_simp; try with_reducible rfl)); (try simp only [Act.put, List.setIfInBounds_toArray, List.set_cons_zero, List.set_cons_succ]))
        (refine wpAnyH_take (i := 8) (oi := { dst := some 31, op := Op.move (Operand.tmp 4), type := 3, pos := "l6_well.go:339", after := #[], guard := none }) (v := ?_) rfl (by kernel_rfl) (by kernel_rfl) (by kernel_rfl) (fun _ _ _ h => h) (Or.inl ⟨by rfl, ?_⟩) (by assumption) ?_; rotate_left; (focus (intro w hSw; (try dsimp only at hSw); go_simp; try with_reducible rfl)); (try simp only [Act.put, List.setIfInBounds_toArray, List.set_cons_zero, List.set_cons_succ]))
        (refine wpAnyH_take (i := 9) (oi := { dst := some 32, op := Op.binOp BinOp.add 3 (Operand.tmp 30) (Operand.tmp 31) 3, type := 3, pos := "l6_well.go:339", after := #[{ on := 7, ground := Ground.data }, { on := 8, ground := Ground.data }], guard := none }) (v := ?_) rfl (by kernel_rfl) (by kernel_rfl) (by kernel_rfl) (fun _ _ _ h => h) (Or.inl ⟨by rfl, ?_⟩) (by assumption) ?_; rotate_left; (focus (intro w hSw; (try dsimp only at hSw); go_simp; try with_reducible rfl)); (try simp only [Act.put, List.setIfInBounds_toArray, List.set_cons_zero, List.set_cons_succ]))
        (refine wpAnyH_take (i := 10) (oi := { dst := some 33, op := Op.binOp BinOp.sub 3 (Operand.tmp 32) (Operand.const (Value.int IntKind.i64 1)) 3, type := 3, pos := "l6_well.go:339", after := #[{ on := 9, ground := Ground.data }], guard := none }) (v := ?_) rfl (by kernel_rfl) (by kernel_rfl) (by kernel_rfl) (fun _ _ _ h => h) (Or.inl ⟨by rfl, ?_⟩) (by assumption) ?_; rotate_left; (focus (intro w hSw; (try dsimp only at hSw); go_simp; try with_reducible rfl)); (try simp only [Act.put, List.setIfInBounds_toArray, List.set_cons_zero, List.set_cons_succ]))
        (refine wpAnyH_take (i := 11) (oi := { dst := some 34, op := Op.move (Operand.tmp 4), type := 3, pos := "l6_well.go:339", after := #[], guard := none }) (v := ?_) rfl (by kernel_rfl) (by kernel_rfl) (by kernel_rfl) (fun _ _ _ h => h) (Or.inl ⟨by rfl, ?_⟩) (by assumption) ?_; rotate_left; (focus (intro w hSw; (try dsimp only at hSw); go_simp; try with_reducible rfl)); (try simp only [Act.put, List.setIfInBounds_toArray, List.set_cons_zero, List.set_cons_succ]))
        (refine wpAnyH_take (i := 12) (oi := { dst := some 35, op := Op.binOp BinOp.rem 3 (Operand.tmp 33) (Operand.tmp 34) 3, type := 3, pos := "l6_well.go:339", after := #[{ on := 10, ground := Ground.data }, { on := 11, ground := Ground.data }], guard := none }) (v := ?_) rfl (by kernel_rfl) (by kernel_rfl) (by kernel_rfl) (fun _ _ _ h => h) (Or.inl ⟨by rfl, ?_⟩) (by assumption) ?_; rotate_left; (focus (intro w hSw; (try dsimp only at hSw); go_simp; try with_reducible rfl)); (try simp only [Act.put, List.setIfInBounds_toArray, List.set_cons_zero, List.set_cons_succ]))
        (refine wpAnyH_take (i := 13) (oi := { dst := some 36, op := Op.indexAddr 26 (Operand.tmp 29) (Operand.tmp 35), type := 0, pos := "l6_well.go:339", after := #[{ on := 6, ground := Ground.data }, { on := 12, ground := Ground.data }], guard := none }) (v := ?_) rfl (by kernel_rfl) (by kernel_rfl) (by kernel_rfl) (fun _ _ _ h => h) (Or.inl ⟨by rfl, ?_⟩) (by assumption) ?_; rotate_left; (focus (intro w hSw; (try dsimp only at hSw); go_simp; try with_reducible rfl)); (try simp only [Act.put, List.setIfInBounds_toArray, List.set_cons_zero, List.set_cons_succ]))
        (refine wpAnyH_take (i := 14) (oi := { dst := some 37, op := Op.fieldAddr 47 (Operand.tmp 36) 1, type := 0, pos := "l6_well.go:339", after := #[{ on := 13, ground := Ground.data }], guard := none }) (v := ?_) rfl (by kernel_rfl) (by kernel_rfl) (by kernel_rfl) (fun _ _ _ h => h) (Or.inl ⟨by rfl, ?_⟩) (by assumption) ?_; rotate_left; (focus (intro w hSw; (try dsimp only at hSw); go_simp; try with_reducible rfl)); (try simp only [Act.put, List.setIfInBounds_toArray, List.set_cons_zero, List.set_cons_succ]))
        (refine wpAnyH_take (i := 15) (oi := { dst := some 38, op := Op.load 3 (Operand.tmp 37), type := 3, pos := "l6_well.go:339", after := #[{ on := 14, ground := Ground.data }], guard := none }) (v := ?_) rfl (by kernel_rfl) (by kernel_rfl) (by kernel_rfl) (fun _ _ _ h => h) (Or.inl ⟨by rfl, ?_⟩) (by assumption) ?_; rotate_left; (focus (intro w hSw; (try dsimp only at hSw); go_simp; try with_reducible rfl)); (try simp only [Act.put, List.setIfInBounds_toArray, List.set_cons_zero, List.set_cons_succ]))
        (refine wpAnyH_take (i := 16) (oi := { dst := some 39, op := Op.build 47 #[(0, Operand.tmp 28), (1, Operand.tmp 38)], type := 47, pos := "l6_well.go:339", after := #[{ on := 5, ground := Ground.data }, { on := 15, ground := Ground.data }], guard := none }) (v := ?_) rfl (by kernel_rfl) (by kernel_rfl) (by kernel_rfl) (fun _ _ _ h => h) (Or.inl ⟨by rfl, ?_⟩) (by assumption) ?_; rotate_left; (focus (intro w hSw; (try dsimp only at hSw); go_simp; try with_reducible rfl)); (try simp only [Act.put, List.setIfInBounds_toArray, List.set_cons_zero, List.set_cons_succ]))
        (refine wpAnyH_ready (rs := [17]) (by kernel_rfl) (by simp) ?_; refine AllReadyH.cons (o := { dst := some 40, op := Op.buildSlice 26 1 #[(0, Operand.tmp 39)], type := 26, pos := "l6_well.go:339", after := #[{ on := 16, ground := Ground.data }], guard := none }) rfl (fun K hK => ?_) AllReadyH.nil; go_simp; skip; (first | refine hK.out _ _ ?_ (fun hHeld1 => ?_) | (go_wp2_with fail; refine hK.out _ _ ?_ (fun hHeld1 => ?_))); (focus ((try dsimp only); (first | with_reducible assumption | (go_split_ands; (repeat' with_reducible apply And.intro) <;> first | with_reducible assumption | ((repeat (first | with_reducible exact Below.refl _ _ | with_reducible assumption | with_reducible refine balloc ?_ _ | with_reducible refine bdrew ?_ | with_reducible refine below_drewN ?_ _ | with_reducible refine bset ?_ ?_ _ | with_reducible exact Nat.le_refl _ | with_reducible refine bsize ?_ | (dsimp only; refine Nat.le_trans ?_ (Nat.le_add_right _ _)) | with_reducible refine Nat.le_trans ?_ (Nat.le_add_right _ _) | (with_reducible refine bstep ?_ (by assumption)))); done) | (simp [go_sem]; done) | go_keep)))); clear hK K; (try clear hHeld0); (try simp only [Act.put, List.setIfInBounds_toArray, List.set_cons_zero, List.set_cons_succ]))
        (refine wpAnyH_ready (rs := [18]) (by kernel_rfl) (by simp) ?_; refine AllReadyH.cons (o := { dst := some 41, op := Op.call { callee := Callee.builtin Builtin.append, args := #[Operand.tmp 23, Operand.tmp 40], argTypes := #[26, 26] }, type := 26, pos := "l6_well.go:339", after := #[{ on := 0, ground := Ground.data }, { on := 17, ground := Ground.data }], guard := none }) rfl (fun K hK => ?_) AllReadyH.nil; (refine step_append_own rfl (.tmp 23) (.tmp 40) 26 rfl w.heap.size 47 i0 (.agg #[.int .i64 0, .int .i64 0]) 2 16 Try.underlying26 hi hz0 hz1 hz2 rfl (by decide) (.slice aq j cq) j (cellsG fSta (bkP l j)) ?c6 ?own ⟨wr.heap.size, 0, none⟩ 1 1 [.int .i64 xa, .int .i64 yb] ?c7 rfl ?c1 ?c2 ?c3 ?c4 ?c5 ?_; (case own => (repeat (first | with_reducible assumption | with_reducible refine own_alloc ?_ _ | with_reducible refine own_drew ?_ | with_reducible refine own_set ?_ ?_ _))); (case c1 => (intro k u hk; rcases k with _ | _ | k <;> simp at hk <;> subst hk <;> simp [go_sem])); (case c2 => simp [Value.oneCell']); (case c3 => unfold maxLen; omega); (case c4 => omega); (case c5 => first | ((repeat (first | with_reducible exact Below.refl _ _ | with_reducible assumption | with_reducible refine balloc ?_ _ | with_reducible refine bdrew ?_ | with_reducible refine below_drewN ?_ _ | with_reducible refine bset ?_ ?_ _ | with_reducible exact Nat.le_refl _ | with_reducible refine bsize ?_ | (dsimp only; refine Nat.le_trans ?_ (Nat.le_add_right _ _)) | with_reducible refine Nat.le_trans ?_ (Nat.le_add_right _ _) | (with_reducible refine bstep ?_ (by assumption)))); done) | (simp; omega)); (case c6 => simp [Act.eval, Act.put]); (case c7 => simp [Act.eval, Act.put]); intro v5 w5 hown' hgr; (have e0 : w5.cell? (a.add (q0 * 2)) = some (.int .i64 xa) := hgr.cell (by simp [go_sem, c0, g1]) (fun e => own_ne hown ga e.symm)); (have e1 : w5.cell? ⟨(a.add (q1 * 2)).block, (a.add (q1 * 2)).off + 1, none⟩ = some (.int .i64 yb) := hgr.cell (by simp [go_sem, c1, g2]) (fun e => own_ne hown gb e.symm)); (have f5 : Below w.heap.size w w5 := grown_bel (base := w.heap.size) (e := 47) (size := 2) (n := j) (xs := cellsG fSta (bkP l j)) (by (first | with_reducible assumption | ((repeat (first | with_reducible exact Below.refl _ _ | with_reducible assumption | with_reducible refine balloc ?_ _ | with_reducible refine bdrew ?_ | with_reducible refine below_drewN ?_ _ | with_reducible refine bset ?_ ?_ _ | with_reducible exact Nat.le_refl _ | with_reducible refine bsize ?_ | (dsimp only; refine Nat.le_trans ?_ (Nat.le_add_right _ _)) | with_reducible refine Nat.le_trans ?_ (Nat.le_add_right _ _) | (with_reducible refine bstep ?_ (by assumption)))); done))) hgr (by (repeat (first | with_reducible assumption | with_reducible refine own_alloc ?_ _ | with_reducible refine own_drew ?_ | with_reducible refine own_set ?_ ?_ _))) (Nat.le_refl _))); (first | refine hK.out _ _ ?_ (fun hHeld2 => ?_) | (go_wp2_with fail; refine hK.out _ _ ?_ (fun hHeld2 => ?_))); (focus ((try dsimp only); (first | with_reducible assumption | (go_split_ands; (repeat' with_reducible apply And.intro) <;> first | with_reducible assumption | ((repeat (first | with_reducible exact Below.refl _ _ | with_reducible assumption | with_reducible refine balloc ?_ _ | with_reducible refine bdrew ?_ | with_reducible refine below_drewN ?_ _ | with_reducible refine bset ?_ ?_ _ | with_reducible exact Nat.le_refl _ | with_reducible refine bsize ?_ | (dsimp only; refine Nat.le_trans ?_ (Nat.le_add_right _ _)) | with_reducible refine Nat.le_trans ?_ (Nat.le_add_right _ _) | (with_reducible refine bstep ?_ (by assumption)))); done) | (simp [go_sem]; done) | go_keep)))); clear hK K; (try clear hHeld1); (try simp only [Act.put, List.setIfInBounds_toArray, List.set_cons_zero, List.set_cons_succ]))
        (refine wpAnyH_take (i := 19) (oi := { dst := some 5, op := Op.assign (Operand.tmp 41), type := 26, pos := "l6_well.go:339", after := #[{ on := 18, ground := Ground.data }, { on := 18, ground := Ground.chain }, { on := 0, ground := Ground.phase }, { on := 1, ground := Ground.phase }, { on := 2, ground := Ground.phase }, { on := 3, ground := Ground.phase }, { on := 4, ground := Ground.phase }, { on := 5, ground := Ground.phase }, { on := 6, ground := Ground.phase }, { on := 7, ground := Ground.phase }, { on := 8, ground := Ground.phase }, { on := 9, ground := Ground.phase }, { on := 10, ground := Ground.phase }, { on := 11, ground := Ground.phase }, { on := 12, ground := Ground.phase }, { on := 13, ground := Ground.phase }, { on := 14, ground := Ground.phase }, { on := 15, ground := Ground.phase }, { on := 16, ground := Ground.phase }, { on := 17, ground := Ground.phase }, { on := 18, ground := Ground.phase }], guard := none }) (v := ?_) rfl (by kernel_rfl) (by kernel_rfl) (by kernel_rfl) (fun _ _ _ h => h) (Or.inl ⟨by rfl, ?_⟩) (by assumption) ?_; rotate_left; (focus (intro w hSw; (try dsimp only at hSw); go_simp; try with_reducible rfl)); (try simp only [Act.put, List.setIfInBounds_toArray, List.set_cons_zero, List.set_cons_succ]))
        refine wpAnyH_done (by kernel_rfl) ?_ _
        (try refine NoPanic.normal ?_)
        have hown5 : w5.ownsRow w.heap.size 47 2 v5 (j + 1) (cellsG fSta (bkP l (j + 1))) := by
          rw [bkP_succ, hE.out, cellsG_snoc]; simpa [fSta] using hown'
        clear hown' hgr c0 c1 e0 e1 hown hbel
        go_wp2
        go_roundw
        case rel => exact ⟨j + 1, by omega, by go_num, hown5, f5⟩
        case measure => simp [intOf]; omega
      · have hjn : j = n := by omega
        subst hjn
        have hbel2 := hbel
        go_wp2
        go_ret2
        exact ⟨_, rfl, by rw [hbl.out]; exact hown, hbel2⟩
end Go.Proofs.Ytcgchgkgmfemeaa
