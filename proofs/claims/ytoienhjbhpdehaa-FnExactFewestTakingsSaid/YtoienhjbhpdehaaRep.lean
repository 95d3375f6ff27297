/- math/bits.Mul and slices.Repeat of one whole number. -/
import Derived.Test.YtoienhjbhpdehaaMake
import Derived.Test.YtoienhjbhpdehaaBase
import Derived.Lib.Hide
import Derived.OwnWalk
import Derived.Lib.Mul64
import Derived.Laws.Bits64b
import Derived.Laws.CopyOwn
import Derived.Laws.OwnMore
import Derived.Deep.OwnRows
import Derived.Deep.RegionLaw
import Derived.Deep.RegionHeld3
import Derived.Deep.DeepCutAuto
import Derived.Deep.RegionHeldLaw
namespace Go.Proofs.Ytoienhjbhpdehaa
open Go.ChangeShapes Go.WideShapes Go.ChangeAt Go.RowKit Go.Joins
set_option maxRecDepth 100000
set_option linter.unusedVariables false
set_option linter.unusedSimpArgs false

theorem maskN (a : Nat) (ha : a < 18446744073709551616) : bits .and .u64 (a : Int) 4294967295 = ((a % 4294967296 : Nat) : Int) := by
  have h := bits_and_u64_nat a 4294967295 ha (by omega)
  have e : a &&& 4294967295 = a % 4294967296 := Nat.and_two_pow_sub_one_eq_mod a 32
  rw [e] at h
  exact h
theorem divN (a : Nat) : (a : Int) / 4294967296 = ((a / 4294967296 : Nat) : Int) := by omega
theorem mulN (a b : Nat) : (a : Int) * (b : Int) = ((a * b : Nat) : Int) := (Int.natCast_mul a b).symm
theorem addN (a b : Nat) : (a : Int) + (b : Int) = ((a + b : Nat) : Int) := (Int.natCast_add a b).symm
theorem wrapN (a : Nat) (ha : a < 18446744073709551616) : IntKind.u64.wrap (a : Int) = (a : Int) := by rw [IntKind.wrap_u64]; omega
theorem wrapM (a : Nat) : IntKind.u64.wrap (a : Int) = ((a % 18446744073709551616 : Nat) : Int) := by rw [IntKind.wrap_u64]; omega
set_option maxHeartbeats 1000000 in
theorem mul64 (x y : Nat) (hx : x < 18446744073709551616) (hy : y < 18446744073709551616) (w : World) :
    Calls Try.prog 25 #[.int .u64 x, .int .u64 y] w fun e w' => e = .returned (.tuple #[.int .u64 ((x * y / 18446744073709551616 : Nat) : Int), .int .u64 ((x * y % 18446744073709551616 : Nat) : Int)]) ∧ w = w' := by
  obtain ⟨bd, bt, bw, hhi⟩ := Lib.mul64_hi x y hx hy
  have ba := Lib.half_mul_le (a := x / 4294967296) (b := y / 4294967296) (by omega) (by omega)
  have bb := Lib.half_mul_le (a := x / 4294967296) (b := y % 4294967296) (by omega) (by omega)
  have bc := Lib.half_mul_le (a := x % 4294967296) (b := y / 4294967296) (by omega) (by omega)
  have ba' : x / 4294967296 * (y / 4294967296) < 18446744073709551616 := by omega
  have bb' : x / 4294967296 * (y % 4294967296) < 18446744073709551616 := by omega
  have bc' : x % 4294967296 * (y / 4294967296) < 18446744073709551616 := by omega
  have bh1 : x / 4294967296 * (y / 4294967296) + (x / 4294967296 * (y % 4294967296) + x % 4294967296 * (y % 4294967296) / 4294967296) / 4294967296 < 18446744073709551616 := by omega
  have bh : x / 4294967296 * (y / 4294967296) + (x / 4294967296 * (y % 4294967296) + x % 4294967296 * (y % 4294967296) / 4294967296) / 4294967296 + ((x / 4294967296 * (y % 4294967296) + x % 4294967296 * (y % 4294967296) / 4294967296) % 4294967296 + x % 4294967296 * (y / 4294967296)) / 4294967296 < 18446744073709551616 := by omega
  go_enter Try.func25, Try.ntmps25
  go_wp2
  simp only [maskN x hx, maskN y hy, divN, mulN, addN, wrapN _ bd, wrapN _ bb', wrapN _ bt, maskN _ bt, wrapN _ bc', wrapN _ bw, wrapN _ ba', wrapN _ bh1, wrapN _ bh, wrapM (x * y)]
  rw [hhi]
  go_ret2
  exact ⟨rfl, rfl⟩
set_option maxHeartbeats 1000000 in
theorem mulBits (x y : Nat) (hx : x < 18446744073709551616) (hy : y < 18446744073709551616) (w : World) :
    Calls Try.prog 23 #[.int .u64 x, .int .u64 y] w fun e w' => e = .returned (.tuple #[.int .u64 ((x * y / 18446744073709551616 : Nat) : Int), .int .u64 ((x * y % 18446744073709551616 : Nat) : Int)]) ∧ w = w' := by
  have c64 := Lib.hid (fun W : World => mul64 x y hx hy W)
  go_enter Try.func23, Try.ntmps23
  go_wp2_with (go_at_call 25; refine (c64.out _).mono ?_; rintro e w1 ⟨rfl, rfl⟩)
  go_ret2
  exact ⟨rfl, rfl⟩
theorem mul_one (k : Nat) (hk : k ≤ 1048576) (w : World) :
    Calls Try.prog 23 #[.int .u64 1, .int .u64 k] w fun e w' => e = .returned (.tuple #[.int .u64 0, .int .u64 k]) ∧ w = w' := by
  have h := mulBits 1 k (by omega) (by omega) w
  rw [show (1 * k / 18446744073709551616 : Nat) = 0 by omega, show (1 * k % 18446744073709551616 : Nat) = k by omega] at h
  exact h

/-- k cells of e, then zeros, n in all. -/
def repC (e : Int) (k n : Nat) : List Value := List.replicate k (.int .i64 e) ++ List.replicate (n - k) (.int .i64 0)
theorem repC_len (e : Int) (k n : Nat) (h : k ≤ n) : (repC e k n).length = n := by simp [repC]; omega
theorem repC_one (e : Int) (k n : Nat) : ∀ v ∈ repC e k n, v.oneCell' = true := by
  intro v hv
  simp only [repC, List.mem_append, List.mem_replicate] at hv
  rcases hv with ⟨_, rfl⟩ | ⟨_, rfl⟩ <;> rfl
theorem repC_get (e : Int) (k n j : Nat) (hj : j < k) : (repC e k n)[j]? = some (.int .i64 e) := by
  unfold repC
  rw [List.getElem?_append_left (by simpa using hj), List.getElem?_replicate, if_pos hj]
theorem repC_splice (e : Int) (k d n : Nat) (h : k + d ≤ n) : splice (repC e k n) k (List.replicate d (.int .i64 e)) = repC e (k + d) n := by
  unfold splice repC
  rw [List.take_left' (by simp)]
  rw [List.length_replicate, List.drop_append, List.drop_eq_nil_of_le (by simp)]
  simp only [List.length_replicate, List.nil_append, List.drop_replicate]
  rw [← List.append_assoc, List.replicate_append_replicate]
  congr 2
  omega
theorem made_repC (e : Int) (n : Nat) : madeCells #[(.int .i64 0 : Value)] n = (repC e 0 n).toArray := by
  apply Array.toList_inj.1
  rw [toList_madeCells_one]
  simp [repC]
theorem cell_of_heap {w : World} {g o : Nat} {cs : Array Value} {t : TypeId} {fz : Nat × Nat} {v : Value} (h : w.heap[g]? = some (.cells cs t fz)) (hv : cs[o]? = some v) : w.cell? ⟨g, o, none⟩ = some v := by
  simp [World.cell?, h, hv]

theorem infoInt0 : (Try.prog.info? 3).map (fun i => (i.zero, i.size, i.bytes)) = some (some (.int .i64 0), 1, 8) := by kernel_rfl
set_option maxHeartbeats 3200000 in
theorem rep_ints (e : Int) (k : Nat) (hk : k ≤ 1048576) (ad : Addr) (cp : Nat) (w : World) (hx : w.cell? ad = some (.int .i64 e)) :
    Calls Try.prog 21 #[.slice (some ad) 1 cp, .int .i64 k] w fun en w' => ∃ v, en = .returned v ∧ w'.ownsRow w.heap.size 3 1 v k (List.replicate k (.int .i64 e)) ∧ Below w.heap.size w w' := by
  have HM := Lib.hid (fun W : World => mul_one k hk W)
  have hu1 : IntKind.u64.wrap 1 = 1 := by decide
  have hu2 : IntKind.u64.wrap (k : Int) = (k : Int) := by rw [IntKind.wrap_u64]; omega
  have hu3 : IntKind.i64.wrap (k : Int) = (k : Int) := by rw [IntKind.wrap_i64]; omega
  have hk0 : ¬ ((k : Int) < 0) := by omega
  have hk1 : ¬ (9223372036854775807 < (k : Int)) := by omega
  have hmk : ∀ W : World, (Instr.makeSlice 39 (.int .i64 (k : Int)) (.int .i64 (k : Int))).run Try.prog W = .ok (.slice (some ⟨W.heap.size, 0, none⟩) k k) (W.alloc (.cells (repC e 0 k).toArray 3)) := fun W => by
    have h := run_make_row' (P := Try.prog) 39 3 (.int .i64 0) 8 Try.underlying39 infoInt0 rfl .i64 .i64 k (by omega) (by omega) W
    rw [made_repC e k] at h
    exact h
  have hsz1 : (Try.prog.info? 3).map (·.size) = some 1 := by kernel_rfl
  have hlen0 : (repC e 0 k).length = k := repC_len e 0 k (Nat.zero_le _)
  obtain ⟨d, hd⟩ : ∃ d : Nat, d = Nat.min 1 k := ⟨_, rfl⟩
  have hd1 : d ≤ 1 ∧ d ≤ k ∧ (k = 0 → d = 0) ∧ (0 < k → d = 1) := by rw [hd]; simp only [Nat.min_def]; split <;> omega
  have hdh := Lib.hid hd
  clear hd
  go_enter Try.func21, Try.ntmps21
  go_wp2_with (first | (go_at_call 23; refine (HM.out _).mono ?_; rintro e w1 ⟨rfl, rfl⟩) | ((refine wpList_copy_splice rfl _ _ _ _ rfl 3 Try.underlying39 hsz1 _ _ _ _ _ _ rfl rfl w.heap.size 0 (repC e 0 k) 3 (heap_alloc_new w _) (List.replicate d (.int .i64 e)) (by simp only [List.length_replicate]; exact hdh.out) ?hpos (by simp only [List.length_replicate]; omega) (by intro v hv; rw [List.mem_replicate] at hv; rw [hv.2]; rfl) w.heap.size w (by (repeat (first | with_reducible exact Below.refl _ _ | with_reducible assumption | with_reducible refine balloc ?_ _ | with_reducible refine bdrew ?_ | with_reducible refine below_drewN ?_ _ | with_reducible refine bset ?_ ?_ _ | with_reducible exact Nat.le_refl _ | with_reducible refine bsize ?_ | (dsimp only; refine Nat.le_trans ?_ (Nat.le_add_right _ _)) | with_reducible refine Nat.le_trans ?_ (Nat.le_add_right _ _) | (with_reducible refine bstep ?_ (by assumption))))) (Nat.le_refl _) ?hrest)))
  case hpos =>
    intro h0
    have e1 : d = 1 := by first | exact hd1.2.2.2 (by omega) | omega
    intro j v hv
    rw [e1] at hv
    have hj : j = 0 := by
      have := (List.getElem?_eq_some_iff.1 hv).1
      simp at this; omega
    subst hj
    have hB : Below w.heap.size w (w.alloc (Obj.cells (repC e 0 k).toArray 3)) := by (repeat (first | with_reducible exact Below.refl _ _ | with_reducible assumption | with_reducible refine balloc ?_ _ | with_reducible refine bdrew ?_ | with_reducible refine below_drewN ?_ _ | with_reducible refine bset ?_ ?_ _ | with_reducible exact Nat.le_refl _ | with_reducible refine bsize ?_ | (dsimp only; refine Nat.le_trans ?_ (Nat.le_add_right _ _)) | with_reducible refine Nat.le_trans ?_ (Nat.le_add_right _ _) | (with_reducible refine bstep ?_ (by assumption))))
    have hv2 : v = .int .i64 e := by simpa using hv.symm
    have ea : ad.add 0 = ad := by unfold Addr.add; simp
    rw [hv2, ea]
    exact (hB.cell (World.block_lt_of_cell? _ _ hx)).trans hx
  case hrest =>
    intro w2 hr2 hb2
    have hr3 := hr2.out
    rw [repC_splice e 0 d k (by omega), Nat.zero_add] at hr3
    replace hr3 := Lib.hid hr3
    clear hr2
    go_wp2
    go_loopw [8] (fun x wr => ∃ j : Nat, x = .int .i64 j ∧ j ≤ k ∧ (0 < k → 1 ≤ j) ∧ Hid (wr.heap[w.heap.size]? = some (.cells (repC e j k).toArray 3 (0, 0))) ∧ Below w.heap.size w wr) (fun x _ => k - (intOf x).toNat)
    case atStart => exact ⟨d, by first | rfl | (simp; done), by omega, by omega, hr3, hb2⟩
    case round =>
      obtain ⟨j, rfl, hjk, hj1, hrj, hbj⟩ := hrel
      by_cases hlt : (j : Int) < (k : Int)
      · obtain ⟨q, hq⟩ : ∃ q : Nat, q = Nat.min j (k - j) := ⟨_, rfl⟩
        have hq1 : q ≤ j ∧ q ≤ k - j ∧ 0 < q := by rw [hq]; simp only [Nat.min_def]; split <;> omega
        have hqh := Lib.hid hq
        clear hq
        have g1 : w.heap.size < wr.heap.size := by
          have := (Array.getElem?_eq_some_iff.1 hrj.out).1; exact this
        go_upto_region 9 with fail
        have hne : ¬ (k = j) := by omega
        have hpos : 0 < (List.replicate q (Value.int .i64 e)).length → (some (⟨w.heap.size, j, none⟩ : Addr)) = some ⟨w.heap.size, j, none⟩ ∧ ∃ ad : Addr, some (⟨w.heap.size, 0, none⟩ : Addr) = some ad ∧ ∀ (t : Nat) (v : Value), (List.replicate q (Value.int .i64 e))[t]? = some v → wr.drew.cell? (ad.add t) = some v := fun _ => by
          refine ⟨rfl, _, rfl, fun t v hv => ?_⟩
          rw [Addr.add_lit, Nat.zero_add]
          have ht : t < q := by
            have := (List.getElem?_eq_some_iff.1 hv).1
            simpa using this
          have hv2 : v = .int .i64 e := by
            have := List.mem_of_getElem? hv
            rw [List.mem_replicate] at this
            exact this.2
          rw [hv2]
          exact cell_of_heap (w := wr.drew) (h := hrj.out) (by rw [List.getElem?_toArray]; exact repC_get e j k t (by omega))
        have i1 : (0 : Int) ≤ (j : Int) ∧ (j : Int) ≤ (k : Int) := by omega
        have wq : IntKind.i64.wrap ((j : Int) + (q : Int)) = (j : Int) + (q : Int) := by rw [IntKind.wrap_i64]; omega
        refine wp_region_noPanic ?_
        refine wp_region_held_drew (S := (fun W => Below w.heap.size w W)) (by kernel_rfl) ?_ (fun hHeld0 => ?_)
        · (try dsimp only); (first | with_reducible assumption | ((repeat (first | with_reducible exact Below.refl _ _ | with_reducible assumption | with_reducible refine balloc ?_ _ | with_reducible refine bdrew ?_ | with_reducible refine below_drewN ?_ _ | with_reducible refine bset ?_ ?_ _ | with_reducible exact Nat.le_refl _ | with_reducible refine bsize ?_ | (dsimp only; refine Nat.le_trans ?_ (Nat.le_add_right _ _)) | with_reducible refine Nat.le_trans ?_ (Nat.le_add_right _ _) | (with_reducible refine bstep ?_ (by assumption)))); done) | go_keep)
        (refine wpAnyH_take (i := 0) (oi := { dst := some 38, op := Op.move (Operand.tmp 8), type := 3, pos := "slices.go:528", after := #[], guard := none }) (v := ?_) rfl (by kernel_rfl) (by kernel_rfl) (by kernel_rfl) (fun _ _ _ h => h) (Or.inl ⟨by rfl, ?_⟩) (by assumption) ?_; rotate_left; (focus (intro w hSw; (try dsimp only at hSw); go_simp; try with_reducible rfl)); (try simp only [Act.put, List.setIfInBounds_toArray, List.set_cons_zero, List.set_cons_succ]))
        (refine wpAnyH_take (i := 1) (oi := { dst := some 39, op := Op.move (Operand.tmp 7), type := 39, pos := "slices.go:528", after := #[], guard := none }) (v := ?_) rfl (by kernel_rfl) (by kernel_rfl) (by kernel_rfl) (fun _ _ _ h => h) (Or.inl ⟨by rfl, ?_⟩) (by assumption) ?_; rotate_left; (focus (intro w hSw; (try dsimp only at hSw); go_simp; try with_reducible rfl)); (try simp only [Act.put, List.setIfInBounds_toArray, List.set_cons_zero, List.set_cons_succ]))
        (refine wpAnyH_take (i := 2) (oi := { dst := some 40, op := Op.move (Operand.tmp 8), type := 3, pos := "slices.go:528", after := #[], guard := none }) (v := ?_) rfl (by kernel_rfl) (by kernel_rfl) (by kernel_rfl) (fun _ _ _ h => h) (Or.inl ⟨by rfl, ?_⟩) (by assumption) ?_; rotate_left; (focus (intro w hSw; (try dsimp only at hSw); go_simp; try with_reducible rfl)); (try simp only [Act.put, List.setIfInBounds_toArray, List.set_cons_zero, List.set_cons_succ]))
        (refine wpAnyH_take (i := 3) (oi := { dst := some 41, op := Op.slice 39 (Operand.tmp 39) (some (Operand.tmp 40)) none none, type := 39, pos := "slices.go:528", after := #[{ on := 1, ground := Ground.data }, { on := 2, ground := Ground.data }], guard := none }) (v := ?_) rfl (by kernel_rfl) (by kernel_rfl) (by kernel_rfl) (fun _ _ _ h => h) (Or.inl ⟨by rfl, ?_⟩) (by assumption) ?_; rotate_left; (focus (intro w hSw; (try dsimp only at hSw); go_simp; try with_reducible rfl)); (try simp only [Act.put, List.setIfInBounds_toArray, List.set_cons_zero, List.set_cons_succ]))
        (refine wpAnyH_take (i := 4) (oi := { dst := some 42, op := Op.move (Operand.tmp 7), type := 39, pos := "slices.go:528", after := #[], guard := none }) (v := ?_) rfl (by kernel_rfl) (by kernel_rfl) (by kernel_rfl) (fun _ _ _ h => h) (Or.inl ⟨by rfl, ?_⟩) (by assumption) ?_; rotate_left; (focus (intro w hSw; (try dsimp only at hSw); go_simp; try with_reducible rfl)); (try simp only [Act.put, List.setIfInBounds_toArray, List.set_cons_zero, List.set_cons_succ]))
        (refine wpAnyH_take (i := 5) (oi := { dst := some 43, op := Op.move (Operand.tmp 8), type := 3, pos := "slices.go:528", after := #[], guard := none }) (v := ?_) rfl (by kernel_rfl) (by kernel_rfl) (by kernel_rfl) (fun _ _ _ h => h) (Or.inl ⟨by rfl, ?_⟩) (by assumption) ?_; rotate_left; (focus (intro w hSw; (try dsimp only at hSw); go_simp; try with_reducible rfl)); (try simp only [Act.put, List.setIfInBounds_toArray, List.set_cons_zero, List.set_cons_succ]))
        (refine wpAnyH_take (i := 6) (oi := { dst := some 44, op := Op.slice 39 (Operand.tmp 42) none (some (Operand.tmp 43)) none, type := 39, pos := "slices.go:528", after := #[{ on := 4, ground := Ground.data }, { on := 5, ground := Ground.data }], guard := none }) (v := ?_) rfl (by kernel_rfl) (by kernel_rfl) (by kernel_rfl) (fun _ _ _ h => h) (Or.inl ⟨by rfl, ?_⟩) (by assumption) ?_; rotate_left; (focus (intro w hSw; (try dsimp only at hSw); go_simp; try with_reducible rfl)); (try simp only [Act.put, List.setIfInBounds_toArray, List.set_cons_zero, List.set_cons_succ]))
        (refine wpAnyH_ready (rs := [7]) (by kernel_rfl) (by simp) ?_; refine AllReadyH.cons (o := { dst := some 45, op := Op.call { callee := Callee.builtin Builtin.copy, args := #[Operand.tmp 41, Operand.tmp 44], argTypes := #[39, 39] }, type := 3, pos := "slices.go:528", after := #[{ on := 3, ground := Ground.data }, { on := 6, ground := Ground.data }], guard := none }) rfl (fun K hK => ?_) AllReadyH.nil; (go_loud (refine step_copy_splice rfl (.tmp 41) (.tmp 44) 39 39 rfl 3 Try.underlying39 hsz1 _ _ _ _ _ _ rfl rfl w.heap.size j (repC e j k) 3 hrj.out (List.replicate q (.int .i64 e)) ?c1 ?c2 ?c3 ?c4 w.heap.size w ?c5 (Nat.le_refl _) ?_); (case c1 => simp only [List.length_replicate]; exact hqh.out); (case c2 => exact hpos); (case c3 => rw [List.length_replicate, repC_len e j k hjk]; omega); (case c4 => intro v hv; rw [List.mem_replicate] at hv; rw [hv.2]; rfl); (case c5 => (repeat (first | with_reducible exact Below.refl _ _ | with_reducible assumption | with_reducible refine balloc ?_ _ | with_reducible refine bdrew ?_ | with_reducible refine below_drewN ?_ _ | with_reducible refine bset ?_ ?_ _ | with_reducible exact Nat.le_refl _ | with_reducible refine bsize ?_ | (dsimp only; refine Nat.le_trans ?_ (Nat.le_add_right _ _)) | with_reducible refine Nat.le_trans ?_ (Nat.le_add_right _ _) | (with_reducible refine bstep ?_ (by assumption))))); intro w4 hg4 hb4; rw [List.length_replicate]); (first | refine hK.out _ _ ?_ (fun hHeld1 => ?_) | (go_wp2_with fail; refine hK.out _ _ ?_ (fun hHeld1 => ?_))); (focus ((try dsimp only); (first | with_reducible assumption | ((repeat (first | with_reducible exact Below.refl _ _ | with_reducible assumption | with_reducible refine balloc ?_ _ | with_reducible refine bdrew ?_ | with_reducible refine below_drewN ?_ _ | with_reducible refine bset ?_ ?_ _ | with_reducible exact Nat.le_refl _ | with_reducible refine bsize ?_ | (dsimp only; refine Nat.le_trans ?_ (Nat.le_add_right _ _)) | with_reducible refine Nat.le_trans ?_ (Nat.le_add_right _ _) | (with_reducible refine bstep ?_ (by assumption)))); done) | go_keep))); clear hK K; (try clear hHeld0); (try simp only [Act.put, List.setIfInBounds_toArray, List.set_cons_zero, List.set_cons_succ]))
        (refine wpAnyH_take (i := 8) (oi := { dst := some 46, op := Op.binOp BinOp.add 3 (Operand.tmp 38) (Operand.tmp 45) 3, type := 3, pos := "slices.go:528", after := #[{ on := 0, ground := Ground.data }, { on := 7, ground := Ground.data }], guard := none }) (v := ?_) rfl (by kernel_rfl) (by kernel_rfl) (by kernel_rfl) (fun _ _ _ h => h) (Or.inl ⟨by rfl, ?_⟩) (by assumption) ?_; rotate_left; (focus (intro w hSw; (try dsimp only at hSw); go_simp; try with_reducible rfl)); (try simp only [Act.put, List.setIfInBounds_toArray, List.set_cons_zero, List.set_cons_succ]))
        (refine wpAnyH_take (i := 9) (oi := { dst := some 8, op := Op.assign (Operand.tmp 46), type := 3, pos := "slices.go:528", after := #[{ on := 8, ground := Ground.data }, { on := 7, ground := Ground.chain }, { on := 0, ground := Ground.phase }, { on := 1, ground := Ground.phase }, { on := 2, ground := Ground.phase }, { on := 3, ground := Ground.phase }, { on := 4, ground := Ground.phase }, { on := 5, ground := Ground.phase }, { on := 6, ground := Ground.phase }, { on := 7, ground := Ground.phase }, { on := 8, ground := Ground.phase }], guard := none }) (v := ?_) rfl (by kernel_rfl) (by kernel_rfl) (by kernel_rfl) (fun _ _ _ h => h) (Or.inl ⟨by rfl, ?_⟩) (by assumption) ?_; rotate_left; (focus (intro w hSw; (try dsimp only at hSw); go_simp; try with_reducible rfl)); (try simp only [Act.put, List.setIfInBounds_toArray, List.set_cons_zero, List.set_cons_succ]))
        refine wpAnyH_done (by kernel_rfl) ?_ _
        (try refine NoPanic.normal ?_)
        have hr4 := hg4.out
        rw [repC_splice e j q k (by omega)] at hr4
        replace hr4 := Lib.hid hr4
        clear hg4 hpos
        go_wp2
        go_roundw
        case rel => exact ⟨j + q, by go_num, by omega, by omega, hr4, hb4⟩
        case measure => simp [intOf]; omega
      · have e0 : j = k := by omega
        subst e0
        go_wp2
        go_ret
        refine ⟨_, rfl, ⟨by simp, Or.inr ⟨w.heap.size, j, _, rfl, Nat.le_refl _, hrj.out, Nat.le_refl _, by unfold maxLen; omega, ?_, ?_⟩⟩, hbj⟩
        · simp [repC]
        · simp [repC]
end Go.Proofs.Ytoienhjbhpdehaa
