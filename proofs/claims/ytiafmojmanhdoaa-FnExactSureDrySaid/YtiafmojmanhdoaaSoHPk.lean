/- Puzzles made harder, of both sides. -/
import Derived.Test.YtiafmojmanhdoaaPkS9d
import Derived.Test.YtiafmojmanhdoaaApp9Pk
import Derived.Test.YtiafmojmanhdoaaPzP
namespace Go.Proofs.Ytiafmojmanhdoaa
open Go.ChangeShapes Go.WideShapes Go.ChangeAt Go.RowKit Go.Joins
set_option maxRecDepth 100000
set_option linter.unusedVariables false
set_option linter.unusedSimpArgs false

/-- Clues are taken out, from the first one on. -/
def hdF (m : Int) : List ClueV → List ClueV → List ClueV
  | kept, [] => kept
  | kept, c :: rest => if (solL m (kept ++ rest)).length = 1 then hdF m kept rest else hdF m (kept ++ [c]) rest
theorem hdF_len (m : Int) : ∀ (rest kept : List ClueV), (hdF m kept rest).length ≤ kept.length + rest.length
  | [], kept => by simp [hdF]
  | c :: rest, kept => by
    unfold hdF
    split
    · have := hdF_len m rest kept; simp; omega
    · have := hdF_len m rest (kept ++ [c]); simp at this ⊢; omega
def hdB (m : Int) (cs : List ClueV) : Bool := pzB m cs && decide ((solL m cs).length = 1)
def hdL (m : Int) (cs : List ClueV) : List ClueV := if hdB m cs = true then hdF m [] cs else []
def hdM (m : Int) (cs : List ClueV) : Int := if hdB m cs = true then m else 0
theorem hdL_len (m : Int) (l : List ClueV) (hn : l.length ≤ 1048576) : (hdL m l).length ≤ 1048576 := by
  unfold hdL
  split
  · have := hdF_len m l []; simp at this; omega
  · simp
theorem wpList_append_any9 {P : Program} (w : World) {ops : Array Oper} {rest : List Oper} {o : Oper} {a : Act} {Q : Exit → Act → World → Prop} (hgd : o.guard = none) (s x : Operand) (t : TypeId)
    (ho : o.op = .call { callee := .builtin .append, args := #[s, x], argTypes := #[t, t] })
    (base : Nat) (e : TypeId) (i : TypeInfo) (z : Value) (size bytes : Nat) (ht : P.underlying t = some (.slice e)) (hi : P.info? e = some i) (hz : i.zero = some z)
    (hsize : i.size = size) (hby : i.bytes = bytes) (hzs : z.cells.size = size) (hsz : 0 < size)
    (v : Value) (n : Nat) (xs : List Value) (hs : a.eval s = v) (hown : w.ownsRow base e size v n xs)
    (xo : Option Addr) (m c : Nat) (news : List Value) (hx : a.eval x = .slice xo m c) (hnone : xo = none → m = 0 ∧ c = 0) (hl : news.length = m * size) (hnews : ∀ ad, xo = some ad → ∀ j u, news[j]? = some u → w.cell? (ad.add j) = some u) (h1 : ∀ u ∈ news, u.oneCell' = true)
    (h63 : n + m ≤ maxLen) (hbytes : (n + m) * bytes ≤ 140737488355328) (hbase : base ≤ w.heap.size)
    (h : ∀ v' w', w'.ownsRow base e size v' (n + m) (xs ++ news) → w.grownBy w' v.ownBlock → wpList P ops Q rest (a.put o.dst v') w') : wpList P ops Q (o :: rest) a w := by
  cases xo with
  | some ad => exact wpList_append_own w hgd s x t ho base e i z size bytes ht hi hz hsize hby hzs hsz v n xs hs hown ad m c news hx hl (hnews ad rfl) h1 h63 hbytes hbase (fun v' w' h2 h3 _ => h v' w' h2 h3)
  | none =>
    obtain ⟨rfl, rfl⟩ := hnone rfl
    obtain rfl : news = [] := List.eq_nil_of_length_eq_zero (by simpa using hl)
    exact wpList_append_own_none hgd s x t ho base e i size ht hi v n xs hs hown hx (h v w (by simpa using hown) (World.grownBy.refl _ _))
theorem row_cells {w : World} {a0 : Option Addr} {n c0 : Nat} {cs : List ClueV} (h : RowG 3 fClue w (.slice a0 n c0) cs) : (a0 = none → n = 0 ∧ c0 = 0) ∧ (cellsG fClue cs).length = n * 3 ∧ ∀ ad, a0 = some ad → ∀ j u, (cellsG fClue cs)[j]? = some u → w.cell? (ad.add j) = some u := by
  rcases h with ⟨hv, rfl⟩ | ⟨a, cap, hv, hL⟩
  · injection hv with e1 e2 e3
    subst e1 e2 e3
    exact ⟨fun _ => ⟨rfl, rfl⟩, rfl, fun ad e => (by cases e)⟩
  · injection hv with e1 e2 e3
    subst e1 e2 e3
    exact ⟨fun e => (by cases e), cellsG_len fClue_len cs, fun ad e => by injection e with e; subst e; exact liesG_cells fClue_len (by decide) hL⟩
theorem hd_step {m : Int} {cl : List ClueV} {k : Nat} (hk : k < cl.length) :
    ((solL m (woL cl k)).length = 1 → hdF m (cl.take k) (cl.drop k) = hdF m ((woL cl k).take k) ((woL cl k).drop k)) ∧ ((solL m (woL cl k)).length ≠ 1 → hdF m (cl.take k) (cl.drop k) = hdF m (cl.take (k + 1)) (cl.drop (k + 1))) := by
  have e1 : cl.drop k = cl[k] :: cl.drop (k + 1) := List.drop_eq_getElem_cons hk
  have e2 : (woL cl k).take k = cl.take k := by
    rw [woL, List.take_append_of_le_length (by rw [List.length_take]; omega), List.take_take, Nat.min_self]
  have e3 : (woL cl k).drop k = cl.drop (k + 1) := by
    rw [woL, List.drop_append_of_le_length (by rw [List.length_take]; omega), List.drop_of_length_le (by rw [List.length_take]; omega), List.nil_append]
  have e4 : cl.take (k + 1) = cl.take k ++ [cl[k]] := List.take_succ_eq_append_getElem hk
  constructor
  · intro h
    rw [e1, e2, e3, hdF]
    exact if_pos h
  · intro h
    rw [e1, e4, hdF]
    exact if_neg h
theorem woL_len {cl : List ClueV} {k : Nat} (hk : k < cl.length) : (woL cl k).length = cl.length - 1 := by
  rw [woL, List.length_append, List.length_take, List.length_drop]; omega
set_option maxHeartbeats 6400000 in
theorem harder_spec (m : Int) (bm : -9223372036854775808 ≤ m ∧ m ≤ 9223372036854775807) (v : Value) (cs : List ClueV) (w : World) (h : RowG 3 fClue w v cs) :
    Calls Try.prog 44 #[.agg #[.int .i64 m, v]] w (AnsP (hdM m cs) (hdL m cs) (hdB m cs) w) := by
  obtain ⟨i0, hi, hz0, hz1, hz2⟩ := info_parts infoClue
  have HG := Lib.hid (fun W (hB : Below w.heap.size w W) => good9_spec m bm v cs W (rowG_below h hB))
  have HBD := Lib.hid (row_bdC h)
  have HS := Lib.hid (fun (hp : pzB m cs = true) W v' cl (hcl : ∀ p ∈ cl, p ∈ cs) (hR : RowG 3 fClue W v' cl) => solved_spec m (miB_yes (pzB_yes hp).1).1 (miB_yes (pzB_yes hp).1).2 v' cl (fun p hp' => (pzB_yes hp).2.2 p (hcl p hp')) W hR)
  have HR := Lib.hid (fun W (hB : Below w.heap.size w W) => rowG_below h hB)
  obtain ⟨a0, c0, rfl, hl1, hl2⟩ := row_shape h
  have HRC := Lib.hid (fun W (hB : Below w.heap.size w W) => row_cells (rowG_below h hB))
  clear h
  obtain ⟨n, hn⟩ : ∃ n, cs.length = n := ⟨_, rfl⟩
  have HN := Lib.hid hn
  cases hp : pzB m cs
  · have e1 : hdB m cs = false := by simp [hdB, hp]
    have e2 : hdL m cs = [] := by simp [hdL, e1]
    have e3 : hdM m cs = 0 := by simp [hdM, e1]
    rw [hp] at HG
    rw [e1, e2, e3]
    clear e1 e2 e3 hp HS HR HRC hn
    go_enter Try.func44, Try.ntmps44
    go_wp2_with fail
    refine (HG.out _ (by (repeat (first | with_reducible exact Below.refl _ _ | with_reducible assumption | with_reducible refine balloc ?_ _ | with_reducible refine bdrew ?_ | with_reducible refine below_drewN ?_ _ | with_reducible refine bset ?_ ?_ _ | with_reducible exact Nat.le_refl _ | with_reducible refine bsize ?_ | (dsimp only; refine Nat.le_trans ?_ (Nat.le_add_right _ _)) | with_reducible refine Nat.le_trans ?_ (Nat.le_add_right _ _) | (with_reducible refine bstep ?_ (by assumption)))))).mono ?_
    rintro e w1 ⟨rfl, hb1⟩
    have hbx1 : Blk (w.heap.size + 1) #[.int .i64 0, .slice none 0 0] 41 w1 := Blk.later (by have h := Blk.new (w.alloc (.cells #[.int .i64 m, .slice a0 cs.length c0] 41)) #[.int .i64 0, .slice none 0 0] 41; rw [World.size_alloc] at h; exact h) hb1
    have r0 := hbx1.cell 0
    have r1 := hbx1.cell 1
    have z0 := hbx1.frozen 0
    have z1 := hbx1.frozen 1
    simp at r0 r1
    go_wp2
    refine bodyPost_ret (v := .tuple #[.agg #[.int .i64 0, .slice none 0 0], .bool false]) (by simp only [results, Try.results44]; go_simp) rfl ?_
    exact ⟨_, rfl, World.ownsRow_nil _ _ _ _, by (repeat (first | with_reducible exact Below.refl _ _ | with_reducible assumption | with_reducible refine balloc ?_ _ | with_reducible refine bdrew ?_ | with_reducible refine below_drewN ?_ _ | with_reducible refine bset ?_ ?_ _ | with_reducible exact Nat.le_refl _ | with_reducible refine bsize ?_ | (dsimp only; refine Nat.le_trans ?_ (Nat.le_add_right _ _)) | with_reducible refine Nat.le_trans ?_ (Nat.le_add_right _ _) | (with_reducible refine bstep ?_ (by assumption))))⟩
  · have hm := miB_yes (pzB_yes hp).1
    have h8 := (pzB_yes hp).2.1
    have HS2 := Lib.hid (HS.out hp)
    have HP := Lib.hid hp
    rw [hp] at HG
    clear hp HS
    cases hs : decide ((solL m cs).length = 1)
    · have e1 : hdB m cs = false := by rw [hdB, HP.out, hs]; rfl
      have e2 : hdL m cs = [] := by simp [hdL, e1]
      have e3 : hdM m cs = 0 := by simp [hdM, e1]
      have HSS := Lib.hid hs
      rw [e1, e2, e3]
      clear e1 e2 e3 hs HRC hn
      go_enter Try.func44, Try.ntmps44
      go_wp2_with fail
      refine (HG.out _ (by (repeat (first | with_reducible exact Below.refl _ _ | with_reducible assumption | with_reducible refine balloc ?_ _ | with_reducible refine bdrew ?_ | with_reducible refine below_drewN ?_ _ | with_reducible refine bset ?_ ?_ _ | with_reducible exact Nat.le_refl _ | with_reducible refine bsize ?_ | (dsimp only; refine Nat.le_trans ?_ (Nat.le_add_right _ _)) | with_reducible refine Nat.le_trans ?_ (Nat.le_add_right _ _) | (with_reducible refine bstep ?_ (by assumption)))))).mono ?_
      rintro e w1 ⟨rfl, hb1⟩
      have hby1 : Blk w.heap.size #[.int .i64 m, .slice a0 cs.length c0] 41 w1 := ((Blk.new w _ _).alloc _).later hb1
      have hbx1 : Blk (w.heap.size + 1) #[.int .i64 0, .slice none 0 0] 41 w1 := Blk.later (by have h := Blk.new (w.alloc (.cells #[.int .i64 m, .slice a0 cs.length c0] 41)) #[.int .i64 0, .slice none 0 0] 41; rw [World.size_alloc] at h; exact h) hb1
      have hbw1 : Below w.heap.size w w1 := by (repeat (first | with_reducible exact Below.refl _ _ | with_reducible assumption | with_reducible refine balloc ?_ _ | with_reducible refine bdrew ?_ | with_reducible refine below_drewN ?_ _ | with_reducible refine bset ?_ ?_ _ | with_reducible exact Nat.le_refl _ | with_reducible refine bsize ?_ | (dsimp only; refine Nat.le_trans ?_ (Nat.le_add_right _ _)) | with_reducible refine Nat.le_trans ?_ (Nat.le_add_right _ _) | (with_reducible refine bstep ?_ (by assumption))))
      have q0 := hby1.cell 0
      have q1 := hby1.cell 1
      simp at q0 q1
      clear hb1
      go_wp2_with fail
      refine (HS2.out _ _ cs (fun p h => h) (HR.out _ hbw1)).mono ?_
      rintro e w2 ⟨rfl, hb2⟩
      rw [HSS.out]
      have hbx2 := hbx1.later hb2
      have hbw2 := bstep hbw1 hb2
      have r0 := hbx2.cell 0
      have r1 := hbx2.cell 1
      have z0 := hbx2.frozen 0
      have z1 := hbx2.frozen 1
      simp at r0 r1
      clear hbx1 hby1 hb2 hbw1 q0 q1
      go_wp2
      refine bodyPost_ret (v := .tuple #[.agg #[.int .i64 0, .slice none 0 0], .bool false]) (by simp only [results, Try.results44]; go_simp) rfl ?_
      exact ⟨_, rfl, World.ownsRow_nil _ _ _ _, by (repeat (first | with_reducible exact Below.refl _ _ | with_reducible assumption | with_reducible refine balloc ?_ _ | with_reducible refine bdrew ?_ | with_reducible refine below_drewN ?_ _ | with_reducible refine bset ?_ ?_ _ | with_reducible exact Nat.le_refl _ | with_reducible refine bsize ?_ | (dsimp only; refine Nat.le_trans ?_ (Nat.le_add_right _ _)) | with_reducible refine Nat.le_trans ?_ (Nat.le_add_right _ _) | (with_reducible refine bstep ?_ (by assumption))))⟩
    · have e1 : hdB m cs = true := by rw [hdB, HP.out, hs]; rfl
      have e2 : hdL m cs = hdF m [] cs := by simp [hdL, e1]
      have e3 : hdM m cs = m := by simp [hdM, e1]
      have HSS := Lib.hid hs
      rw [e1, e2, e3]
      clear e1 e2 e3 hs
      obtain ⟨R, hR⟩ : ∃ R, Hid (hdF m [] cs = R) := ⟨_, Lib.hid rfl⟩
      rw [hR.out]
      rw [hn] at h8 HRC HR HG hl1 ⊢
      clear hn
      go_enter Try.func44, Try.ntmps44
      go_wp2_with fail
      refine (HG.out _ (by (repeat (first | with_reducible exact Below.refl _ _ | with_reducible assumption | with_reducible refine balloc ?_ _ | with_reducible refine bdrew ?_ | with_reducible refine below_drewN ?_ _ | with_reducible refine bset ?_ ?_ _ | with_reducible exact Nat.le_refl _ | with_reducible refine bsize ?_ | (dsimp only; refine Nat.le_trans ?_ (Nat.le_add_right _ _)) | with_reducible refine Nat.le_trans ?_ (Nat.le_add_right _ _) | (with_reducible refine bstep ?_ (by assumption)))))).mono ?_
      rintro e w1 ⟨rfl, hb1⟩
      have hby1 : Blk w.heap.size #[.int .i64 m, .slice a0 n c0] 41 w1 := ((Blk.new w _ _).alloc _).later hb1
      have hbx1 : Blk (w.heap.size + 1) #[.int .i64 0, .slice none 0 0] 41 w1 := Blk.later (by have h := Blk.new (w.alloc (.cells #[.int .i64 m, .slice a0 n c0] 41)) #[.int .i64 0, .slice none 0 0] 41; rw [World.size_alloc] at h; exact h) hb1
      have hbw1 : Below w.heap.size w w1 := by (repeat (first | with_reducible exact Below.refl _ _ | with_reducible assumption | with_reducible refine balloc ?_ _ | with_reducible refine bdrew ?_ | with_reducible refine below_drewN ?_ _ | with_reducible refine bset ?_ ?_ _ | with_reducible exact Nat.le_refl _ | with_reducible refine bsize ?_ | (dsimp only; refine Nat.le_trans ?_ (Nat.le_add_right _ _)) | with_reducible refine Nat.le_trans ?_ (Nat.le_add_right _ _) | (with_reducible refine bstep ?_ (by assumption))))
      have q0 := hby1.cell 0
      have q1 := hby1.cell 1
      simp at q0 q1
      clear hb1
      go_wp2_with fail
      refine (HS2.out _ _ cs (fun p h => h) (HR.out _ hbw1)).mono ?_
      rintro e w2 ⟨rfl, hb2⟩
      rw [HSS.out]
      have hby2 := hby1.later hb2
      have hbx2 := hbx1.later hb2
      have hbw2 := bstep hbw1 hb2
      have HC2 := Lib.hid (HRC.out w2 hbw2)
      clear hbx1 hby1 hb2 hbw1 q0 q1
      have q1 := hby2.cell 1
      simp at q1
      have hzz2 := hbw2.size
      have hlt2 := hby2.lt
      go_wp2_with (at_builtin; refine wpList_append_any9 _ rfl _ _ 39 rfl w.heap.size 27 i0 (.agg #[.int .i64 0, .int .i64 0, .int .i64 0]) 3 24 Try.underlying39 hi hz0 hz1 hz2 rfl (by decide) (.slice (some ⟨w2.heap.size, 0, none⟩) 0 0) 0 [] rfl ?own a0 n c0 (cellsG fClue cs) ?c0 ?c9 ?c8 ?c7 (cellsG_one _ _) ?c3 ?c4 ?c5 ?_)
      case c0 => simp [Act.eval, Act.put]
      case own => exact World.ownsRow_made (size := 3) w2 #[] 0 hbw2.size (by unfold maxLen; omega) rfl
      case c9 => exact HC2.out.1
      case c8 => exact HC2.out.2.1
      case c7 => exact fun ad e j u hu => ((balloc (Below.refl _ w2) _).cell (cell_lt (HC2.out.2.2 ad e j u hu))).trans (HC2.out.2.2 ad e j u hu)
      case c3 => unfold maxLen; omega
      case c4 => omega
      case c5 => simp; omega
      intro v4 w4 hown4 hgr4
      have hbA : Below w2.heap.size w2 (w2.alloc (.cells #[] 27)) := balloc (Below.refl _ _) _
      have hoA : (w2.alloc (.cells #[] 27)).ownsRow w.heap.size 27 3 (.slice (some ⟨w2.heap.size, 0, none⟩) 0 0) 0 [] := World.ownsRow_made (size := 3) w2 #[] 0 hbw2.size (by unfold maxLen; omega) rfl
      have hbw4 : Below w.heap.size w w4 := grown_bel (bstep hbw2 hbA) hgr4 hoA (Nat.le_refl _)
      have hby4 : Blk w.heap.size #[.int .i64 m, .slice a0 n c0] 41 w4 := (hgr4.block _ (hby2.later hbA).lt (fun e => neT hoA (hby2.later hbA) (by decide) e.symm)).trans (hby2.later hbA)
      have hbx4 : Blk (w.heap.size + 1) #[.int .i64 0, .slice none 0 0] 41 w4 := (hgr4.block _ (hbx2.later hbA).lt (fun e => neT hoA (hbx2.later hbA) (by decide) e.symm)).trans (hbx2.later hbA)
      have hown4' : w4.ownsRow w.heap.size 27 3 v4 n (cellsG fClue cs) := by simpa using hown4
      have hR0 : Hid (hdF m (cs.take 0) (cs.drop 0) = R) := hR
      obtain ⟨v4a, v4c, rfl⟩ := owns_shape hown4'
      clear hbA hoA hown4 hgr4 hbx2 hby2 hbw2 q1 HC2
      go_wp2
      go_loopw [4, 5, 6] (fun cl x _ wr => ∃ (k nk : Nat) (v6 : Value) (L : List ClueV), v6 = cl ∧ x = .int .i64 k ∧ k ≤ nk ∧ nk ≤ n ∧ Hid (L.length = nk) ∧ Hid (∀ p ∈ L, p ∈ cs) ∧ Hid (hdF m (L.take k) (L.drop k) = R) ∧ wr.ownsRow w.heap.size 27 3 v6 nk (cellsG fClue L) ∧ Blk w.heap.size #[.int .i64 m, .slice a0 n c0] 41 wr ∧ Blk (w.heap.size + 1) #[.int .i64 0, .slice none 0 0] 41 wr ∧ Below w.heap.size w wr) (fun cl x _ _ => lenV cl - (intOf x).toNat)
      case atStart => exact ⟨0, n, _, cs, rfl, rfl, Nat.zero_le _, Nat.le_refl _, HN, Lib.hid (fun p h => h), hR0, hown4', hby4, hbx4, hbw4⟩
      case round =>
        obtain ⟨k, nk, v6, L, rfl, rfl, hk, hnk, hLl, hLs, hLR, hown6, hby6, hbx6, hbw6⟩ := hrel
        clear hbw4 hby4 hbx4 hown4' hR0
        have hrw6 : RowG 3 fClue wr v6 L := rowG_own fClue_len (by rw [hLl.out]; exact hown6) (fun p hp => HBD.out p (hLs.out p hp))
        obtain ⟨v6a, v6c, rfl⟩ := owns_shape hown6
        have q0 := hby6.cell 0
        simp at q0
        by_cases hlt : k < nk
        · have hkL : k < L.length := by rw [hLl.out]; exact hlt
          obtain ⟨a, cap, hva, hL⟩ := rowG_some hrw6 (by omega)
          injection hva with e1 e2 e3
          subst e1 e3
          have HW := Lib.hid (without_spec a v6c L k hkL (by omega) wr hL)
          rw [hLl.out] at HW
          have hst := Lib.hid (hd_step (m := m) hkL)
          have hwl := Lib.hid (woL_len hkL)
          clear hL hrw6 e2
          go_wp2_with fail
          refine Calls.mono HW.out ?_
          rintro e w5 ⟨v5, rfl, hown5, hb5⟩
          have hown5' : w5.ownsRow wr.heap.size 27 3 v5 (woL L k).length (cellsG fClue (woL L k)) := hown5
          have hrw5 : RowG 3 fClue w5 v5 (woL L k) := rowG_own fClue_len hown5' (fun p hp => HBD.out p (hLs.out p (woL_mem hp)))
          have hwlen := Lib.hid (show (woL L k).length = nk - 1 by rw [hwl.out, hLl.out])
          rw [hwlen.out] at hown5'
          obtain ⟨v5a, v5c, rfl⟩ := owns_shape hown5'
          have hby5 := hby6.later hb5
          have hbx5 := hbx6.later hb5
          have hbw5 := bstep hbw6 hb5
          have hown6' := ownsRow_below hown6 hb5
          have HSW := Lib.hid (HS2.out _ _ (woL L k) (fun p h => hLs.out p (woL_mem h)) hrw5)
          clear hown5 hrw5 HW hwl q0 hown6 hby6 hbx6
          have q0 := hby5.cell 0
          simp at q0
          go_wp2_with fail
          refine Calls.mono HSW.out ?_
          rintro e w6 ⟨rfl, hb6⟩
          have hby6 := hby5.later hb6
          have hbx6 := hbx5.later hb6
          have hbw7 := bstep hbw5 hb6
          have hown7 := own_mono (ownsRow_below hown5' hb6) hbw6.size
          have hown8 := ownsRow_below hown6' hb6
          clear hby5 hbx5 hown5' hown6' q0
          by_cases hq : (solL m (woL L k)).length = 1
          · have hd : decide ((solL m (woL L k)).length = 1) = true := by simpa using hq
            rw [hd]
            have hnx := Lib.hid ((hst.out.1 hq).symm.trans hLR.out)
            clear hst hq hd HSW
            go_wp2
            go_roundw
            case rel => exact ⟨k, nk - 1, _, woL L k, rfl, rfl, by omega, by omega, hwlen, Lib.hid (fun p h => hLs.out p (woL_mem h)), hnx, hown7, hby6, hbx6, hbw7⟩
            case measure => simp [intOf, lenV]; omega
          · have hd : decide ((solL m (woL L k)).length = 1) = false := by simpa using hq
            rw [hd]
            have hnx := Lib.hid ((hst.out.2 hq).symm.trans hLR.out)
            clear hst hq hd HSW
            go_wp2
            go_roundw
            case rel => exact ⟨k + 1, nk, _, L, rfl, by go_num, by omega, by omega, hLl, hLs, hnx, hown8, hby6, hbx6, hbw7⟩
            case measure => simp [intOf, lenV]; omega
        · have hkn : k = nk := by omega
          subst hkn
          have hRL : Hid (R = L) := Lib.hid (by rw [← hLR.out, List.take_of_length_le (by rw [hLl.out]; exact Nat.le_refl _), List.drop_of_length_le (by rw [hLl.out]; exact Nat.le_refl _), hdF])
          have r0 := hbx6.cell 0
          have r1 := hbx6.cell 1
          have z0 := hbx6.frozen 0
          have z1 := hbx6.frozen 1
          simp at r0 r1
          have hne := neT (b := w.heap.size + 1) hown6 hbx6 (by decide)
          go_wp2
          refine bodyPost_ret (v := .tuple #[.agg #[.int .i64 m, .slice v6a k v6c], .bool true]) (by simp only [results, Try.results44]; go_simp) rfl ?_
          exact ⟨_, rfl, by rw [hRL.out, hLl.out]; exact own_set (p := ⟨w.heap.size + 1, 1, none⟩) (own_set (p := ⟨w.heap.size + 1, 0, none⟩) hown6 hne _) hne _, by (repeat (first | with_reducible exact Below.refl _ _ | with_reducible assumption | with_reducible refine balloc ?_ _ | with_reducible refine bdrew ?_ | with_reducible refine below_drewN ?_ _ | with_reducible refine bset ?_ ?_ _ | with_reducible exact Nat.le_refl _ | with_reducible refine bsize ?_ | (dsimp only; refine Nat.le_trans ?_ (Nat.le_add_right _ _)) | with_reducible refine Nat.le_trans ?_ (Nat.le_add_right _ _) | (with_reducible refine bstep ?_ (by assumption))))⟩
end Go.Proofs.Ytiafmojmanhdoaa
