/- The program's reading of a number. -/
import Derived.Test.YtffafiidblamkaaDoorText2
import Derived.Test.YtffafiidblamkaaDoorParse
import Derived.Lib.SmallJoins
namespace Go.Proofs.YtffafiidblamkaaDoor
open Go.ChangeShapes Go.WideShapes Go.ChangeAt Go.RowKit Go.Joins
set_option maxRecDepth 100000
set_option linter.unusedVariables false
set_option linter.unusedSimpArgs false

/-- What the library's functions want of the world. -/
structure EnvOk (w : World) : Prop where
  tab : TabOk w
  len : ∃ m, w.cell? ⟨0, 0, none⟩ = some (.int .i64 m)
  syn : ∃ tp p, w.cell? ⟨2, 0, none⟩ = some (.iface tp p)
  rng : ∃ tp p, w.cell? ⟨3, 0, none⟩ = some (.iface tp p)
theorem lt_of_cell {w : World} {a : Addr} {v : Value} (h : w.cell? a = some v) : a.block < w.heap.size := cell_lt h
theorem env_on {w w' : World} (h : EnvOk w) (hb : Below w.heap.size w w') : EnvOk w' := by
  obtain ⟨m, h1⟩ := h.len
  obtain ⟨t2, p2, h2⟩ := h.syn
  obtain ⟨t3, p3, h3⟩ := h.rng
  exact ⟨tab_on h.tab hb, ⟨m, keepa hb (lt_of_cell h1) h1⟩, ⟨t2, p2, keepa hb (lt_of_cell h2) h2⟩, ⟨t3, p3, keepa hb (lt_of_cell h3) h3⟩⟩
theorem atoi_good (s : ByteArray) (hs : s.size ≤ 1048576) (v : Int) (h : Lib.atoiAll s.data.toList = .ok v) (w : World) :
    Calls Tryd.prog 49 #[.string s] w fun e w' => e = .returned (.tuple #[.int .i64 v, .nilIface]) ∧ Below w.heap.size w w' := by
  refine (Tryd.strconv_Atoi_ok s (by omega) v h w).mono ?_
  rintro e w' ⟨rfl, h | ⟨t, h⟩⟩
  · subst h; exact ⟨rfl, Below.refl _ _⟩
  · subst h; exact ⟨rfl, below_bytesWorld _ w _ t (Nat.le_refl _)⟩
theorem atoi_bad (s : ByteArray) (hs : s.size ≤ 1048576) (h : ∀ v, Lib.atoiAll s.data.toList ≠ .ok v) (w : World) (he : EnvOk w) :
    Calls Tryd.prog 49 #[.string s] w fun e w' => ∃ (x : Int) (T : TypeId) (N : Nat), e = .returned (.tuple #[.int .i64 x, .iface T (.pointer (some ⟨N, 0, none⟩))]) ∧ Below w.heap.size w w' := by
  obtain ⟨t2, p2, h2⟩ := he.syn
  obtain ⟨t3, p3, h3⟩ := he.rng
  by_cases hr : Lib.atoiAll s.data.toList = .range
  · refine (Tryd.strconv_Atoi_range s (by omega) hr _ w h3 (Or.inr ⟨_, _, rfl⟩)).mono ?_
    rintro e w' ⟨N, rfl, _, _, hb⟩
    exact ⟨_, _, N, rfl, hb⟩
  · refine (Tryd.strconv_Atoi_none s (by omega) ⟨h, hr⟩ _ w h2 (Or.inr ⟨_, _, rfl⟩)).mono ?_
    rintro e w' ⟨N, rfl, _, _, hb⟩
    exact ⟨_, _, N, rfl, hb⟩
/-- The number that is read, or 0. -/
def rnI (l : List UInt8) : Int := if rdB l = true then rdG l else 0
theorem decS_text (l : List UInt8) (s : ByteArray) (e : s.data.toList = l) (h : rdB l = true) : decS (rdG l) = s := by
  obtain ⟨h1, _, _⟩ := rdB_dec l h
  unfold decS
  rw [← h1, ← e]
set_option maxHeartbeats 1600000 in
theorem readNum_impl (s : ByteArray) (hs : s.size ≤ 1048576) (w : World) (he : EnvOk w) :
    Calls Tryd.prog 40 #[.string s] w fun e w' => e = .returned (.tuple #[.int .i64 (rnI s.data.toList), .bool (rdB s.data.toList)]) ∧ Below w.heap.size w w' := by
  have HT := Lib.hid (fun (W : World) (h : Below w.heap.size w W) => env_on he h)
  cases hR : rdB s.data.toList
  · have e0 : rnI s.data.toList = 0 := by unfold rnI; rw [hR]; rfl
    rw [e0]
    by_cases hok : ∃ v, Lib.atoiAll s.data.toList = .ok v
    · obtain ⟨v, hv⟩ := hok
      have HA := Lib.hid (fun W => atoi_good s hs v hv W)
      have hbv := Lib.atoiAll_bounds hv
      have HI := Lib.hid (fun W => in_impl v 0 999999 W)
      by_cases hin : 0 ≤ v ∧ v ≤ 999999
      · have hi : inB v 0 999999 = true := by unfold inB; exact decide_eq_true hin
        have HD := Lib.hid (fun W t => itoa_dec v hin.1 (by omega) W t)
        have hne : ¬ decS v = s := fun e => by
          have h2 := dec_read v.toNat (by omega)
          have h3 : s.data.toList = Lib.decDigits v.toNat := by rw [← e]; unfold decS; simp
          rw [h3] at hR
          rw [h2] at hR
          cases hR
        rw [hi] at HI
        have hne2 : (decS v).toList = s.toList → False := fun e => hne (ByteArray.ext (Array.toList_inj.mp (by rw [← ByteArray.toList_eq, ← ByteArray.toList_eq]; exact e)))
        have hne3 : ((decS v).toList == s.toList) = false := beq_eq_false_iff_ne.mpr hne2
        generalize decS v = A at *
        clear hv hR e0 hi hin hne2 hne
        go_enter Tryd.func40, Tryd.ntmps40
        go_wp2_with fail
        refine (HA.out _).mono ?_
        rintro e1 w1 ⟨rfl, hb1⟩
        go_wp2_with fail
        refine (HI.out _).mono ?_
        rintro e1 w2 ⟨rfl, rfl⟩
        go_wp2_with fail
        refine (HD.out _ (HT.out _ (by (repeat (first | with_reducible exact Below.refl _ _ | with_reducible assumption | with_reducible refine balloc ?_ _ | with_reducible refine bdrew ?_ | with_reducible refine below_drewN ?_ _ | with_reducible refine bset ?_ ?_ _ | with_reducible exact Nat.le_refl _ | with_reducible refine bsize ?_ | (dsimp only; refine Nat.le_trans ?_ (Nat.le_add_right _ _)) | with_reducible refine Nat.le_trans ?_ (Nat.le_add_right _ _) | (with_reducible refine bstep ?_ (by assumption)))))).tab).mono ?_
        rintro e1 w3 ⟨rfl, hb3⟩
        go_wp2_with first | (rw [hne3]; rfl) | fail
        all_goals first | (exfalso; rename_i h; rw [hne3] at h; exact absurd h (by decide)) | skip
        refine bodyPost_ret (v := .tuple #[.int .i64 0, .bool false]) (by simp only [results, Tryd.results40]; go_simp) rfl ⟨rfl, ?_⟩
        (repeat (first | with_reducible exact Below.refl _ _ | with_reducible assumption | with_reducible refine balloc ?_ _ | with_reducible refine bdrew ?_ | with_reducible refine below_drewN ?_ _ | with_reducible refine bset ?_ ?_ _ | with_reducible exact Nat.le_refl _ | with_reducible refine bsize ?_ | (dsimp only; refine Nat.le_trans ?_ (Nat.le_add_right _ _)) | with_reducible refine Nat.le_trans ?_ (Nat.le_add_right _ _) | (with_reducible refine bstep ?_ (by assumption))))
      · have hi : inB v 0 999999 = false := by unfold inB; exact decide_eq_false hin
        rw [hi] at HI
        clear hv hR e0 hi hin
        go_enter Tryd.func40, Tryd.ntmps40
        go_wp2_with fail
        refine (HA.out _).mono ?_
        rintro e1 w1 ⟨rfl, hb1⟩
        go_wp2_with fail
        refine (HI.out _).mono ?_
        rintro e1 w2 ⟨rfl, rfl⟩
        go_wp2
        refine bodyPost_ret (v := .tuple #[.int .i64 0, .bool false]) (by simp only [results, Tryd.results40]; go_simp) rfl ⟨rfl, ?_⟩
        (repeat (first | with_reducible exact Below.refl _ _ | with_reducible assumption | with_reducible refine balloc ?_ _ | with_reducible refine bdrew ?_ | with_reducible refine below_drewN ?_ _ | with_reducible refine bset ?_ ?_ _ | with_reducible exact Nat.le_refl _ | with_reducible refine bsize ?_ | (dsimp only; refine Nat.le_trans ?_ (Nat.le_add_right _ _)) | with_reducible refine Nat.le_trans ?_ (Nat.le_add_right _ _) | (with_reducible refine bstep ?_ (by assumption))))
    · have HA := Lib.hid (fun W t => atoi_bad s hs (fun v hv => hok ⟨v, hv⟩) W t)
      clear hok hR e0
      go_enter Tryd.func40, Tryd.ntmps40
      go_wp2_with fail
      refine (HA.out _ (HT.out _ (by (repeat (first | with_reducible exact Below.refl _ _ | with_reducible assumption | with_reducible refine balloc ?_ _ | with_reducible refine bdrew ?_ | with_reducible refine below_drewN ?_ _ | with_reducible refine bset ?_ ?_ _ | with_reducible exact Nat.le_refl _ | with_reducible refine bsize ?_ | (dsimp only; refine Nat.le_trans ?_ (Nat.le_add_right _ _)) | with_reducible refine Nat.le_trans ?_ (Nat.le_add_right _ _) | (with_reducible refine bstep ?_ (by assumption))))))).mono ?_
      rintro e1 w1 ⟨x, T, N, rfl, hb1⟩
      go_wp2
      refine bodyPost_ret (v := .tuple #[.int .i64 0, .bool false]) (by simp only [results, Tryd.results40]; go_simp) rfl ⟨rfl, ?_⟩
      (repeat (first | with_reducible exact Below.refl _ _ | with_reducible assumption | with_reducible refine balloc ?_ _ | with_reducible refine bdrew ?_ | with_reducible refine below_drewN ?_ _ | with_reducible refine bset ?_ ?_ _ | with_reducible exact Nat.le_refl _ | with_reducible refine bsize ?_ | (dsimp only; refine Nat.le_trans ?_ (Nat.le_add_right _ _)) | with_reducible refine Nat.le_trans ?_ (Nat.le_add_right _ _) | (with_reducible refine bstep ?_ (by assumption))))
  · have e0 : rnI s.data.toList = rdG s.data.toList := by unfold rnI; rw [if_pos hR]
    have hv := atoi_read _ hR
    obtain ⟨_, h5, h6⟩ := rdB_dec _ hR
    have HA := Lib.hid (fun W => atoi_good s hs _ hv W)
    have HI := Lib.hid (fun W => in_impl (rdG s.data.toList) 0 999999 W)
    have hi : inB (rdG s.data.toList) 0 999999 = true := by unfold inB; exact decide_eq_true ⟨h5, h6⟩
    have HD := Lib.hid (fun W t => itoa_dec (rdG s.data.toList) h5 (by omega) W t)
    rw [decS_text _ s rfl hR] at HD
    rw [hi] at HI
    rw [e0]
    generalize rdG s.data.toList = v at *
    clear hv hR e0 hi
    go_enter Tryd.func40, Tryd.ntmps40
    go_wp2_with fail
    refine (HA.out _).mono ?_
    rintro e1 w1 ⟨rfl, hb1⟩
    go_wp2_with fail
    refine (HI.out _).mono ?_
    rintro e1 w2 ⟨rfl, rfl⟩
    go_wp2_with fail
    refine (HD.out _ (HT.out _ (by (repeat (first | with_reducible exact Below.refl _ _ | with_reducible assumption | with_reducible refine balloc ?_ _ | with_reducible refine bdrew ?_ | with_reducible refine below_drewN ?_ _ | with_reducible refine bset ?_ ?_ _ | with_reducible exact Nat.le_refl _ | with_reducible refine bsize ?_ | (dsimp only; refine Nat.le_trans ?_ (Nat.le_add_right _ _)) | with_reducible refine Nat.le_trans ?_ (Nat.le_add_right _ _) | (with_reducible refine bstep ?_ (by assumption)))))).tab).mono ?_
    rintro e1 w3 ⟨rfl, hb3⟩
    go_wp2
    refine bodyPost_ret (v := .tuple #[.int .i64 v, .bool true]) (by simp only [results, Tryd.results40]; go_simp) rfl ⟨rfl, ?_⟩
    (repeat (first | with_reducible exact Below.refl _ _ | with_reducible assumption | with_reducible refine balloc ?_ _ | with_reducible refine bdrew ?_ | with_reducible refine below_drewN ?_ _ | with_reducible refine bset ?_ ?_ _ | with_reducible exact Nat.le_refl _ | with_reducible refine bsize ?_ | (dsimp only; refine Nat.le_trans ?_ (Nat.le_add_right _ _)) | with_reducible refine Nat.le_trans ?_ (Nat.le_add_right _ _) | (with_reducible refine bstep ?_ (by assumption))))
end Go.Proofs.YtffafiidblamkaaDoor
