/- Roads: what a law writes into one. -/
import Derived.Test.YtmdeaphffnolhaaRoadS
import Derived.Test.YtmdeaphffnolhaaRInt
import Derived.Test.YtmdeaphffnolhaaAns2
import Derived.Deep.RegionHeld3
import Derived.Deep.DeepCutAuto
namespace Go.Proofs.Ytmdeaphffnolhaa
open Go.ChangeShapes Go.WideShapes Go.ChangeAt Go.RowKit Go.Joins
set_option maxRecDepth 100000
set_option linter.unusedVariables false
set_option linter.unusedSimpArgs false

theorem grown_alloc (w : World) (o : Obj) (row : Option Nat) : w.grownBy (w.alloc o) row :=
  ⟨rfl, rfl, rfl, by simp, fun k hk _ => Below.heap_alloc w o k hk⟩
theorem RdAt.grown {g : Nat} {n d : Int} {v : Value} {W W' : World} (h : RdAt g n d v W) {row : Option Nat} (hg : W.grownBy W' row) (hne : some g ≠ row) : RdAt g n d v W' :=
  ⟨hg.cell h.1 hne, hg.cell h.2.1 hne, hg.cell h.2.2.1 hne, Nat.lt_of_lt_of_le h.2.2.2 hg.size⟩
set_option maxHeartbeats 800000 in
theorem markRoad_any (n d : Int) (base k : Nat) (v : Value) (s : Int) (xs : List Value) (w : World) (hn : k ≤ 1048576) (s0 : 0 ≤ s) (s1 : s ≤ 100000000) (hown : w.ownsRow base 29 2 v k xs) :
    Calls Try.prog 26 #[.agg #[.int .i64 n, .int .i64 d, v], .int .i64 s] w fun e w' => e = .returned (.int .i64 (s + 2 * (k : Int))) ∧ w.grownBy w' v.ownBlock ∧
      ∃ ys, w'.ownsRow base 29 2 v k ys ∧ ∀ i : Nat, i < k * 2 → ys[i]? = some (.int .i64 (s + (i : Int))) := by
  have HM := Lib.hid (fun W (h : W.ownsRow base 29 2 v k xs) => markr_amts base k v s xs W hn s0 s1 h)
  go_enter Try.func26, Try.ntmps26
  go_wp2_with fail
  refine (HM.out _ (hown.alloc _)).mono ?_
  rintro e w1 ⟨rfl, hgr, ys, hY, hall⟩
  have hg2 := grown_trans (grown_alloc w (.cells #[.int .i64 n, .int .i64 d, v] 32) v.ownBlock) hgr
  have HA := Lib.hid hall
  clear hall hgr
  go_wp2
  go_ret
  exact ⟨rfl, hg2, ys, hY, HA.out⟩
end Go.Proofs.Ytmdeaphffnolhaa
