/- Copies of bytes, and bytes that are the same. -/
import Derived.Test.YtbgdcgboomdimaaDoorMC4
namespace Go.Proofs.YtbgdcgboomdimaaDoor
open Go.RowKit
set_option linter.unusedVariables false
set_option linter.unusedSimpArgs false
set_option maxRecDepth 100000 in
set_option maxHeartbeats 4000000 in
theorem cShort5 (sl : Option Addr) (n cap m : Nat) (w : World) (hmin : min (n : Int) 300 = (m : Int)) (hm : m ≤ n) (hc : n ≤ cap) (hsn : sl = none → cap = 0) :
    Calls Tryd.prog 26 #[.slice sl n cap] w fun e w' => e = .returned (.slice sl m cap) ∧ Below w.heap.size w w' := by
  go_enter Tryd.func26, Tryd.ntmps26
  have HB0 : Below w.heap.size w w := Below.refl _ _
  have K0_1 := Bk.nil (w.heap.size) w
  go_upto_region 1 with fail
  refine rgP K0_1 HB0 HB0.size [] [] [(0, 3, (.slice sl n cap)), (1, 4, (.slice sl n cap)), (2, 5, .int .i64 (n : Int)), (3, 6, .int .i64 (m : Int)), (4, 7, (.slice sl m cap)), (5, 2, (.slice sl m cap))] [] [] [] ?_ ?_
  · refine oc g_mv ?_
    refine oc g_mv ?_
    refine oc (g_ln Tryd.underlying22) ?_
    refine oc (g_mn hmin) ?_
    refine oc (g_sl (fun uZ => slHB sl n cap m hm hc hsn uZ)) ?_
    exact oc g_as on
  intro u1 HB1 sz1 K1
  simp only [fX, nK, nP, Wr.f, aK, pM] at K1
  simp only [setG, setN, List.set_cons_zero, List.set_cons_succ]
  clear HB0
  go_wp2
  refine bodyPost_ret (v := .slice sl m cap) (by simp [results, Tryd.results26, go_sem, ]) rfl ⟨rfl, HB1⟩
end Go.Proofs.YtbgdcgboomdimaaDoor
