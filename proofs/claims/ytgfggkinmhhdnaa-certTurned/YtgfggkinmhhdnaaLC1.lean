/- CertTells: the walk. -/
import Derived.Test.YtgfggkinmhhdnaaRC
import Derived.Test.YtgfggkinmhhdnaaCTA
import Derived.Test.YtgfggkinmhhdnaaCT8
namespace Go.Proofs.Ytgfggkinmhhdnaa
open Go.RowKit
set_option linter.unusedVariables false
set_option linter.unusedSimpArgs false
theorem eql_b (p q : Operand) (x : Bool) (w : World) : (do eqGuard .eql 4 p q (.bool x) (.bool x); binOp .eql 4 (.bool x) (.bool x) : Sem Value).run Try.prog w = .ok (.bool true) w := by cases x <;> go_simp
theorem ent_seneschalref03_Small (vs : Array Value) (w : World) : (callFunc 10 vs).run Try.prog w = .ok (.enter 10 vs) w := by kernel_rfl
theorem ent_seneschalref03_Step (vs : Array Value) (w : World) : (callFunc 12 vs).run Try.prog w = .ok (.enter 12 vs) w := by kernel_rfl
theorem ent_seneschallaw03_works (vs : Array Value) (w : World) : (callFunc 13 vs).run Try.prog w = .ok (.enter 13 vs) w := by kernel_rfl
set_option maxRecDepth 100000 in
set_option maxHeartbeats 4000000 in
theorem certTells_any (n m f a : Int) (w : World) (hn : In n) (hm : In m) (hf : In f) (ha : In a) : Calls Try.prog 3 #[NV n, CX m f a] w fun e w' => e = .returned (.bool true) ∧ Below w.heap.size w w' := by
  go_enter Try.func3, Try.ntmps3
  go_upto_region 1 with fail
  generalize hC : ((w.alloc (.cells (LN n : List Value).toArray 24)).alloc (.cells (CE (m) (f) (a) : List Value).toArray 26)) = v0 at *
  have HB0 : Below w.heap.size w v0 := by rw [← hC]; exact balloc (balloc (bself w) _) _
  have K0 : Bk w.heap.size v0 [(true, w.heap.size, LN n), (true, w.heap.size + 1, CE (m) (f) (a))] := by rw [← hC]; exact (Bk.nil _ w).ad.ad
  clear hC
  refine rgD K0 HB0 HB0.size [] [] [(0, 5, NV n), (1, 6, .bool (smB n)), (2, 7, NV n), (3, 8, .bool (smB n)), (4, 9, .bool true), (5, 10, .bool true), (6, 11, CX (m) (f) (a)), (7, 12, .bool (stB m f a)), (8, 13, CX (m) (f) (a)), (9, 14, .bool (stB m f a)), (10, 15, .bool true), (11, 16, .bool true), (12, 17, .bool true), (13, 18, .bool true), (14, 19, .bool true), (15, 4, .bool true)] [] [] [false, false] ?_ ?_
  · refine oc (g_ld 0 uN iN) ?_
    refine oc (g_cl ent_cert_Small (fun uZ => cSmall n uZ hn)) ?_
    refine oc (g_ld 0 uN iN) ?_
    refine oc (g_cl ent_seneschalref03_Small (fun uZ => xSmall n uZ hn)) ?_
    refine oc (g_bn (fun uZ => eql_b _ _ (smB n) uZ)) ?_
    refine oc g_mv ?_
    refine oc (g_ld 1 Try.underlying26 info_api_Cert) ?_
    refine oc (g_cl ent_cert_Step (fun uZ => cStep m f a uZ hm hf ha)) ?_
    refine oc (g_ld 1 Try.underlying26 info_api_Cert) ?_
    refine oc (g_cl ent_seneschalref03_Step (fun uZ => xStep m f a uZ hm hf ha)) ?_
    refine oc (g_bn (fun uZ => eql_b _ _ (stB m f a) uZ)) ?_
    refine oc g_pk ?_
    refine oc g_mv ?_
    refine oc (g_cl ent_seneschallaw03_works (fun uZ => works3 uZ)) ?_
    refine oc g_pk ?_
    exact oc g_as on
  intro u1 HB1 sz1 K1
  simp only [fX, nK, nP, Wr.f, aK, pM] at K1
  simp only [setG, setN, List.set_cons_zero, List.set_cons_succ]
  clear K0 HB0
  go_wp2
  refine bodyPost_ret (v := .bool true) (by simp [results, Try.results3, go_sem, ]) rfl ⟨rfl, HB1⟩
end Go.Proofs.Ytgfggkinmhhdnaa
