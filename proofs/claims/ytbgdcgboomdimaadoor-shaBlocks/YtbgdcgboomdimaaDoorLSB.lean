/- The law ShaBlocks: its walk. -/
import Derived.Test.YtbgdcgboomdimaaDoorRB2
import Derived.Test.YtbgdcgboomdimaaDoorSW
import Derived.Test.YtbgdcgboomdimaaDoorSR
namespace Go.Proofs.YtbgdcgboomdimaaDoor
open Go.RowKit
set_option linter.unusedVariables false
set_option linter.unusedSimpArgs false
theorem c32b : Tryd.prog.cellsOf 31 = 1 := by kernel_rfl
theorem c8w : Tryd.prog.cellsOf 32 = 8 := by kernel_rfl
theorem kl32 (ds : List Nat) (hd : WW 8 ds) : ∃ la, Tryd.prog.keyLits 2 32 (U32 ds) = some la := by
  have hl : (U32 ds).length = 8 := by rw [U32_len]; exact hd.len
  have hm : ∃ bs, (List.range 8).mapM (fun i => Tryd.prog.keyLits 1 31 (((U32 ds).drop (i * 1)).take 1)) = some bs := mapM_some _ _ fun i hi => by
    have hi : i < 8 := List.mem_range.1 hi
    have e : ((U32 ds).drop (i * 1)).take 1 = [.int .u32 ((ds.getD i 0 : Nat) : Int)] := by
      rw [Nat.mul_one, List.drop_eq_getElem_cons (by omega)]
      have := U32_get ds i (by rw [hd.len]; exact hi)
      rw [List.getElem?_eq_getElem (by omega)] at this
      rw [Option.some.inj this]; rfl
    have hw : (Lit.int .u32 ((ds.getD i 0 : Nat) : Int)).wf = true := by
      have : ds.getD i 0 < 4294967296 := hd.lt i
      obtain ⟨z, ez⟩ : ∃ z, ds.getD i 0 = z := ⟨_, rfl⟩
      rw [ez] at this ⊢
      simp [Lit.wf, IntKind.min, IntKind.max, IntKind.signed, IntKind.bits]; omega
    rw [e]
    exact ⟨_, by unfold Program.keyLits; rw [Tryd.underlying31]; simp only [hw]; simp; rfl⟩
  obtain ⟨bs, hbs⟩ := hm
  refine ⟨bs.flatten, ?_⟩
  unfold Program.keyLits
  rw [Tryd.underlying32]
  simp only [hl, c8w, c32b, if_true, hbs, Option.map_some]
theorem eqW8 (ds : List Nat) (hd : WW 8 ds) (w : World) : (Op.equal 32 (.agg (U32 ds).toArray) (.agg (U32 ds).toArray)).run Tryd.prog w = .ok true w := by
  obtain ⟨la, hla⟩ := kl32 ds hd
  have hf : (Value.agg (U32 ds).toArray).formed Tryd.prog 32 = true := by
    simp [Value.formed, Tryd.underlying32, c8w, U32_len, hd.len]
  obtain ⟨r, hr, hiff⟩ := run_equalIn_deep 9998 2 32 (by kernel_rfl) w 2 2 (.agg (U32 ds).toArray) (.agg (U32 ds).toArray) la la hf hf (by simpa [Value.cells] using hla) (by simpa [Value.cells] using hla)
  have : r = true := hiff.2 rfl
  subst this
  exact hr
theorem gW8 : Tryd.prog.eqGuardType Tryd.prog.depth 32 = false := by kernel_rfl
theorem eql_W8 (ds : List Nat) (hd : WW 8 ds) (p q : Operand) (w : World) : (do eqGuard .eql 32 p q (.agg (U32 ds).toArray) (.agg (U32 ds).toArray); binOp .eql 32 (.agg (U32 ds).toArray) (.agg (U32 ds).toArray) : Sem Value).run Tryd.prog w = .ok (.bool true) w := by
  have h := eqW8 ds hd w
  have hp : ∀ w, Sem.run Tryd.prog (Sem.program Sem.pure) w = .ok Tryd.prog w := fun _ => rfl
  simp [eqGuard, binOp, program, hp, gW8, h]
set_option maxRecDepth 100000 in
set_option maxHeartbeats 4000000 in
theorem shaBlocks_core (ss bs ds : List Nat) (w : World) (hss : ss.length = 8) (hbs : bs.length = 64) (hdW : WW 8 ds) (hB1 : Hid (∀ (u : World), Below w.heap.size w u → Calls Tryd.prog 22 #[.agg (U32 (ss)).toArray, .agg (U8 (bs)).toArray] u fun e u' => e = .returned (.agg (U32 (ds)).toArray) ∧ Below u.heap.size u u')) (hB2 : Hid (∀ (u : World), Calls Tryd.prog 23 #[.agg (U32 (ss)).toArray, .agg (U8 (bs)).toArray] u fun e u' => e = .returned (.agg (U32 (ds)).toArray) ∧ Below u.heap.size u u')) (hW : Hid (∀ (u : World), Below w.heap.size w u → Calls Tryd.prog 21 #[] u fun e u' => e = .returned (.bool true) ∧ Below u.heap.size u u')) :
    Calls Tryd.prog 4 #[.agg (U32 (ss)).toArray, .agg (U8 (bs)).toArray] w fun e w' => e = .returned (.bool true) ∧ Below w.heap.size w w' := by
  go_enter Tryd.func4, Tryd.ntmps4
  go_upto_region 1 with fail
  generalize hC : ((w.alloc (.cells (U32 (ss) : List Value).toArray 32)).alloc (.cells (U8 (bs) : List Value).toArray 33)) = v0 at *
  have HB0 : Below w.heap.size w v0 := by rw [← hC]; exact balloc (balloc (bself w) _) _
  have K0 : Bk w.heap.size v0 [(true, w.heap.size, U32 (ss)), (true, w.heap.size + 1, U8 (bs))] := by rw [← hC]; exact (Bk.nil _ w).ad.ad
  clear hC
  refine rgD K0 HB0 HB0.size [] [] [(0, 5, .agg (U32 (ss)).toArray), (1, 6, .agg (U8 (bs)).toArray), (2, 7, .agg (U32 (ds)).toArray), (3, 8, .agg (U32 (ss)).toArray), (4, 9, .agg (U8 (bs)).toArray), (5, 10, .agg (U32 (ds)).toArray), (6, 11, .bool true), (7, 12, .bool true), (8, 13, .bool true), (9, 14, .bool true), (10, 4, .bool true)] [] [] [false, false] ?_ ?_
  · refine oc (g_lR 0 0 (cs := U32 (ss)) (fun j v h => by rw [Nat.zero_add]; exact h) Tryd.underlying32 (by rw [U32_len, hss]; exact info__8_uint32)) ?_
    refine oc (g_lR 1 0 (cs := U8 (bs)) (fun j v h => by rw [Nat.zero_add]; exact h) Tryd.underlying33 (by rw [U8_len, hbs]; exact info__64_uint8)) ?_
    refine oc (g_cb ent_sha_Block (fun uZ bZ => hB1.out uZ bZ)) ?_
    refine oc (g_lR 0 0 (cs := U32 (ss)) (fun j v h => by rw [Nat.zero_add]; exact h) Tryd.underlying32 (by rw [U32_len, hss]; exact info__8_uint32)) ?_
    refine oc (g_lR 1 0 (cs := U8 (bs)) (fun j v h => by rw [Nat.zero_add]; exact h) Tryd.underlying33 (by rw [U8_len, hbs]; exact info__64_uint8)) ?_
    refine oc (g_cl ent_seneschalref04_Block (fun uZ => hB2.out uZ)) ?_
    refine oc (g_bn (fun uZ => eql_W8 ds hdW _ _ uZ)) ?_
    refine oc g_mv ?_
    refine oc (g_cb ent_seneschallaw04_works (fun uZ bZ => hW.out uZ bZ)) ?_
    refine oc g_pk ?_
    exact oc g_as on
  intro u1 HB1 sz1 K1
  simp only [fX, nK, nP, Wr.f, aK, pM] at K1
  simp only [setG, setN, List.set_cons_zero, List.set_cons_succ]
  clear K0 HB0
  go_wp2
  refine bodyPost_ret (v := .bool true) (by simp [results, Tryd.results4, go_sem, ]) rfl ⟨rfl, HB1⟩
end Go.Proofs.YtbgdcgboomdimaaDoor
