/- AES: what a round does with a block. -/
import Derived.Test.YtlcjbnhfmcnnfaaDoorAE2
namespace Go.Proofs.YtlcjbnhfmcnnfaaDoor
open Go.RowKit
set_option linter.unusedVariables false
set_option linter.unusedSimpArgs false
/-- A block, byte by byte put anew. -/
def upB (l : List Nat) (f : Nat → Nat) : Nat → List Nat
  | 0 => l
  | i + 1 => (upB l f i).set i (f i)
theorem upB_len (l : List Nat) (f : Nat → Nat) : ∀ i, (upB l f i).length = l.length
  | 0 => rfl
  | i + 1 => by rw [upB, List.length_set]; exact upB_len l f i
theorem upB_get (l : List Nat) (f : Nat → Nat) : ∀ i, i ≤ l.length → ∀ j, (upB l f i).getD j 0 = if j < i then f j else l.getD j 0
  | 0, _, j => by rw [upB, if_neg (by omega)]
  | i + 1, h, j => by
    rw [upB, gset, upB_len, upB_get l f i (by omega) j]
    by_cases h1 : i = j
    · subst h1; rw [if_pos ⟨rfl, by omega⟩, if_pos (by omega)]
    · rw [if_neg (fun h => h1 h.1)]
      by_cases h2 : j < i
      · rw [if_pos h2, if_pos (by omega)]
      · rw [if_neg h2, if_neg (by omega)]
theorem upB_16 {l : List Nat} (hl : l.length = 16) (f : Nat → Nat) : upB l f 16 = (List.range 16).map f :=
  ext_n (by rw [upB_len, hl]) (by simp) fun i hi => by rw [upB_get l f 16 (by omega) i, if_pos hi, rm_get 16 f hi]
theorem upB_B {n : Nat} {l : List Nat} (h : BY n l) {f : Nat → Nat} (hf : ∀ i, f i < 256) : ∀ i, BY n (upB l f i)
  | 0 => h
  | i + 1 => (upB_B h hf i).set _ _ (hf i)
set_option maxRecDepth 100000 in
set_option maxHeartbeats 4000000 in
theorem cXored_core (ls ks : List Nat) (sA : Nat → List Nat) (w : World) (hll : ls.length = 16) (hkl : ks.length = 16) (hkb : ∀ j, ks.getD j 0 < 256) (hA0 : Hid (sA 0 = ls)) (hAs : Hid (∀ k, sA (k + 1) = (sA k).set k (ls.getD k 0 ^^^ ks.getD k 0))) (hAW : Hid (∀ k, BY 16 (sA k))) (hAg : Hid (∀ k, k < 16 → (sA k).getD k 0 = ls.getD k 0)) :
    Calls Tryd.prog 34 #[.agg (U8 (ls)).toArray, .agg (U8 (ks)).toArray] w fun e w' => e = .returned (.agg (U8 (sA 16)).toArray) ∧ Below w.heap.size w w' := by
  go_enter Tryd.func34, Tryd.ntmps34
  go_upto_region 1 with fail
  generalize hC : (((w.alloc (.cells (U8 (ls) : List Value).toArray 32)).alloc (.cells (U8 (ks) : List Value).toArray 32)).alloc (.cells (Z16b : List Value).toArray 32)) = v0 at *
  have HB0 : Below w.heap.size w v0 := by rw [← hC]; exact balloc (balloc (balloc (bself w) _) _) _
  have K0 : Bk w.heap.size v0 [(true, w.heap.size, U8 (ls)), (true, w.heap.size + 1, U8 (ks)), (true, w.heap.size + 1 + 1, U8 (z16))] := by rw [← hC]; exact (Bk.nil _ w).ad.ad.ad
  clear hC
  go_upto_region 1 with fail
  refine rgP K0 HB0 HB0.size [] [] [(0, 7, .agg (U8 (ks)).toArray), (1, 8, (Go.Value.int Go.IntKind.i64 0))] [] [] [true, false] ?_ ?_
  · refine oc (g_lR 1 0 (cs := U8 (ks)) (fun j v h => by rw [Nat.zero_add]; exact h) Tryd.underlying32 (by rw [U8_len, hkl]; exact info__16_uint8)) ?_
    exact oc g_mv on
  intro u1 HB1 sz1 K1
  simp only [fX, nK, nP, Wr.f, aK, pM] at K1
  simp only [setG, setN, List.set_cons_zero, List.set_cons_succ]
  clear K0 HB0
  go_wp2_with fail
  go_loopw [8] (fun s8 wr => ∃ (k : Nat), k ≤ 16 ∧ s8 = .int .i64 (k : Int) ∧ Below w.heap.size w wr ∧ Hid (CV wr (w.heap.size) (U8 (sA k))) ∧ Hid (CV wr (w.heap.size + 1 + 1) (U8 (z16))) ∧ w.heap.size + 1 + 1 < wr.heap.size) (fun s8 _ => 16 - (intOf s8).toNat)
  case atStart => exact ⟨0, by omega, rfl, HB1, (by rw [hA0.out]; exact (K1.cv 0)), (K1.cv 1), (K1.lt 1)⟩
  case round =>
    obtain ⟨k, hk, rfl, HBr, Kb, Kr, lr⟩ := hrel
    clear HB1
    by_cases hj : k < 16
    · have hl1 : decide ((k : Int) < 16) = true := by simp; omega
      have hW := hAW.out k
      have hA := hAs.out k
      have hG := hAg.out k hj
      obtain ⟨ws, ews⟩ : ∃ ws, sA k = ws := ⟨_, rfl⟩
      rw [ews] at hW hA Kb hG
      have hlen := hW.len
      obtain ⟨v, ev0⟩ : ∃ v, ws.getD k 0 = v := ⟨_, rfl⟩
      have hv := hW.lt k
      have hg := U8_get ws k (by omega)
      rw [ev0] at hv hg hG
      obtain ⟨x, ex⟩ : ∃ x, ks.getD k 0 = x := ⟨_, rfl⟩
      have hx := hkb k
      have hix := fun (o : Oper) (ev : Operand → Value) (x z : Operand) u => @ix16v o ev 32 x z ks k u rfl
      rw [← hG, ex] at hA
      rw [ex] at hx
      rw [ex] at hix
      have hix : Hid _ := hix
      have hA : Hid _ := hA
      clear ews ev0 ex hG
      have hnK := K1.n
      simp at hnK
      have K1_1 : Bk w.heap.size wr [(true, w.heap.size, U8 (ws)), (false, w.heap.size + 1 + 1, U8 (z16))] := ⟨.o (by omega) (K1.lo 0) Kb.out <| .c lr Kr.out <| trivial, by simp <;> omega⟩
      go_upto_region 2 with fail
      refine rgP K1_1 HBr HBr.size [] [] [(0, 9, .bool true)] [] [] [] ?_ ?_
      · exact oc (g_bn (fun uZ => lss_i _ _ (k : Int) 16 _ uZ hl1)) on
      intro u2 HB2 sz2 K2
      simp only [fX, nK, nP, Wr.f, aK, pM] at K2
      simp only [setG, setN, List.set_cons_zero, List.set_cons_succ]
      go_upto_region 3 with fail
      refine rgP K2 HB2 HB2.size [] [] [(0, 10, .int .i64 (k : Int)), (1, 11, .int .u8 ((x : Nat) : Int)), (2, 5, .int .i64 (k : Int)), (3, 6, .int .u8 ((x : Nat) : Int))] [] [] [] ?_ ?_
      · refine oc g_mv ?_
        refine oc (g_op (fun ev uZ he => hix.out _ ev _ _ uZ rfl (he _ _ rfl) (he _ _ rfl) hkl hj)) ?_
        refine oc g_as ?_
        exact oc g_as on
      intro u3 HB3 sz3 K3
      simp only [fX, nK, nP, Wr.f, aK, pM] at K3
      simp only [setG, setN, List.set_cons_zero, List.set_cons_succ]
      clear K2 HB2
      go_upto_region 4 with fail
      refine rgP K3 HB3 HB3.size [.all 6 (U8 (ws.set k (v ^^^ x)))] [] [(0, 12, .int .i64 (k : Int)), (1, 13, .pointer (some ⟨w.heap.size, k, none⟩)), (2, 14, .int .u8 ((v : Nat) : Int)), (3, 15, .int .u8 ((x : Nat) : Int)), (4, 16, .int .u8 ((v ^^^ x : Nat) : Int)), (5, 17, .pointer (some ⟨w.heap.size, k, none⟩))] [(6, 2)] [] [] ?_ ?_
      · refine oc g_mv ?_
        refine oc (g_ix (fun uZ => xb16 (w.heap.size) k uZ hj)) ?_
        refine oc (g_lw 0 (k) l8 (hg)) ?_
        refine oc g_mv ?_
        refine oc (g_bn (fun uZ => xor8 _ _ v x uZ hv hx)) ?_
        refine oc (g_ix (fun uZ => xb16 (w.heap.size) k uZ hj)) ?_
        exact oc (g_sw 0 (k) s8 (hg) (U8_set _ _ _)) on
      intro u4 HB4 sz4 K4
      simp only [fX, nK, nP, Wr.f, aK, pM] at K4
      simp only [setG, setN, List.set_cons_zero, List.set_cons_succ]
      clear K3 HB3
      go_upto_region 5 with fail
      refine rgP K4 HB4 HB4.size [] [] [(0, 18, .int .i64 ((k + 1 : Nat) : Int)), (1, 8, .int .i64 ((k + 1 : Nat) : Int))] [(1, 0)] [(1, 8)] [] ?_ ?_
      · refine oc (g_bn (fun uZ => add_i _ _ (k : Int) 1 ((k + 1 : Nat) : Int) uZ (by omega) (by omega) (by omega))) ?_
        exact oc g_mv on
      intro u5 HB5 sz5 K5
      simp only [fX, nK, nP, Wr.f, aK, pM] at K5
      simp only [setG, setN, List.set_cons_zero, List.set_cons_succ]
      clear K4 HB4
      go_wp2
      refine ⟨⟨k + 1, by omega, rfl, HB5, (by rw [hA.out]; exact (K5.cv 0)), (K5.cv 1), (K5.lt 1)⟩, ?_⟩
      simp [intOf] <;> omega
    · have hl1 : decide ((k : Int) < 16) = false := by simp; omega
      have hk16 : k = 16 := by omega
      subst hk16
      have hWs : (sA 16).length = 16 := (hAW.out 16).len
      have hnK := K1.n
      simp at hnK
      have K1_1 : Bk w.heap.size wr [(false, w.heap.size, U8 (sA 16)), (true, w.heap.size + 1 + 1, U8 (z16))] := ⟨.c (by omega) Kb.out <| .o lr (K1.lo 1) Kr.out <| trivial, by simp <;> omega⟩
      go_upto_region 2 with fail
      refine rgP K1_1 HBr HBr.size [] [] [(0, 9, .bool false)] [] [] [] ?_ ?_
      · exact oc (g_bn (fun uZ => lss_i _ _ ((16 : Nat) : Int) 16 _ uZ hl1)) on
      intro u2 HB2 sz2 K2
      simp only [fX, nK, nP, Wr.f, aK, pM] at K2
      simp only [setG, setN, List.set_cons_zero, List.set_cons_succ]
      go_upto_region 6 with fail
      refine rgP K2 HB2 HB2.size [.no, .all 1 (U8 (sA 16))] [] [(0, 19, .agg (U8 (sA 16)).toArray)] [] [] [false] ?_ ?_
      · refine oc (g_lR 0 0 (cs := U8 (sA 16)) (fun j v h => by rw [Nat.zero_add]; exact h) Tryd.underlying32 (by rw [U8_len, hWs]; exact info__16_uint8)) ?_
        exact oc (g_st 1 info__16_uint8 (h1 := U8_one _) (hm := by rw [U8_len, hWs]) (hl := by first | rw [U8_len, U8_len, hWs, show z16.length = 16 from rfl] | rfl)) on
      intro u3 HB3 sz3 K3
      simp only [fX, nK, nP, Wr.f, aK, pM] at K3
      simp only [setG, setN, List.set_cons_zero, List.set_cons_succ]
      clear K2 HB2
      go_wp2
      refine bodyPost_ret (res_cell Tryd.results34 rfl (K3.cv 0) Tryd.underlying32 rfl (by rw [U8_len, hWs]; exact info__16_uint8)) rfl ⟨rfl, HB3⟩
theorem cXored (ls ks : List Nat) (w : World) (hl : BY 16 ls) (hk : BY 16 ks) : Calls Tryd.prog 34 #[.agg (U8 (ls)).toArray, .agg (U8 (ks)).toArray] w fun e w' => e = .returned (.agg (U8 (xorB ls ks)).toArray) ∧ Below w.heap.size w w' := by
  have e : upB ls (fun i => ls.getD i 0 ^^^ ks.getD i 0) 16 = xorB ls ks := upB_16 hl.len _
  rw [← e]
  exact cXored_core ls ks (upB ls fun i => ls.getD i 0 ^^^ ks.getD i 0) w hl.len hk.len hk.lt rfl (fun _ => rfl) (upB_B hl fun i => xr8 (hl.lt i) (hk.lt i)) (fun k h => by rw [upB_get _ _ _ (by rw [hl.len]; omega), if_neg (by omega)])
set_option maxRecDepth 100000 in
set_option maxHeartbeats 4000000 in
theorem cSubsd_core (ls : List Nat) (sA : Nat → List Nat) (w : World) (hV : GS6 w) (hll : ls.length = 16) (hlb : ∀ j, ls.getD j 0 < 256) (hA0 : Hid (sA 0 = ls)) (hAs : Hid (∀ k, sA (k + 1) = (sA k).set k (sbT.getD (ls.getD k 0) 0))) (hAW : Hid (∀ k, BY 16 (sA k))) :
    Calls Tryd.prog 32 #[.agg (U8 (ls)).toArray] w fun e w' => e = .returned (.agg (U8 (sA 16)).toArray) ∧ Below w.heap.size w w' := by
  go_enter Tryd.func32, Tryd.ntmps32
  go_upto_region 1 with fail
  generalize hC : ((w.alloc (.cells (U8 (ls) : List Value).toArray 32)).alloc (.cells (Z16b : List Value).toArray 32)) = v0 at *
  have HB0 : Below w.heap.size w v0 := by rw [← hC]; exact balloc (balloc (bself w) _) _
  have K0 : Bk w.heap.size v0 [(true, w.heap.size, U8 (ls)), (true, w.heap.size + 1, U8 (z16))] := by rw [← hC]; exact (Bk.nil _ w).ad.ad
  clear hC
  go_upto_region 1 with fail
  refine rgP K0 HB0 HB0.size [] [] [(0, 5, .agg (U8 (ls)).toArray), (1, 6, (Go.Value.int Go.IntKind.i64 0))] [] [] [] ?_ ?_
  · refine oc (g_lR 0 0 (cs := U8 (ls)) (fun j v h => by rw [Nat.zero_add]; exact h) Tryd.underlying32 (by rw [U8_len, hll]; exact info__16_uint8)) ?_
    exact oc g_mv on
  intro u1 HB1 sz1 K1
  simp only [fX, nK, nP, Wr.f, aK, pM] at K1
  simp only [setG, setN, List.set_cons_zero, List.set_cons_succ]
  clear K0 HB0
  go_wp2_with fail
  go_loopw [6] (fun s6 wr => ∃ (k : Nat), k ≤ 16 ∧ s6 = .int .i64 (k : Int) ∧ Below w.heap.size w wr ∧ Hid (CV wr (w.heap.size) (U8 (sA k))) ∧ Hid (CV wr (w.heap.size + 1) (U8 (z16))) ∧ w.heap.size + 1 < wr.heap.size) (fun s6 _ => 16 - (intOf s6).toNat)
  case atStart => exact ⟨0, by omega, rfl, HB1, (by rw [hA0.out]; exact (K1.cv 0)), (K1.cv 1), (K1.lt 1)⟩
  case round =>
    obtain ⟨k, hk, rfl, HBr, Kb, Kr, lr⟩ := hrel
    clear HB1
    by_cases hj : k < 16
    · have hl1 : decide ((k : Int) < 16) = true := by simp; omega
      have hV2 := hV.up HBr
      have hW := hAW.out k
      have hA := hAs.out k
      obtain ⟨ws, ews⟩ : ∃ ws, sA k = ws := ⟨_, rfl⟩
      rw [ews] at hW hA Kb
      have hlen := hW.len
      have hg := U8_get ws k (by omega)
      obtain ⟨v, ev0⟩ : ∃ v, ws.getD k 0 = v := ⟨_, rfl⟩
      rw [ev0] at hg
      obtain ⟨x, ex⟩ : ∃ x, ls.getD k 0 = x := ⟨_, rfl⟩
      have hx := hlb k
      have hix := fun (o : Oper) (ev : Operand → Value) (x z : Operand) u => @ix16v o ev 32 x z ls k u rfl
      rw [ex] at hA
      rw [ex] at hx
      rw [ex] at hix
      have hS := fun (u : World) (hB : Below w.heap.size w u) => cSubst x u hx (hV.up hB)
      obtain ⟨y, ey⟩ : ∃ y, sbT.getD x 0 = y := ⟨_, rfl⟩
      rw [ey] at hA
      simp only [ey] at hS
      have hix : Hid _ := hix
      have hA : Hid _ := hA
      have hS2 : Hid _ := hS
      clear ews ev0 ex ey
      have hnK := K1.n
      simp at hnK
      have K1_1 : Bk w.heap.size wr [(true, w.heap.size, U8 (ws)), (false, w.heap.size + 1, U8 (z16))] := ⟨.o (by omega) (K1.lo 0) Kb.out <| .c lr Kr.out <| trivial, by simp <;> omega⟩
      go_upto_region 2 with fail
      refine rgP K1_1 HBr HBr.size [] [] [(0, 7, .bool true)] [] [] [] ?_ ?_
      · exact oc (g_bn (fun uZ => lss_i _ _ (k : Int) 16 _ uZ hl1)) on
      intro u2 HB2 sz2 K2
      simp only [fX, nK, nP, Wr.f, aK, pM] at K2
      simp only [setG, setN, List.set_cons_zero, List.set_cons_succ]
      go_upto_region 3 with fail
      refine rgP K2 HB2 HB2.size [] [] [(0, 8, .int .i64 (k : Int)), (1, 9, .int .u8 ((x : Nat) : Int)), (2, 3, .int .i64 (k : Int)), (3, 4, .int .u8 ((x : Nat) : Int))] [] [] [] ?_ ?_
      · refine oc g_mv ?_
        refine oc (g_op (fun ev uZ he => hix.out _ ev _ _ uZ rfl (he _ _ rfl) (he _ _ rfl) hll hj)) ?_
        refine oc g_as ?_
        exact oc g_as on
      intro u3 HB3 sz3 K3
      simp only [fX, nK, nP, Wr.f, aK, pM] at K3
      simp only [setG, setN, List.set_cons_zero, List.set_cons_succ]
      clear K2 HB2
      go_upto_region 4 with fail
      refine rgP K3 HB3 HB3.size [.all 4 (U8 (ws.set k y))] [] [(0, 10, .int .i64 (k : Int)), (1, 11, .int .u8 ((x : Nat) : Int)), (2, 12, .int .u8 ((y : Nat) : Int)), (3, 13, .pointer (some ⟨w.heap.size, k, none⟩))] [] [] [] ?_ ?_
      · refine oc g_mv ?_
        refine oc g_mv ?_
        refine oc (g_cb ent_aes_Substitute (fun uZ bZ => hS2.out uZ bZ)) ?_
        refine oc (g_ix (fun uZ => xb16 (w.heap.size) k uZ hj)) ?_
        exact oc (g_sw 0 (k) s8 (hg) (U8_set _ _ _)) on
      intro u4 HB4 sz4 K4
      simp only [fX, nK, nP, Wr.f, aK, pM] at K4
      simp only [setG, setN, List.set_cons_zero, List.set_cons_succ]
      clear K3 HB3
      go_upto_region 5 with fail
      refine rgP K4 HB4 HB4.size [] [] [(0, 14, .int .i64 ((k + 1 : Nat) : Int)), (1, 6, .int .i64 ((k + 1 : Nat) : Int))] [(1, 0)] [(1, 6)] [] ?_ ?_
      · refine oc (g_bn (fun uZ => add_i _ _ (k : Int) 1 ((k + 1 : Nat) : Int) uZ (by omega) (by omega) (by omega))) ?_
        exact oc g_mv on
      intro u5 HB5 sz5 K5
      simp only [fX, nK, nP, Wr.f, aK, pM] at K5
      simp only [setG, setN, List.set_cons_zero, List.set_cons_succ]
      clear K4 HB4
      go_wp2
      refine ⟨⟨k + 1, by omega, rfl, HB5, (by rw [hA.out]; exact (K5.cv 0)), (K5.cv 1), (K5.lt 1)⟩, ?_⟩
      simp [intOf] <;> omega
    · have hl1 : decide ((k : Int) < 16) = false := by simp; omega
      have hk16 : k = 16 := by omega
      subst hk16
      have hWs : (sA 16).length = 16 := (hAW.out 16).len
      have hnK := K1.n
      simp at hnK
      have K1_1 : Bk w.heap.size wr [(false, w.heap.size, U8 (sA 16)), (true, w.heap.size + 1, U8 (z16))] := ⟨.c (by omega) Kb.out <| .o lr (K1.lo 1) Kr.out <| trivial, by simp <;> omega⟩
      go_upto_region 2 with fail
      refine rgP K1_1 HBr HBr.size [] [] [(0, 7, .bool false)] [] [] [] ?_ ?_
      · exact oc (g_bn (fun uZ => lss_i _ _ ((16 : Nat) : Int) 16 _ uZ hl1)) on
      intro u2 HB2 sz2 K2
      simp only [fX, nK, nP, Wr.f, aK, pM] at K2
      simp only [setG, setN, List.set_cons_zero, List.set_cons_succ]
      go_upto_region 6 with fail
      refine rgP K2 HB2 HB2.size [.no, .all 1 (U8 (sA 16))] [] [(0, 15, .agg (U8 (sA 16)).toArray)] [] [] [false] ?_ ?_
      · refine oc (g_lR 0 0 (cs := U8 (sA 16)) (fun j v h => by rw [Nat.zero_add]; exact h) Tryd.underlying32 (by rw [U8_len, hWs]; exact info__16_uint8)) ?_
        exact oc (g_st 1 info__16_uint8 (h1 := U8_one _) (hm := by rw [U8_len, hWs]) (hl := by first | rw [U8_len, U8_len, hWs, show z16.length = 16 from rfl] | rfl)) on
      intro u3 HB3 sz3 K3
      simp only [fX, nK, nP, Wr.f, aK, pM] at K3
      simp only [setG, setN, List.set_cons_zero, List.set_cons_succ]
      clear K2 HB2
      go_wp2
      refine bodyPost_ret (res_cell Tryd.results32 rfl (K3.cv 0) Tryd.underlying32 rfl (by rw [U8_len, hWs]; exact info__16_uint8)) rfl ⟨rfl, HB3⟩
def sbsB (a : List Nat) : List Nat := (List.range 16).map fun i => sbT.getD (a.getD i 0) 0
theorem sbsB_B {a : List Nat} (ha : BY 16 a) : BY 16 (sbsB a) := rm_B fun i _ => sb_lt _ (ha.lt _)
theorem cSubsd (ls : List Nat) (w : World) (hV : GS6 w) (hl : BY 16 ls) : Calls Tryd.prog 32 #[.agg (U8 (ls)).toArray] w fun e w' => e = .returned (.agg (U8 (sbsB ls)).toArray) ∧ Below w.heap.size w w' := by
  have e : upB ls (fun i => sbT.getD (ls.getD i 0) 0) 16 = sbsB ls := upB_16 hl.len _
  rw [← e]
  exact cSubsd_core ls (upB ls fun i => sbT.getD (ls.getD i 0) 0) w hV hl.len hl.lt rfl (fun _ => rfl) (upB_B hl fun i => sb_lt _ (hl.lt i))
end Go.Proofs.YtlcjbnhfmcnnfaaDoor
