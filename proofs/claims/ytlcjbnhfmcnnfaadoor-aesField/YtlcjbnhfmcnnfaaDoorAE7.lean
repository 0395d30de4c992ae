/- AES: a round, and its way back. -/
import Derived.Test.YtlcjbnhfmcnnfaaDoorAE6
namespace Go.Proofs.YtlcjbnhfmcnnfaaDoor
open Go.RowKit
set_option linter.unusedVariables false
set_option linter.unusedSimpArgs false
theorem trn_sub (a : List Nat) : trnB 1 (sbsB a) = subB a :=
  ext_n (n := 16) (by simp [trnB]) (by simp [subB]) fun i hi => by
    rw [trnB, rm_get 16 _ hi, sbsB, rm_get 16 _ (Nat.mod_lt _ (by decide)), subB, rm_get 16 _ hi, Nat.mul_one]
theorem eqz_i (p q : Operand) (x y : Int) (b : Bool) (w : World) (h : decide (x = y) = b) : (do eqGuard .eql 3 p q (.int .i64 x) (.int .i64 y); binOp .eql 3 (.int .i64 x) (.int .i64 y) : Sem Value).run Tryd.prog w = .ok (.bool b) w := by
  subst h; go_simp
  all_goals first | rfl | (by_cases h : x = y <;> simp [h])
theorem bd4b (a b c d : Nat) : BY 4 [a % 256, b % 256, c % 256, d % 256] := BY_4 (Nat.mod_lt _ (by decide)) (Nat.mod_lt _ (by decide)) (Nat.mod_lt _ (by decide)) (Nat.mod_lt _ (by decide))
set_option maxRecDepth 100000 in
set_option maxHeartbeats 4000000 in
theorem cAhead_z (ls ks s4 : List Nat) (w : World) (hll : ls.length = 16) (hkl : ks.length = 16) (hs4 : s4.length = 16) (hX : Hid (∀ u, Calls Tryd.prog 34 #[.agg (U8 (ls)).toArray, .agg (U8 (ks)).toArray] u fun e w' => e = .returned (.agg (U8 (s4)).toArray) ∧ Below u.heap.size u w')) :
    Calls Tryd.prog 24 #[.int .i64 ((0 : Nat) : Int), .agg (U8 (ls)).toArray, .agg (U8 (ks)).toArray] w fun e w' => e = .returned (.agg (U8 (s4)).toArray) ∧ Below w.heap.size w w' := by
  go_enter Tryd.func24, Tryd.ntmps24
  go_upto_region 1 with fail
  generalize hC : (((w.alloc (.cells (U8 (ls) : List Value).toArray 32)).alloc (.cells (U8 (ks) : List Value).toArray 32)).alloc (.cells (Z16b : List Value).toArray 32)) = v0 at *
  have HB0 : Below w.heap.size w v0 := by rw [← hC]; exact balloc (balloc (balloc (bself w) _) _) _
  have K0 : Bk w.heap.size v0 [(true, w.heap.size, U8 (ls)), (true, w.heap.size + 1, U8 (ks)), (true, w.heap.size + 1 + 1, U8 (z16))] := by rw [← hC]; exact (Bk.nil _ w).ad.ad.ad
  clear hC
  refine rgP K0 HB0 HB0.size [] [] [(0, 7, .int .i64 ((0 : Nat) : Int)), (1, 8, .bool false)] [] [] [] ?_ ?_
  · refine oc g_mv ?_
    exact oc (g_bn (fun uZ => gtr_i _ _ ((0 : Nat) : Int) 0 false uZ (by decide))) on
  intro u1 HB1 sz1 K1
  simp only [fX, nK, nP, Wr.f, aK, pM] at K1
  simp only [setG, setN, List.set_cons_zero, List.set_cons_succ]
  clear K0 HB0
  go_upto_region 3 with fail
  refine rgP K1 HB1 HB1.size [] [] [(0, 13, .int .i64 ((0 : Nat) : Int)), (1, 14, .bool false), (2, 15, .bool false), (3, 16, undef), (4, 17, undef), (5, 18, (Go.Value.bool Bool.false)), (6, 12, (Go.Value.bool Bool.false))] [] [] [] ?_ ?_
  · refine oc g_mv ?_
    refine oc (g_bn (fun uZ => lss_i _ _ 0 ((0 : Nat) : Int) false uZ (by decide))) ?_
    refine oc g_mv ?_
    refine oc g_sk ?_
    refine oc g_sk ?_
    refine oc g_pk ?_
    exact oc g_as on
  intro u2 HB2 sz2 K2
  simp only [fX, nK, nP, Wr.f, aK, pM] at K2
  simp only [setG, setN, List.set_cons_zero, List.set_cons_succ]
  clear K1 HB1
  go_upto_region 5 with fail
  refine rgP K2 HB2 HB2.size [.all 3 (U8 (s4))] [] [(0, 22, .agg (U8 (ls)).toArray), (1, 23, .agg (U8 (ks)).toArray), (2, 24, .agg (U8 (s4)).toArray)] [(3, 0)] [] [true, false] ?_ ?_
  · refine oc (g_lR 0 0 (cs := U8 (ls)) (fun j v h => by rw [Nat.zero_add]; exact h) Tryd.underlying32 (by rw [U8_len, hll]; exact info__16_uint8)) ?_
    refine oc (g_lR 1 0 (cs := U8 (ks)) (fun j v h => by rw [Nat.zero_add]; exact h) Tryd.underlying32 (by rw [U8_len, hkl]; exact info__16_uint8)) ?_
    refine oc (g_cl ent_aes_xored (fun uZ => hX.out uZ)) ?_
    exact oc (g_st 0 info__16_uint8 (h1 := U8_one _) (hm := by rw [U8_len, hs4]) (hl := by first | rw [U8_len, U8_len, hs4, hll] | rfl)) on
  intro u3 HB3 sz3 K3
  simp only [fX, nK, nP, Wr.f, aK, pM] at K3
  simp only [setG, setN, List.set_cons_zero, List.set_cons_succ]
  clear K2 HB2
  go_upto_region 6 with fail
  refine rgP K3 HB3 HB3.size [.no, .all 1 (U8 (s4))] [] [(0, 25, .agg (U8 (s4)).toArray)] [] [] [false] ?_ ?_
  · refine oc (g_lR 0 0 (cs := U8 (s4)) (fun j v h => by rw [Nat.zero_add]; exact h) Tryd.underlying32 (by rw [U8_len, hs4]; exact info__16_uint8)) ?_
    exact oc (g_st 1 info__16_uint8 (h1 := U8_one _) (hm := by rw [U8_len, hs4]) (hl := by first | rw [U8_len, U8_len, hs4, show z16.length = 16 from rfl] | rfl)) on
  intro u4 HB4 sz4 K4
  simp only [fX, nK, nP, Wr.f, aK, pM] at K4
  simp only [setG, setN, List.set_cons_zero, List.set_cons_succ]
  clear K3 HB3
  go_wp2
  refine bodyPost_ret (res_cell Tryd.results24 rfl (K4.cv 0) Tryd.underlying32 rfl (by rw [U8_len, hs4]; exact info__16_uint8)) rfl ⟨rfl, HB4⟩
set_option maxRecDepth 100000 in
set_option maxHeartbeats 4000000 in
theorem cAhead_m (i : Nat) (ls ks s1 s2 s3 s4 : List Nat) (w : World) (hll : ls.length = 16) (hkl : ks.length = 16) (hi0 : decide ((0 : Int) < (i : Int)) = true) (hi1 : decide ((i : Int) < 10) = true) (hs2 : s2.length = 16) (hS : Hid (∀ u, Below w.heap.size w u → Calls Tryd.prog 32 #[.agg (U8 (ls)).toArray] u fun e w' => e = .returned (.agg (U8 (s1)).toArray) ∧ Below u.heap.size u w')) (hT : Hid (∀ u, Calls Tryd.prog 31 #[.agg (U8 (s1)).toArray, .int .i64 1] u fun e w' => e = .returned (.agg (U8 (s2)).toArray) ∧ Below u.heap.size u w')) (hs3 : s3.length = 16) (hM : Hid (∀ u, Calls Tryd.prog 33 #[.agg (U8 (s2)).toArray, .agg (U8 ([2, 3, 1, 1])).toArray] u fun e w' => e = .returned (.agg (U8 (s3)).toArray) ∧ Below u.heap.size u w')) (hs4 : s4.length = 16) (hX : Hid (∀ u, Calls Tryd.prog 34 #[.agg (U8 (s3)).toArray, .agg (U8 (ks)).toArray] u fun e w' => e = .returned (.agg (U8 (s4)).toArray) ∧ Below u.heap.size u w')) :
    Calls Tryd.prog 24 #[.int .i64 (i : Int), .agg (U8 (ls)).toArray, .agg (U8 (ks)).toArray] w fun e w' => e = .returned (.agg (U8 (s4)).toArray) ∧ Below w.heap.size w w' := by
  go_enter Tryd.func24, Tryd.ntmps24
  go_upto_region 1 with fail
  generalize hC : (((w.alloc (.cells (U8 (ls) : List Value).toArray 32)).alloc (.cells (U8 (ks) : List Value).toArray 32)).alloc (.cells (Z16b : List Value).toArray 32)) = v0 at *
  have HB0 : Below w.heap.size w v0 := by rw [← hC]; exact balloc (balloc (balloc (bself w) _) _) _
  have K0 : Bk w.heap.size v0 [(true, w.heap.size, U8 (ls)), (true, w.heap.size + 1, U8 (ks)), (true, w.heap.size + 1 + 1, U8 (z16))] := by rw [← hC]; exact (Bk.nil _ w).ad.ad.ad
  clear hC
  refine rgP K0 HB0 HB0.size [] [] [(0, 7, .int .i64 (i : Int)), (1, 8, .bool true)] [] [] [] ?_ ?_
  · refine oc g_mv ?_
    exact oc (g_bn (fun uZ => gtr_i _ _ (i : Int) 0 true uZ hi0)) on
  intro u1 HB1 sz1 K1
  simp only [fX, nK, nP, Wr.f, aK, pM] at K1
  simp only [setG, setN, List.set_cons_zero, List.set_cons_succ]
  clear K0 HB0
  go_upto_region 2 with fail
  refine rgP K1 HB1 HB1.size [.all 3 (U8 (s2))] [] [(0, 9, .agg (U8 (ls)).toArray), (1, 10, .agg (U8 (s1)).toArray), (2, 11, .agg (U8 (s2)).toArray)] [(3, 0)] [] [] ?_ ?_
  · refine oc (g_lR 0 0 (cs := U8 (ls)) (fun j v h => by rw [Nat.zero_add]; exact h) Tryd.underlying32 (by rw [U8_len, hll]; exact info__16_uint8)) ?_
    refine oc (g_cb ent_aes_substituted (fun uZ bZ => hS.out uZ bZ)) ?_
    refine oc (g_cl ent_aes_turned (fun uZ => hT.out uZ)) ?_
    exact oc (g_st 0 info__16_uint8 (h1 := U8_one _) (hm := by rw [U8_len, hs2]) (hl := by first | rw [U8_len, U8_len, hs2, hll] | rfl)) on
  intro u2 HB2 sz2 K2
  simp only [fX, nK, nP, Wr.f, aK, pM] at K2
  simp only [setG, setN, List.set_cons_zero, List.set_cons_succ]
  clear K1 HB1
  go_upto_region 3 with fail
  refine rgP K2 HB2 HB2.size [] [] [(0, 13, .int .i64 (i : Int)), (1, 14, .bool true), (2, 15, .bool true), (3, 16, .int .i64 (i : Int)), (4, 17, .bool true), (5, 18, .bool true), (6, 12, .bool true)] [] [] [] ?_ ?_
  · refine oc g_mv ?_
    refine oc (g_bn (fun uZ => lss_i _ _ 0 (i : Int) true uZ hi0)) ?_
    refine oc g_mv ?_
    refine oc g_mv ?_
    refine oc (g_bn (fun uZ => lss_i _ _ (i : Int) 10 true uZ hi1)) ?_
    refine oc g_pk ?_
    exact oc g_as on
  intro u3 HB3 sz3 K3
  simp only [fX, nK, nP, Wr.f, aK, pM] at K3
  simp only [setG, setN, List.set_cons_zero, List.set_cons_succ]
  clear K2 HB2
  go_upto_region 4 with fail
  refine rgP K3 HB3 HB3.size [.all 3 (U8 (s3))] [] [(0, 19, .agg (U8 (s2)).toArray), (1, 20, .agg (U8 ([2, 3, 1, 1])).toArray), (2, 21, .agg (U8 (s3)).toArray)] [(3, 0)] [] [] ?_ ?_
  · refine oc (g_lR 0 0 (cs := U8 (s2)) (fun j v h => by rw [Nat.zero_add]; exact h) Tryd.underlying32 (by rw [U8_len, hs2]; exact info__16_uint8)) ?_
    refine oc (g_bd (fun uZ => bd4 2 3 1 1 uZ)) ?_
    refine oc (g_cl ent_aes_mixed (fun uZ => hM.out uZ)) ?_
    exact oc (g_st 0 info__16_uint8 (h1 := U8_one _) (hm := by rw [U8_len, hs3]) (hl := by first | rw [U8_len, U8_len, hs3, hs2] | rfl)) on
  intro u4 HB4 sz4 K4
  simp only [fX, nK, nP, Wr.f, aK, pM] at K4
  simp only [setG, setN, List.set_cons_zero, List.set_cons_succ]
  clear K3 HB3
  go_upto_region 5 with fail
  refine rgP K4 HB4 HB4.size [.all 3 (U8 (s4))] [] [(0, 22, .agg (U8 (s3)).toArray), (1, 23, .agg (U8 (ks)).toArray), (2, 24, .agg (U8 (s4)).toArray)] [(3, 0)] [] [true, false] ?_ ?_
  · refine oc (g_lR 0 0 (cs := U8 (s3)) (fun j v h => by rw [Nat.zero_add]; exact h) Tryd.underlying32 (by rw [U8_len, hs3]; exact info__16_uint8)) ?_
    refine oc (g_lR 1 0 (cs := U8 (ks)) (fun j v h => by rw [Nat.zero_add]; exact h) Tryd.underlying32 (by rw [U8_len, hkl]; exact info__16_uint8)) ?_
    refine oc (g_cl ent_aes_xored (fun uZ => hX.out uZ)) ?_
    exact oc (g_st 0 info__16_uint8 (h1 := U8_one _) (hm := by rw [U8_len, hs4]) (hl := by first | rw [U8_len, U8_len, hs4, hs3] | rfl)) on
  intro u5 HB5 sz5 K5
  simp only [fX, nK, nP, Wr.f, aK, pM] at K5
  simp only [setG, setN, List.set_cons_zero, List.set_cons_succ]
  clear K4 HB4
  go_upto_region 6 with fail
  refine rgP K5 HB5 HB5.size [.no, .all 1 (U8 (s4))] [] [(0, 25, .agg (U8 (s4)).toArray)] [] [] [false] ?_ ?_
  · refine oc (g_lR 0 0 (cs := U8 (s4)) (fun j v h => by rw [Nat.zero_add]; exact h) Tryd.underlying32 (by rw [U8_len, hs4]; exact info__16_uint8)) ?_
    exact oc (g_st 1 info__16_uint8 (h1 := U8_one _) (hm := by rw [U8_len, hs4]) (hl := by first | rw [U8_len, U8_len, hs4, show z16.length = 16 from rfl] | rfl)) on
  intro u6 HB6 sz6 K6
  simp only [fX, nK, nP, Wr.f, aK, pM] at K6
  simp only [setG, setN, List.set_cons_zero, List.set_cons_succ]
  clear K5 HB5
  go_wp2
  refine bodyPost_ret (res_cell Tryd.results24 rfl (K6.cv 0) Tryd.underlying32 rfl (by rw [U8_len, hs4]; exact info__16_uint8)) rfl ⟨rfl, HB6⟩
set_option maxRecDepth 100000 in
set_option maxHeartbeats 4000000 in
theorem cAhead_e (ls ks s1 s2 s4 : List Nat) (w : World) (hll : ls.length = 16) (hkl : ks.length = 16) (hs2 : s2.length = 16) (hS : Hid (∀ u, Below w.heap.size w u → Calls Tryd.prog 32 #[.agg (U8 (ls)).toArray] u fun e w' => e = .returned (.agg (U8 (s1)).toArray) ∧ Below u.heap.size u w')) (hT : Hid (∀ u, Calls Tryd.prog 31 #[.agg (U8 (s1)).toArray, .int .i64 1] u fun e w' => e = .returned (.agg (U8 (s2)).toArray) ∧ Below u.heap.size u w')) (hs4 : s4.length = 16) (hX : Hid (∀ u, Calls Tryd.prog 34 #[.agg (U8 (s2)).toArray, .agg (U8 (ks)).toArray] u fun e w' => e = .returned (.agg (U8 (s4)).toArray) ∧ Below u.heap.size u w')) :
    Calls Tryd.prog 24 #[.int .i64 ((10 : Nat) : Int), .agg (U8 (ls)).toArray, .agg (U8 (ks)).toArray] w fun e w' => e = .returned (.agg (U8 (s4)).toArray) ∧ Below w.heap.size w w' := by
  go_enter Tryd.func24, Tryd.ntmps24
  go_upto_region 1 with fail
  generalize hC : (((w.alloc (.cells (U8 (ls) : List Value).toArray 32)).alloc (.cells (U8 (ks) : List Value).toArray 32)).alloc (.cells (Z16b : List Value).toArray 32)) = v0 at *
  have HB0 : Below w.heap.size w v0 := by rw [← hC]; exact balloc (balloc (balloc (bself w) _) _) _
  have K0 : Bk w.heap.size v0 [(true, w.heap.size, U8 (ls)), (true, w.heap.size + 1, U8 (ks)), (true, w.heap.size + 1 + 1, U8 (z16))] := by rw [← hC]; exact (Bk.nil _ w).ad.ad.ad
  clear hC
  refine rgP K0 HB0 HB0.size [] [] [(0, 7, .int .i64 ((10 : Nat) : Int)), (1, 8, .bool true)] [] [] [] ?_ ?_
  · refine oc g_mv ?_
    exact oc (g_bn (fun uZ => gtr_i _ _ ((10 : Nat) : Int) 0 true uZ (by decide))) on
  intro u1 HB1 sz1 K1
  simp only [fX, nK, nP, Wr.f, aK, pM] at K1
  simp only [setG, setN, List.set_cons_zero, List.set_cons_succ]
  clear K0 HB0
  go_upto_region 2 with fail
  refine rgP K1 HB1 HB1.size [.all 3 (U8 (s2))] [] [(0, 9, .agg (U8 (ls)).toArray), (1, 10, .agg (U8 (s1)).toArray), (2, 11, .agg (U8 (s2)).toArray)] [(3, 0)] [] [] ?_ ?_
  · refine oc (g_lR 0 0 (cs := U8 (ls)) (fun j v h => by rw [Nat.zero_add]; exact h) Tryd.underlying32 (by rw [U8_len, hll]; exact info__16_uint8)) ?_
    refine oc (g_cb ent_aes_substituted (fun uZ bZ => hS.out uZ bZ)) ?_
    refine oc (g_cl ent_aes_turned (fun uZ => hT.out uZ)) ?_
    exact oc (g_st 0 info__16_uint8 (h1 := U8_one _) (hm := by rw [U8_len, hs2]) (hl := by first | rw [U8_len, U8_len, hs2, hll] | rfl)) on
  intro u2 HB2 sz2 K2
  simp only [fX, nK, nP, Wr.f, aK, pM] at K2
  simp only [setG, setN, List.set_cons_zero, List.set_cons_succ]
  clear K1 HB1
  go_upto_region 3 with fail
  refine rgP K2 HB2 HB2.size [] [] [(0, 13, .int .i64 ((10 : Nat) : Int)), (1, 14, .bool true), (2, 15, .bool true), (3, 16, .int .i64 ((10 : Nat) : Int)), (4, 17, .bool false), (5, 18, .bool false), (6, 12, .bool false)] [] [] [] ?_ ?_
  · refine oc g_mv ?_
    refine oc (g_bn (fun uZ => lss_i _ _ 0 ((10 : Nat) : Int) true uZ (by decide))) ?_
    refine oc g_mv ?_
    refine oc g_mv ?_
    refine oc (g_bn (fun uZ => lss_i _ _ ((10 : Nat) : Int) 10 false uZ (by decide))) ?_
    refine oc g_pk ?_
    exact oc g_as on
  intro u3 HB3 sz3 K3
  simp only [fX, nK, nP, Wr.f, aK, pM] at K3
  simp only [setG, setN, List.set_cons_zero, List.set_cons_succ]
  clear K2 HB2
  go_upto_region 5 with fail
  refine rgP K3 HB3 HB3.size [.all 3 (U8 (s4))] [] [(0, 22, .agg (U8 (s2)).toArray), (1, 23, .agg (U8 (ks)).toArray), (2, 24, .agg (U8 (s4)).toArray)] [(3, 0)] [] [true, false] ?_ ?_
  · refine oc (g_lR 0 0 (cs := U8 (s2)) (fun j v h => by rw [Nat.zero_add]; exact h) Tryd.underlying32 (by rw [U8_len, hs2]; exact info__16_uint8)) ?_
    refine oc (g_lR 1 0 (cs := U8 (ks)) (fun j v h => by rw [Nat.zero_add]; exact h) Tryd.underlying32 (by rw [U8_len, hkl]; exact info__16_uint8)) ?_
    refine oc (g_cl ent_aes_xored (fun uZ => hX.out uZ)) ?_
    exact oc (g_st 0 info__16_uint8 (h1 := U8_one _) (hm := by rw [U8_len, hs4]) (hl := by first | rw [U8_len, U8_len, hs4, hs2] | rfl)) on
  intro u4 HB4 sz4 K4
  simp only [fX, nK, nP, Wr.f, aK, pM] at K4
  simp only [setG, setN, List.set_cons_zero, List.set_cons_succ]
  clear K3 HB3
  go_upto_region 6 with fail
  refine rgP K4 HB4 HB4.size [.no, .all 1 (U8 (s4))] [] [(0, 25, .agg (U8 (s4)).toArray)] [] [] [false] ?_ ?_
  · refine oc (g_lR 0 0 (cs := U8 (s4)) (fun j v h => by rw [Nat.zero_add]; exact h) Tryd.underlying32 (by rw [U8_len, hs4]; exact info__16_uint8)) ?_
    exact oc (g_st 1 info__16_uint8 (h1 := U8_one _) (hm := by rw [U8_len, hs4]) (hl := by first | rw [U8_len, U8_len, hs4, show z16.length = 16 from rfl] | rfl)) on
  intro u5 HB5 sz5 K5
  simp only [fX, nK, nP, Wr.f, aK, pM] at K5
  simp only [setG, setN, List.set_cons_zero, List.set_cons_succ]
  clear K4 HB4
  go_wp2
  refine bodyPost_ret (res_cell Tryd.results24 rfl (K5.cv 0) Tryd.underlying32 rfl (by rw [U8_len, hs4]; exact info__16_uint8)) rfl ⟨rfl, HB5⟩
/-- A round. -/
def ahB (i : Nat) (ls ks : List Nat) : List Nat := xorB (if i = 0 then ls else rdE i ls) ks
theorem ahB_B {i : Nat} {ls ks : List Nat} (hl : BY 16 ls) (hk : BY 16 ks) : BY 16 (ahB i ls ks) := by
  unfold ahB; split
  · exact xorB_B hl hk
  · exact xorB_B (rdE_B hl) hk
theorem cAhead (i : Nat) (ls ks : List Nat) (w : World) (hi : i ≤ 10) (hV : GS6 w) (hl : BY 16 ls) (hk : BY 16 ks) : Calls Tryd.prog 24 #[.int .i64 (i : Int), .agg (U8 ls).toArray, .agg (U8 ks).toArray] w fun e w' => e = .returned (.agg (U8 (ahB i ls ks)).toArray) ∧ Below w.heap.size w w' := by
  have hS := fun u (hB : Below w.heap.size w u) => cSubsd ls u (hV.up hB) hl
  have hT : ∀ u, Calls Tryd.prog 31 #[.agg (U8 (sbsB ls)).toArray, .int .i64 1] u fun e w' => e = .returned (.agg (U8 (subB ls)).toArray) ∧ Below u.heap.size u w' := fun u => by
    have h := cTurned 1 (sbsB ls) u (by decide) (sbsB_B hl)
    rw [trn_sub] at h; exact h
  have hs := subB_B hl
  rcases (by omega : i = 0 ∨ i = 10 ∨ (0 < i ∧ i < 10)) with rfl | rfl | ⟨h0, h1⟩
  · rw [show ahB 0 ls ks = xorB ls ks from rfl]
    exact cAhead_z ls ks _ w hl.len hk.len (xorB_B hl hk).len fun u => cXored ls ks u hl hk
  · rw [show ahB 10 ls ks = xorB (subB ls) ks from rfl]
    exact cAhead_e ls ks _ _ _ w hl.len hk.len hs.len hS hT (xorB_B hs hk).len fun u => cXored _ ks u hs hk
  · rw [show ahB i ls ks = xorB (mixB 2 3 1 1 (subB ls)) ks by rw [ahB, if_neg (by omega), rdE, if_pos h1]]
    exact cAhead_m i ls ks _ _ _ _ w hl.len hk.len (by simp; omega) (by simp; omega) hs.len hS hT (mixB_B hs).len (fun u => cMixed _ [2, 3, 1, 1] u hs (bd4b 2 3 1 1)) (xorB_B (mixB_B hs) hk).len fun u => cXored _ ks u (mixB_B hs) hk
end Go.Proofs.YtlcjbnhfmcnnfaaDoor
