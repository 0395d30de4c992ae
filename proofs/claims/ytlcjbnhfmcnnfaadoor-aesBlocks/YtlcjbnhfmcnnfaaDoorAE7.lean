/- AES: a round, and its way back. -/
import Derived.Test.YtlcjbnhfmcnnfaaDoorAE6
namespace Go.Proofs.YtlcjbnhfmcnnfaaDoor
open Go.RowKit
set_option linter.unusedVariables false
set_option linter.unusedSimpArgs false
theorem trn_sub (a : List Nat) : trnB 1 (sbsB a) = subB a :=
  ext_n (n := 16) (by simp [trnB]) (by simp [subB]) fun i hi => by
    rw [trnB, rm_get 16 _ hi, sbsB, rm_get 16 _ (Nat.mod_lt _ (by decide)), subB, rm_get 16 _ hi, Nat.mul_one]
theorem eqz_i (p q : Operand) (x y : Int) (b : Bool) (w : World) (h : decide (x = y) = b) : (do eqGuard .eql 3 p q (.int .i64 x) (.int .i64 y); binOp .eql 3 (.int .i64 x) (.int .i64 y) : Sem Value).run Tryd.prog w = .ok (.bool b) w := by
  subst h; go_simp
  all_goals first | rfl | (by_cases h : x = y <;> simp [h])
theorem rbT_len : rbT.length = 256 := by decide +kernel
/-- Whose the bytes are. -/
def rbsB (a : List Nat) : List Nat := (List.range 16).map fun i => rbT.getD (a.getD i 0) 0
theorem rbs_trn (a : List Nat) : rbsB (trnB 3 a) = busB a :=
  ext_n (n := 16) (by simp [rbsB]) (by simp [busB]) fun i hi => by
    rw [rbsB, rm_get 16 _ hi, trnB, rm_get 16 _ hi, busB, rm_get 16 _ hi, show i + 4 * (i % 4) * 3 = i + 12 * (i % 4) by omega]
theorem bd4b (a b c d : Nat) : BY 4 [a % 256, b % 256, c % 256, d % 256] := BY_4 (Nat.mod_lt _ (by decide)) (Nat.mod_lt _ (by decide)) (Nat.mod_lt _ (by decide)) (Nat.mod_lt _ (by decide))
set_option maxRecDepth 100000 in
set_option maxHeartbeats 4000000 in
theorem cAhead_z (ls ks s4 : List Nat) (w : World) (hll : ls.length = 16) (hkl : ks.length = 16) (hs4 : s4.length = 16) (hX : Hid (∀ u, Calls Tryd.prog 34 #[.agg (U8 (ls)).toArray, .agg (U8 (ks)).toArray] u fun e w' => e = .returned (.agg (U8 (s4)).toArray) ∧ Below u.heap.size u w')) :
    Calls Tryd.prog 24 #[.int .i64 ((0 : Nat) : Int), .agg (U8 (ls)).toArray, .agg (U8 (ks)).toArray] w fun e w' => e = .returned (.agg (U8 (s4)).toArray) ∧ Below w.heap.size w w' := by
  go_enter Tryd.func24, Tryd.ntmps24
  go_upto_region 1 with fail
  generalize hC : (((w.alloc (.cells (U8 (ls) : List Value).toArray 32)).alloc (.cells (U8 (ks) : List Value).toArray 32)).alloc (.cells (Z16b : List Value).toArray 32)) = v0 at *
  have HB0 : Below w.heap.size w v0 := by rw [← hC]; exact balloc (balloc (balloc (bself w) _) _) _
  have K0 : Bk w.heap.size v0 [(true, w.heap.size, U8 (ls)), (true, w.heap.size + 1, U8 (ks)), (true, w.heap.size + 1 + 1, U8 (z16))] := by rw [← hC]; exact (Bk.nil _ w).ad.ad.ad
  clear hC
  refine rgP K0 HB0 HB0.size [] [] [(0, 7, .int .i64 ((0 : Nat) : Int)), (1, 8, .bool false)] [] [] [] ?_ ?_
  · refine oc g_mv ?_
    exact oc (g_bn (fun uZ => gtr_i _ _ ((0 : Nat) : Int) 0 false uZ (by decide))) on
  intro u1 HB1 sz1 K1
  simp only [fX, nK, nP, Wr.f, aK, pM] at K1
  simp only [setG, setN, List.set_cons_zero, List.set_cons_succ]
  clear K0 HB0
  go_upto_region 3 with fail
  refine rgP K1 HB1 HB1.size [] [] [(0, 13, .int .i64 ((0 : Nat) : Int)), (1, 14, .bool false), (2, 15, .bool false), (3, 16, undef), (4, 17, undef), (5, 18, (Go.Value.bool Bool.false)), (6, 12, (Go.Value.bool Bool.false))] [] [] [] ?_ ?_
  · refine oc g_mv ?_
    refine oc (g_bn (fun uZ => lss_i _ _ 0 ((0 : Nat) : Int) false uZ (by decide))) ?_
    refine oc g_mv ?_
    refine oc g_sk ?_
    refine oc g_sk ?_
    refine oc g_pk ?_
    exact oc g_as on
  intro u2 HB2 sz2 K2
  simp only [fX, nK, nP, Wr.f, aK, pM] at K2
  simp only [setG, setN, List.set_cons_zero, List.set_cons_succ]
  clear K1 HB1
  go_upto_region 5 with fail
  refine rgP K2 HB2 HB2.size [.all 3 (U8 (s4))] [] [(0, 22, .agg (U8 (ls)).toArray), (1, 23, .agg (U8 (ks)).toArray), (2, 24, .agg (U8 (s4)).toArray)] [(3, 0)] [] [true, false] ?_ ?_
  · refine oc (g_lR 0 0 (cs := U8 (ls)) (fun j v h => by rw [Nat.zero_add]; exact h) Tryd.underlying32 (by rw [U8_len, hll]; exact info__16_uint8)) ?_
    refine oc (g_lR 1 0 (cs := U8 (ks)) (fun j v h => by rw [Nat.zero_add]; exact h) Tryd.underlying32 (by rw [U8_len, hkl]; exact info__16_uint8)) ?_
    refine oc (g_cl ent_aes_xored (fun uZ => hX.out uZ)) ?_
    exact oc (g_st 0 info__16_uint8 (h1 := U8_one _) (hm := by rw [U8_len, hs4]) (hl := by first | rw [U8_len, U8_len, hs4, hll] | rfl)) on
  intro u3 HB3 sz3 K3
  simp only [fX, nK, nP, Wr.f, aK, pM] at K3
  simp only [setG, setN, List.set_cons_zero, List.set_cons_succ]
  clear K2 HB2
  go_upto_region 6 with fail
  refine rgP K3 HB3 HB3.size [.no, .all 1 (U8 (s4))] [] [(0, 25, .agg (U8 (s4)).toArray)] [] [] [false] ?_ ?_
  · refine oc (g_lR 0 0 (cs := U8 (s4)) (fun j v h => by rw [Nat.zero_add]; exact h) Tryd.underlying32 (by rw [U8_len, hs4]; exact info__16_uint8)) ?_
    exact oc (g_st 1 info__16_uint8 (h1 := U8_one _) (hm := by rw [U8_len, hs4]) (hl := by first | rw [U8_len, U8_len, hs4, show z16.length = 16 from rfl] | rfl)) on
  intro u4 HB4 sz4 K4
  simp only [fX, nK, nP, Wr.f, aK, pM] at K4
  simp only [setG, setN, List.set_cons_zero, List.set_cons_succ]
  clear K3 HB3
  go_wp2
  refine bodyPost_ret (res_cell Tryd.results24 rfl (K4.cv 0) Tryd.underlying32 rfl (by rw [U8_len, hs4]; exact info__16_uint8)) rfl ⟨rfl, HB4⟩
set_option maxRecDepth 100000 in
set_option maxHeartbeats 4000000 in
theorem cAhead_m (i : Nat) (ls ks s1 s2 s3 s4 : List Nat) (w : World) (hll : ls.length = 16) (hkl : ks.length = 16) (hi0 : decide ((0 : Int) < (i : Int)) = true) (hi1 : decide ((i : Int) < 10) = true) (hs2 : s2.length = 16) (hS : Hid (∀ u, Below w.heap.size w u → Calls Tryd.prog 32 #[.agg (U8 (ls)).toArray] u fun e w' => e = .returned (.agg (U8 (s1)).toArray) ∧ Below u.heap.size u w')) (hT : Hid (∀ u, Calls Tryd.prog 31 #[.agg (U8 (s1)).toArray, .int .i64 1] u fun e w' => e = .returned (.agg (U8 (s2)).toArray) ∧ Below u.heap.size u w')) (hs3 : s3.length = 16) (hM : Hid (∀ u, Calls Tryd.prog 33 #[.agg (U8 (s2)).toArray, .agg (U8 ([2, 3, 1, 1])).toArray] u fun e w' => e = .returned (.agg (U8 (s3)).toArray) ∧ Below u.heap.size u w')) (hs4 : s4.length = 16) (hX : Hid (∀ u, Calls Tryd.prog 34 #[.agg (U8 (s3)).toArray, .agg (U8 (ks)).toArray] u fun e w' => e = .returned (.agg (U8 (s4)).toArray) ∧ Below u.heap.size u w')) :
    Calls Tryd.prog 24 #[.int .i64 (i : Int), .agg (U8 (ls)).toArray, .agg (U8 (ks)).toArray] w fun e w' => e = .returned (.agg (U8 (s4)).toArray) ∧ Below w.heap.size w w' := by
  go_enter Tryd.func24, Tryd.ntmps24
  go_upto_region 1 with fail
  generalize hC : (((w.alloc (.cells (U8 (ls) : List Value).toArray 32)).alloc (.cells (U8 (ks) : List Value).toArray 32)).alloc (.cells (Z16b : List Value).toArray 32)) = v0 at *
  have HB0 : Below w.heap.size w v0 := by rw [← hC]; exact balloc (balloc (balloc (bself w) _) _) _
  have K0 : Bk w.heap.size v0 [(true, w.heap.size, U8 (ls)), (true, w.heap.size + 1, U8 (ks)), (true, w.heap.size + 1 + 1, U8 (z16))] := by rw [← hC]; exact (Bk.nil _ w).ad.ad.ad
  clear hC
  refine rgP K0 HB0 HB0.size [] [] [(0, 7, .int .i64 (i : Int)), (1, 8, .bool true)] [] [] [] ?_ ?_
  · refine oc g_mv ?_
    exact oc (g_bn (fun uZ => gtr_i _ _ (i : Int) 0 true uZ hi0)) on
  intro u1 HB1 sz1 K1
  simp only [fX, nK, nP, Wr.f, aK, pM] at K1
  simp only [setG, setN, List.set_cons_zero, List.set_cons_succ]
  clear K0 HB0
  go_upto_region 2 with fail
  refine rgP K1 HB1 HB1.size [.all 3 (U8 (s2))] [] [(0, 9, .agg (U8 (ls)).toArray), (1, 10, .agg (U8 (s1)).toArray), (2, 11, .agg (U8 (s2)).toArray)] [(3, 0)] [] [] ?_ ?_
  · refine oc (g_lR 0 0 (cs := U8 (ls)) (fun j v h => by rw [Nat.zero_add]; exact h) Tryd.underlying32 (by rw [U8_len, hll]; exact info__16_uint8)) ?_
    refine oc (g_cb ent_aes_substituted (fun uZ bZ => hS.out uZ bZ)) ?_
    refine oc (g_cl ent_aes_turned (fun uZ => hT.out uZ)) ?_
    exact oc (g_st 0 info__16_uint8 (h1 := U8_one _) (hm := by rw [U8_len, hs2]) (hl := by first | rw [U8_len, U8_len, hs2, hll] | rfl)) on
  intro u2 HB2 sz2 K2
  simp only [fX, nK, nP, Wr.f, aK, pM] at K2
  simp only [setG, setN, List.set_cons_zero, List.set_cons_succ]
  clear K1 HB1
  go_upto_region 3 with fail
  refine rgP K2 HB2 HB2.size [] [] [(0, 13, .int .i64 (i : Int)), (1, 14, .bool true), (2, 15, .bool true), (3, 16, .int .i64 (i : Int)), (4, 17, .bool true), (5, 18, .bool true), (6, 12, .bool true)] [] [] [] ?_ ?_
  · refine oc g_mv ?_
    refine oc (g_bn (fun uZ => lss_i _ _ 0 (i : Int) true uZ hi0)) ?_
    refine oc g_mv ?_
    refine oc g_mv ?_
    refine oc (g_bn (fun uZ => lss_i _ _ (i : Int) 10 true uZ hi1)) ?_
    refine oc g_pk ?_
    exact oc g_as on
  intro u3 HB3 sz3 K3
  simp only [fX, nK, nP, Wr.f, aK, pM] at K3
  simp only [setG, setN, List.set_cons_zero, List.set_cons_succ]
  clear K2 HB2
  go_upto_region 4 with fail
  refine rgP K3 HB3 HB3.size [.all 3 (U8 (s3))] [] [(0, 19, .agg (U8 (s2)).toArray), (1, 20, .agg (U8 ([2, 3, 1, 1])).toArray), (2, 21, .agg (U8 (s3)).toArray)] [(3, 0)] [] [] ?_ ?_
  · refine oc (g_lR 0 0 (cs := U8 (s2)) (fun j v h => by rw [Nat.zero_add]; exact h) Tryd.underlying32 (by rw [U8_len, hs2]; exact info__16_uint8)) ?_
    refine oc (g_bd (fun uZ => bd4 2 3 1 1 uZ)) ?_
    refine oc (g_cl ent_aes_mixed (fun uZ => hM.out uZ)) ?_
    exact oc (g_st 0 info__16_uint8 (h1 := U8_one _) (hm := by rw [U8_len, hs3]) (hl := by first | rw [U8_len, U8_len, hs3, hs2] | rfl)) on
  intro u4 HB4 sz4 K4
  simp only [fX, nK, nP, Wr.f, aK, pM] at K4
  simp only [setG, setN, List.set_cons_zero, List.set_cons_succ]
  clear K3 HB3
  go_upto_region 5 with fail
  refine rgP K4 HB4 HB4.size [.all 3 (U8 (s4))] [] [(0, 22, .agg (U8 (s3)).toArray), (1, 23, .agg (U8 (ks)).toArray), (2, 24, .agg (U8 (s4)).toArray)] [(3, 0)] [] [true, false] ?_ ?_
  · refine oc (g_lR 0 0 (cs := U8 (s3)) (fun j v h => by rw [Nat.zero_add]; exact h) Tryd.underlying32 (by rw [U8_len, hs3]; exact info__16_uint8)) ?_
    refine oc (g_lR 1 0 (cs := U8 (ks)) (fun j v h => by rw [Nat.zero_add]; exact h) Tryd.underlying32 (by rw [U8_len, hkl]; exact info__16_uint8)) ?_
    refine oc (g_cl ent_aes_xored (fun uZ => hX.out uZ)) ?_
    exact oc (g_st 0 info__16_uint8 (h1 := U8_one _) (hm := by rw [U8_len, hs4]) (hl := by first | rw [U8_len, U8_len, hs4, hs3] | rfl)) on
  intro u5 HB5 sz5 K5
  simp only [fX, nK, nP, Wr.f, aK, pM] at K5
  simp only [setG, setN, List.set_cons_zero, List.set_cons_succ]
  clear K4 HB4
  go_upto_region 6 with fail
  refine rgP K5 HB5 HB5.size [.no, .all 1 (U8 (s4))] [] [(0, 25, .agg (U8 (s4)).toArray)] [] [] [false] ?_ ?_
  · refine oc (g_lR 0 0 (cs := U8 (s4)) (fun j v h => by rw [Nat.zero_add]; exact h) Tryd.underlying32 (by rw [U8_len, hs4]; exact info__16_uint8)) ?_
    exact oc (g_st 1 info__16_uint8 (h1 := U8_one _) (hm := by rw [U8_len, hs4]) (hl := by first | rw [U8_len, U8_len, hs4, show z16.length = 16 from rfl] | rfl)) on
  intro u6 HB6 sz6 K6
  simp only [fX, nK, nP, Wr.f, aK, pM] at K6
  simp only [setG, setN, List.set_cons_zero, List.set_cons_succ]
  clear K5 HB5
  go_wp2
  refine bodyPost_ret (res_cell Tryd.results24 rfl (K6.cv 0) Tryd.underlying32 rfl (by rw [U8_len, hs4]; exact info__16_uint8)) rfl ⟨rfl, HB6⟩
set_option maxRecDepth 100000 in
set_option maxHeartbeats 4000000 in
theorem cAhead_e (ls ks s1 s2 s4 : List Nat) (w : World) (hll : ls.length = 16) (hkl : ks.length = 16) (hs2 : s2.length = 16) (hS : Hid (∀ u, Below w.heap.size w u → Calls Tryd.prog 32 #[.agg (U8 (ls)).toArray] u fun e w' => e = .returned (.agg (U8 (s1)).toArray) ∧ Below u.heap.size u w')) (hT : Hid (∀ u, Calls Tryd.prog 31 #[.agg (U8 (s1)).toArray, .int .i64 1] u fun e w' => e = .returned (.agg (U8 (s2)).toArray) ∧ Below u.heap.size u w')) (hs4 : s4.length = 16) (hX : Hid (∀ u, Calls Tryd.prog 34 #[.agg (U8 (s2)).toArray, .agg (U8 (ks)).toArray] u fun e w' => e = .returned (.agg (U8 (s4)).toArray) ∧ Below u.heap.size u w')) :
    Calls Tryd.prog 24 #[.int .i64 ((10 : Nat) : Int), .agg (U8 (ls)).toArray, .agg (U8 (ks)).toArray] w fun e w' => e = .returned (.agg (U8 (s4)).toArray) ∧ Below w.heap.size w w' := by
  go_enter Tryd.func24, Tryd.ntmps24
  go_upto_region 1 with fail
  generalize hC : (((w.alloc (.cells (U8 (ls) : List Value).toArray 32)).alloc (.cells (U8 (ks) : List Value).toArray 32)).alloc (.cells (Z16b : List Value).toArray 32)) = v0 at *
  have HB0 : Below w.heap.size w v0 := by rw [← hC]; exact balloc (balloc (balloc (bself w) _) _) _
  have K0 : Bk w.heap.size v0 [(true, w.heap.size, U8 (ls)), (true, w.heap.size + 1, U8 (ks)), (true, w.heap.size + 1 + 1, U8 (z16))] := by rw [← hC]; exact (Bk.nil _ w).ad.ad.ad
  clear hC
  refine rgP K0 HB0 HB0.size [] [] [(0, 7, .int .i64 ((10 : Nat) : Int)), (1, 8, .bool true)] [] [] [] ?_ ?_
  · refine oc g_mv ?_
    exact oc (g_bn (fun uZ => gtr_i _ _ ((10 : Nat) : Int) 0 true uZ (by decide))) on
  intro u1 HB1 sz1 K1
  simp only [fX, nK, nP, Wr.f, aK, pM] at K1
  simp only [setG, setN, List.set_cons_zero, List.set_cons_succ]
  clear K0 HB0
  go_upto_region 2 with fail
  refine rgP K1 HB1 HB1.size [.all 3 (U8 (s2))] [] [(0, 9, .agg (U8 (ls)).toArray), (1, 10, .agg (U8 (s1)).toArray), (2, 11, .agg (U8 (s2)).toArray)] [(3, 0)] [] [] ?_ ?_
  · refine oc (g_lR 0 0 (cs := U8 (ls)) (fun j v h => by rw [Nat.zero_add]; exact h) Tryd.underlying32 (by rw [U8_len, hll]; exact info__16_uint8)) ?_
    refine oc (g_cb ent_aes_substituted (fun uZ bZ => hS.out uZ bZ)) ?_
    refine oc (g_cl ent_aes_turned (fun uZ => hT.out uZ)) ?_
    exact oc (g_st 0 info__16_uint8 (h1 := U8_one _) (hm := by rw [U8_len, hs2]) (hl := by first | rw [U8_len, U8_len, hs2, hll] | rfl)) on
  intro u2 HB2 sz2 K2
  simp only [fX, nK, nP, Wr.f, aK, pM] at K2
  simp only [setG, setN, List.set_cons_zero, List.set_cons_succ]
  clear K1 HB1
  go_upto_region 3 with fail
  refine rgP K2 HB2 HB2.size [] [] [(0, 13, .int .i64 ((10 : Nat) : Int)), (1, 14, .bool true), (2, 15, .bool true), (3, 16, .int .i64 ((10 : Nat) : Int)), (4, 17, .bool false), (5, 18, .bool false), (6, 12, .bool false)] [] [] [] ?_ ?_
  · refine oc g_mv ?_
    refine oc (g_bn (fun uZ => lss_i _ _ 0 ((10 : Nat) : Int) true uZ (by decide))) ?_
    refine oc g_mv ?_
    refine oc g_mv ?_
    refine oc (g_bn (fun uZ => lss_i _ _ ((10 : Nat) : Int) 10 false uZ (by decide))) ?_
    refine oc g_pk ?_
    exact oc g_as on
  intro u3 HB3 sz3 K3
  simp only [fX, nK, nP, Wr.f, aK, pM] at K3
  simp only [setG, setN, List.set_cons_zero, List.set_cons_succ]
  clear K2 HB2
  go_upto_region 5 with fail
  refine rgP K3 HB3 HB3.size [.all 3 (U8 (s4))] [] [(0, 22, .agg (U8 (s2)).toArray), (1, 23, .agg (U8 (ks)).toArray), (2, 24, .agg (U8 (s4)).toArray)] [(3, 0)] [] [true, false] ?_ ?_
  · refine oc (g_lR 0 0 (cs := U8 (s2)) (fun j v h => by rw [Nat.zero_add]; exact h) Tryd.underlying32 (by rw [U8_len, hs2]; exact info__16_uint8)) ?_
    refine oc (g_lR 1 0 (cs := U8 (ks)) (fun j v h => by rw [Nat.zero_add]; exact h) Tryd.underlying32 (by rw [U8_len, hkl]; exact info__16_uint8)) ?_
    refine oc (g_cl ent_aes_xored (fun uZ => hX.out uZ)) ?_
    exact oc (g_st 0 info__16_uint8 (h1 := U8_one _) (hm := by rw [U8_len, hs4]) (hl := by first | rw [U8_len, U8_len, hs4, hs2] | rfl)) on
  intro u4 HB4 sz4 K4
  simp only [fX, nK, nP, Wr.f, aK, pM] at K4
  simp only [setG, setN, List.set_cons_zero, List.set_cons_succ]
  clear K3 HB3
  go_upto_region 6 with fail
  refine rgP K4 HB4 HB4.size [.no, .all 1 (U8 (s4))] [] [(0, 25, .agg (U8 (s4)).toArray)] [] [] [false] ?_ ?_
  · refine oc (g_lR 0 0 (cs := U8 (s4)) (fun j v h => by rw [Nat.zero_add]; exact h) Tryd.underlying32 (by rw [U8_len, hs4]; exact info__16_uint8)) ?_
    exact oc (g_st 1 info__16_uint8 (h1 := U8_one _) (hm := by rw [U8_len, hs4]) (hl := by first | rw [U8_len, U8_len, hs4, show z16.length = 16 from rfl] | rfl)) on
  intro u5 HB5 sz5 K5
  simp only [fX, nK, nP, Wr.f, aK, pM] at K5
  simp only [setG, setN, List.set_cons_zero, List.set_cons_succ]
  clear K4 HB4
  go_wp2
  refine bodyPost_ret (res_cell Tryd.results24 rfl (K5.cv 0) Tryd.underlying32 rfl (by rw [U8_len, hs4]; exact info__16_uint8)) rfl ⟨rfl, HB5⟩
/-- A round. -/
def ahB (i : Nat) (ls ks : List Nat) : List Nat := xorB (if i = 0 then ls else rdE i ls) ks
theorem ahB_B {i : Nat} {ls ks : List Nat} (hl : BY 16 ls) (hk : BY 16 ks) : BY 16 (ahB i ls ks) := by
  unfold ahB; split
  · exact xorB_B hl hk
  · exact xorB_B (rdE_B hl) hk
theorem cAhead (i : Nat) (ls ks : List Nat) (w : World) (hi : i ≤ 10) (hV : GS6 w) (hl : BY 16 ls) (hk : BY 16 ks) : Calls Tryd.prog 24 #[.int .i64 (i : Int), .agg (U8 ls).toArray, .agg (U8 ks).toArray] w fun e w' => e = .returned (.agg (U8 (ahB i ls ks)).toArray) ∧ Below w.heap.size w w' := by
  have hS := fun u (hB : Below w.heap.size w u) => cSubsd ls u (hV.up hB) hl
  have hT : ∀ u, Calls Tryd.prog 31 #[.agg (U8 (sbsB ls)).toArray, .int .i64 1] u fun e w' => e = .returned (.agg (U8 (subB ls)).toArray) ∧ Below u.heap.size u w' := fun u => by
    have h := cTurned 1 (sbsB ls) u (by decide) (sbsB_B hl)
    rw [trn_sub] at h; exact h
  have hs := subB_B hl
  rcases (by omega : i = 0 ∨ i = 10 ∨ (0 < i ∧ i < 10)) with rfl | rfl | ⟨h0, h1⟩
  · rw [show ahB 0 ls ks = xorB ls ks from rfl]
    exact cAhead_z ls ks _ w hl.len hk.len (xorB_B hl hk).len fun u => cXored ls ks u hl hk
  · rw [show ahB 10 ls ks = xorB (subB ls) ks from rfl]
    exact cAhead_e ls ks _ _ _ w hl.len hk.len hs.len hS hT (xorB_B hs hk).len fun u => cXored _ ks u hs hk
  · rw [show ahB i ls ks = xorB (mixB 2 3 1 1 (subB ls)) ks by rw [ahB, if_neg (by omega), rdE, if_pos h1]]
    exact cAhead_m i ls ks _ _ _ _ w hl.len hk.len (by simp; omega) (by simp; omega) hs.len hS hT (mixB_B hs).len (fun u => cMixed _ [2, 3, 1, 1] u hs (bd4b 2 3 1 1)) (xorB_B (mixB_B hs) hk).len fun u => cXored _ ks u (mixB_B hs) hk
set_option maxRecDepth 100000 in
set_option maxHeartbeats 4000000 in
theorem cBack_z (ls ks ts s1 : List Nat) (w : World) (hll : ls.length = 16) (hkl : ks.length = 16) (hs1 : s1.length = 16) (hX : Hid (∀ u, Calls Tryd.prog 34 #[.agg (U8 (ls)).toArray, .agg (U8 (ks)).toArray] u fun e w' => e = .returned (.agg (U8 (s1)).toArray) ∧ Below u.heap.size u w'))  :
    Calls Tryd.prog 29 #[.int .i64 ((0 : Nat) : Int), .agg (U8 (ls)).toArray, .agg (U8 (ks)).toArray, .agg (U8 (ts)).toArray] w fun e w' => e = .returned (.agg (U8 (s1)).toArray) ∧ Below w.heap.size w w' := by
  go_enter Tryd.func29, Tryd.ntmps29
  go_upto_region 1 with fail
  generalize hC : ((((w.alloc (.cells (U8 (ls) : List Value).toArray 32)).alloc (.cells (U8 (ks) : List Value).toArray 32)).alloc (.cells (U8 (ts) : List Value).toArray 49)).alloc (.cells (Z16b : List Value).toArray 32)) = v0 at *
  have HB0 : Below w.heap.size w v0 := by rw [← hC]; exact balloc (balloc (balloc (balloc (bself w) _) _) _) _
  have K0 : Bk w.heap.size v0 [(true, w.heap.size, U8 (ls)), (true, w.heap.size + 1, U8 (ks)), (true, w.heap.size + 1 + 1, U8 (ts)), (true, w.heap.size + 1 + 1 + 1, U8 (z16))] := by rw [← hC]; exact (Bk.nil _ w).ad.ad.ad.ad
  clear hC
  refine rgP K0 HB0 HB0.size [.all 3 (U8 (s1))] [] [(0, 11, .agg (U8 (ls)).toArray), (1, 12, .agg (U8 (ks)).toArray), (2, 13, .agg (U8 (s1)).toArray)] [(3, 0)] [] [true, false, false] ?_ ?_
  · refine oc (g_lR 0 0 (cs := U8 (ls)) (fun j v h => by rw [Nat.zero_add]; exact h) Tryd.underlying32 (by rw [U8_len, hll]; exact info__16_uint8)) ?_
    refine oc (g_lR 1 0 (cs := U8 (ks)) (fun j v h => by rw [Nat.zero_add]; exact h) Tryd.underlying32 (by rw [U8_len, hkl]; exact info__16_uint8)) ?_
    refine oc (g_cl ent_aes_xored (fun uZ => hX.out uZ)) ?_
    exact oc (g_st 0 info__16_uint8 (h1 := U8_one _) (hm := by rw [U8_len, hs1]) (hl := by first | rw [U8_len, U8_len, hs1, hll] | rfl)) on
  intro u1 HB1 sz1 K1
  simp only [fX, nK, nP, Wr.f, aK, pM] at K1
  simp only [setG, setN, List.set_cons_zero, List.set_cons_succ]
  clear K0 HB0
  go_upto_region 2 with fail
  refine rgP K1 HB1 HB1.size [] [] [(0, 15, .int .i64 ((0 : Nat) : Int)), (1, 16, .bool false), (2, 17, .bool false), (3, 18, undef), (4, 19, undef), (5, 20, (Go.Value.bool Bool.false)), (6, 14, (Go.Value.bool Bool.false))] [] [] [] ?_ ?_
  · refine oc g_mv ?_
    refine oc (g_bn (fun uZ => lss_i _ _ 0 ((0 : Nat) : Int) false uZ (by decide))) ?_
    refine oc g_mv ?_
    refine oc g_sk ?_
    refine oc g_sk ?_
    refine oc g_pk ?_
    exact oc g_as on
  intro u2 HB2 sz2 K2
  simp only [fX, nK, nP, Wr.f, aK, pM] at K2
  simp only [setG, setN, List.set_cons_zero, List.set_cons_succ]
  clear K1 HB1
  go_upto_region 3 with fail
  refine rgP K2 HB2 HB2.size [] [] [(0, 22, .int .i64 ((0 : Nat) : Int)), (1, 23, .bool false), (2, 21, .bool false)] [] [] [] ?_ ?_
  · refine oc g_mv ?_
    refine oc (g_bn (fun uZ => eqz_i _ _ ((0 : Nat) : Int) 10 false uZ (by decide))) ?_
    exact oc g_as on
  intro u3 HB3 sz3 K3
  simp only [fX, nK, nP, Wr.f, aK, pM] at K3
  simp only [setG, setN, List.set_cons_zero, List.set_cons_succ]
  clear K2 HB2
  go_upto_region 11 with fail
  refine rgP K3 HB3 HB3.size [.no, .all 1 (U8 (s1))] [] [(0, 40, .agg (U8 (s1)).toArray)] [] [] [false] ?_ ?_
  · refine oc (g_lR 0 0 (cs := U8 (s1)) (fun j v h => by rw [Nat.zero_add]; exact h) Tryd.underlying32 (by rw [U8_len, hs1]; exact info__16_uint8)) ?_
    exact oc (g_st 1 info__16_uint8 (h1 := U8_one _) (hm := by rw [U8_len, hs1]) (hl := by first | rw [U8_len, U8_len, hs1, show z16.length = 16 from rfl] | rfl)) on
  intro u4 HB4 sz4 K4
  simp only [fX, nK, nP, Wr.f, aK, pM] at K4
  simp only [setG, setN, List.set_cons_zero, List.set_cons_succ]
  clear K3 HB3
  go_wp2
  refine bodyPost_ret (res_cell Tryd.results29 rfl (K4.cv 0) Tryd.underlying32 rfl (by rw [U8_len, hs1]; exact info__16_uint8)) rfl ⟨rfl, HB4⟩
set_option maxRecDepth 100000 in
set_option maxHeartbeats 4000000 in
theorem cBack_m (i : Nat) (ls ks ts s1 s2 s3 : List Nat) (sA : Nat → List Nat) (w : World) (hll : ls.length = 16) (hkl : ks.length = 16) (hi0 : decide ((0 : Int) < (i : Int)) = true) (hi1 : decide ((i : Int) < 10) = true) (hs1 : s1.length = 16) (hX : Hid (∀ u, Calls Tryd.prog 34 #[.agg (U8 (ls)).toArray, .agg (U8 (ks)).toArray] u fun e w' => e = .returned (.agg (U8 (s1)).toArray) ∧ Below u.heap.size u w')) (hs2 : s2.length = 16) (hM : Hid (∀ u, Calls Tryd.prog 33 #[.agg (U8 (s1)).toArray, .agg (U8 ([14, 11, 13, 9])).toArray] u fun e w' => e = .returned (.agg (U8 (s2)).toArray) ∧ Below u.heap.size u w')) (hs3 : s3.length = 16) (hs3b : ∀ j, s3.getD j 0 < 256) (hT : Hid (∀ u, Calls Tryd.prog 31 #[.agg (U8 (s2)).toArray, .int .i64 3] u fun e w' => e = .returned (.agg (U8 (s3)).toArray) ∧ Below u.heap.size u w')) (htl : ts.length = 256) (hA0 : Hid (sA 0 = s3)) (hAs : Hid (∀ k, sA (k + 1) = (sA k).set k (ts.getD (s3.getD k 0) 0))) (hAW : Hid (∀ k, LE1 16 (sA k)))  :
    Calls Tryd.prog 29 #[.int .i64 (i : Int), .agg (U8 (ls)).toArray, .agg (U8 (ks)).toArray, .agg (U8 (ts)).toArray] w fun e w' => e = .returned (.agg (U8 (sA 16)).toArray) ∧ Below w.heap.size w w' := by
  go_enter Tryd.func29, Tryd.ntmps29
  go_upto_region 1 with fail
  generalize hC : ((((w.alloc (.cells (U8 (ls) : List Value).toArray 32)).alloc (.cells (U8 (ks) : List Value).toArray 32)).alloc (.cells (U8 (ts) : List Value).toArray 49)).alloc (.cells (Z16b : List Value).toArray 32)) = v0 at *
  have HB0 : Below w.heap.size w v0 := by rw [← hC]; exact balloc (balloc (balloc (balloc (bself w) _) _) _) _
  have K0 : Bk w.heap.size v0 [(true, w.heap.size, U8 (ls)), (true, w.heap.size + 1, U8 (ks)), (true, w.heap.size + 1 + 1, U8 (ts)), (true, w.heap.size + 1 + 1 + 1, U8 (z16))] := by rw [← hC]; exact (Bk.nil _ w).ad.ad.ad.ad
  clear hC
  refine rgP K0 HB0 HB0.size [.all 3 (U8 (s1))] [] [(0, 11, .agg (U8 (ls)).toArray), (1, 12, .agg (U8 (ks)).toArray), (2, 13, .agg (U8 (s1)).toArray)] [(3, 0)] [] [true, false] ?_ ?_
  · refine oc (g_lR 0 0 (cs := U8 (ls)) (fun j v h => by rw [Nat.zero_add]; exact h) Tryd.underlying32 (by rw [U8_len, hll]; exact info__16_uint8)) ?_
    refine oc (g_lR 1 0 (cs := U8 (ks)) (fun j v h => by rw [Nat.zero_add]; exact h) Tryd.underlying32 (by rw [U8_len, hkl]; exact info__16_uint8)) ?_
    refine oc (g_cl ent_aes_xored (fun uZ => hX.out uZ)) ?_
    exact oc (g_st 0 info__16_uint8 (h1 := U8_one _) (hm := by rw [U8_len, hs1]) (hl := by first | rw [U8_len, U8_len, hs1, hll] | rfl)) on
  intro u1 HB1 sz1 K1
  simp only [fX, nK, nP, Wr.f, aK, pM] at K1
  simp only [setG, setN, List.set_cons_zero, List.set_cons_succ]
  clear K0 HB0
  go_upto_region 2 with fail
  refine rgP K1 HB1 HB1.size [] [] [(0, 15, .int .i64 (i : Int)), (1, 16, .bool true), (2, 17, .bool true), (3, 18, .int .i64 (i : Int)), (4, 19, .bool true), (5, 20, .bool true), (6, 14, .bool true)] [] [] [] ?_ ?_
  · refine oc g_mv ?_
    refine oc (g_bn (fun uZ => lss_i _ _ 0 (i : Int) true uZ hi0)) ?_
    refine oc g_mv ?_
    refine oc g_mv ?_
    refine oc (g_bn (fun uZ => lss_i _ _ (i : Int) 10 true uZ hi1)) ?_
    refine oc g_pk ?_
    exact oc g_as on
  intro u2 HB2 sz2 K2
  simp only [fX, nK, nP, Wr.f, aK, pM] at K2
  simp only [setG, setN, List.set_cons_zero, List.set_cons_succ]
  clear K1 HB1
  go_upto_region 4 with fail
  refine rgP K2 HB2 HB2.size [.all 3 (U8 (s2))] [] [(0, 24, .agg (U8 (s1)).toArray), (1, 25, .agg (U8 ([14, 11, 13, 9])).toArray), (2, 26, .agg (U8 (s2)).toArray)] [(3, 0)] [] [] ?_ ?_
  · refine oc (g_lR 0 0 (cs := U8 (s1)) (fun j v h => by rw [Nat.zero_add]; exact h) Tryd.underlying32 (by rw [U8_len, hs1]; exact info__16_uint8)) ?_
    refine oc (g_bd (fun uZ => bd4 14 11 13 9 uZ)) ?_
    refine oc (g_cl ent_aes_mixed (fun uZ => hM.out uZ)) ?_
    exact oc (g_st 0 info__16_uint8 (h1 := U8_one _) (hm := by rw [U8_len, hs2]) (hl := by first | rw [U8_len, U8_len, hs2, hs1] | rfl)) on
  intro u3 HB3 sz3 K3
  simp only [fX, nK, nP, Wr.f, aK, pM] at K3
  simp only [setG, setN, List.set_cons_zero, List.set_cons_succ]
  clear K2 HB2
  go_upto_region 5 with fail
  refine rgP K3 HB3 HB3.size [.all 2 (U8 (s3))] [] [(0, 27, .agg (U8 (s2)).toArray), (1, 28, .agg (U8 (s3)).toArray)] [(2, 0)] [] [] ?_ ?_
  · refine oc (g_lR 0 0 (cs := U8 (s2)) (fun j v h => by rw [Nat.zero_add]; exact h) Tryd.underlying32 (by rw [U8_len, hs2]; exact info__16_uint8)) ?_
    refine oc (g_cl ent_aes_turned (fun uZ => hT.out uZ)) ?_
    exact oc (g_st 0 info__16_uint8 (h1 := U8_one _) (hm := by rw [U8_len, hs3]) (hl := by first | rw [U8_len, U8_len, hs3, hs2] | rfl)) on
  intro u4 HB4 sz4 K4
  simp only [fX, nK, nP, Wr.f, aK, pM] at K4
  simp only [setG, setN, List.set_cons_zero, List.set_cons_succ]
  clear K3 HB3
  go_upto_region 6 with fail
  refine rgP K4 HB4 HB4.size [] [] [(0, 29, .agg (U8 (s3)).toArray), (1, 30, (Go.Value.int Go.IntKind.i64 0))] [] [] [] ?_ ?_
  · refine oc (g_lR 0 0 (cs := U8 (s3)) (fun j v h => by rw [Nat.zero_add]; exact h) Tryd.underlying32 (by rw [U8_len, hs3]; exact info__16_uint8)) ?_
    exact oc g_mv on
  intro u5 HB5 sz5 K5
  simp only [fX, nK, nP, Wr.f, aK, pM] at K5
  simp only [setG, setN, List.set_cons_zero, List.set_cons_succ]
  clear K4 HB4
  go_wp2_with fail
  go_loopw [30] (fun s30 wr => ∃ (k : Nat), k ≤ 16 ∧ s30 = .int .i64 (k : Int) ∧ Below w.heap.size w wr ∧ Hid (CV wr (w.heap.size) (U8 (sA k))) ∧ Hid (CV wr (w.heap.size + 1 + 1) (U8 (ts))) ∧ Hid (CV wr (w.heap.size + 1 + 1 + 1) (U8 (z16))) ∧ w.heap.size + 1 + 1 + 1 < wr.heap.size) (fun s30 _ => 16 - (intOf s30).toNat)
  case atStart => exact ⟨0, by omega, rfl, HB5, (by rw [hA0.out]; exact (K5.cv 0)), (K5.cv 1), (K5.cv 2), (K5.lt 2)⟩
  case round =>
    obtain ⟨k, hk, rfl, HBr, Kb, Kt, Kr, lr⟩ := hrel
    clear HB5
    by_cases hj : k < 16
    · have hl1 : decide ((k : Int) < 16) = true := by simp; omega
      have hW := hAW.out k
      have hA := hAs.out k
      obtain ⟨ws, ews⟩ : ∃ ws, sA k = ws := ⟨_, rfl⟩
      rw [ews] at hW hA Kb
      have hlen := hW.len
      have hg := U8_get ws k (by omega)
      obtain ⟨v, ev0⟩ : ∃ v, ws.getD k 0 = v := ⟨_, rfl⟩
      rw [ev0] at hg
      obtain ⟨x, ex⟩ : ∃ x, s3.getD k 0 = x := ⟨_, rfl⟩
      have hx := hs3b k
      have hix := fun (o : Oper) (ev : Operand → Value) (x z : Operand) u => @ix16v o ev 32 x z s3 k u rfl
      rw [ex] at hA hx hix
      have hgt := U8_get ts x (by omega)
      obtain ⟨y, ey⟩ : ∃ y, ts.getD x 0 = y := ⟨_, rfl⟩
      rw [ey] at hA hgt
      have hix : Hid _ := hix
      have hA : Hid _ := hA
      clear ews ev0 ex ey
      have hnK := K5.n
      simp at hnK
      have K5_1 : Bk w.heap.size wr [(true, w.heap.size, U8 (ws)), (false, w.heap.size + 1 + 1, U8 (ts)), (false, w.heap.size + 1 + 1 + 1, U8 (z16))] := ⟨.o (by omega) (K5.lo 0) Kb.out <| .c (by omega) Kt.out <| .c lr Kr.out <| trivial, by simp <;> omega⟩
      go_upto_region 7 with fail
      refine rgP K5_1 HBr HBr.size [] [] [(0, 31, .bool true)] [] [] [] ?_ ?_
      · exact oc (g_bn (fun uZ => lss_i _ _ (k : Int) 16 _ uZ hl1)) on
      intro u6 HB6 sz6 K6
      simp only [fX, nK, nP, Wr.f, aK, pM] at K6
      simp only [setG, setN, List.set_cons_zero, List.set_cons_succ]
      go_upto_region 8 with fail
      refine rgP K6 HB6 HB6.size [] [] [(0, 32, .int .i64 (k : Int)), (1, 33, .int .u8 ((x : Nat) : Int)), (2, 9, .int .i64 (k : Int)), (3, 10, .int .u8 ((x : Nat) : Int))] [] [] [] ?_ ?_
      · refine oc g_mv ?_
        refine oc (g_op (fun ev uZ he => hix.out _ ev _ _ uZ rfl (he _ _ rfl) (he _ _ rfl) hs3 hj)) ?_
        refine oc g_as ?_
        exact oc g_as on
      intro u7 HB7 sz7 K7
      simp only [fX, nK, nP, Wr.f, aK, pM] at K7
      simp only [setG, setN, List.set_cons_zero, List.set_cons_succ]
      clear K6 HB6
      go_upto_region 9 with fail
      refine rgP K7 HB7 HB7.size [.all 5 (U8 (ws.set k y))] [] [(0, 34, .int .i64 (k : Int)), (1, 35, .int .u8 ((x : Nat) : Int)), (2, 36, .pointer (some ⟨w.heap.size + 1 + 1, x, none⟩)), (3, 37, .int .u8 ((y : Nat) : Int)), (4, 38, .pointer (some ⟨w.heap.size, k, none⟩))] [] [] [] ?_ ?_
      · refine oc g_mv ?_
        refine oc g_mv ?_
        refine oc (g_ix (fun uZ => xb256 (w.heap.size + 1 + 1) x uZ hx)) ?_
        refine oc (g_lw 1 (x) l8 (hgt)) ?_
        refine oc (g_ix (fun uZ => xb16 (w.heap.size) k uZ hj)) ?_
        exact oc (g_sw 0 (k) s8 (hg) (U8_set _ _ _)) on
      intro u8 HB8 sz8 K8
      simp only [fX, nK, nP, Wr.f, aK, pM] at K8
      simp only [setG, setN, List.set_cons_zero, List.set_cons_succ]
      clear K7 HB7
      go_upto_region 10 with fail
      refine rgP K8 HB8 HB8.size [] [] [(0, 39, .int .i64 ((k + 1 : Nat) : Int)), (1, 30, .int .i64 ((k + 1 : Nat) : Int))] [(1, 0)] [(1, 30)] [] ?_ ?_
      · refine oc (g_bn (fun uZ => add_i _ _ (k : Int) 1 ((k + 1 : Nat) : Int) uZ (by omega) (by omega) (by omega))) ?_
        exact oc g_mv on
      intro u9 HB9 sz9 K9
      simp only [fX, nK, nP, Wr.f, aK, pM] at K9
      simp only [setG, setN, List.set_cons_zero, List.set_cons_succ]
      clear K8 HB8
      go_wp2
      refine ⟨⟨k + 1, by omega, rfl, HB9, (by rw [hA.out]; exact (K9.cv 0)), (K9.cv 1), (K9.cv 2), (K9.lt 2)⟩, ?_⟩
      simp [intOf] <;> omega
    · have hl1 : decide ((k : Int) < 16) = false := by simp; omega
      have hk16 : k = 16 := by omega
      subst hk16
      have hWs : (sA 16).length = 16 := (hAW.out 16).len
      have hnK := K5.n
      simp at hnK
      have K5_1 : Bk w.heap.size wr [(false, w.heap.size, U8 (sA 16)), (false, w.heap.size + 1 + 1, U8 (ts)), (true, w.heap.size + 1 + 1 + 1, U8 (z16))] := ⟨.c (by omega) Kb.out <| .c (by omega) Kt.out <| .o lr (K5.lo 2) Kr.out <| trivial, by simp <;> omega⟩
      go_upto_region 7 with fail
      refine rgP K5_1 HBr HBr.size [] [] [(0, 31, .bool false)] [] [] [true, false] ?_ ?_
      · exact oc (g_bn (fun uZ => lss_i _ _ ((16 : Nat) : Int) 16 _ uZ hl1)) on
      intro u6 HB6 sz6 K6
      simp only [fX, nK, nP, Wr.f, aK, pM] at K6
      simp only [setG, setN, List.set_cons_zero, List.set_cons_succ]
      go_upto_region 11 with fail
      refine rgP K6 HB6 HB6.size [.no, .all 1 (U8 (sA 16))] [] [(0, 40, .agg (U8 (sA 16)).toArray)] [] [] [false] ?_ ?_
      · refine oc (g_lR 0 0 (cs := U8 (sA 16)) (fun j v h => by rw [Nat.zero_add]; exact h) Tryd.underlying32 (by rw [U8_len, hWs]; exact info__16_uint8)) ?_
        exact oc (g_st 1 info__16_uint8 (h1 := U8_one _) (hm := by rw [U8_len, hWs]) (hl := by first | rw [U8_len, U8_len, hWs, show z16.length = 16 from rfl] | rfl)) on
      intro u7 HB7 sz7 K7
      simp only [fX, nK, nP, Wr.f, aK, pM] at K7
      simp only [setG, setN, List.set_cons_zero, List.set_cons_succ]
      clear K6 HB6
      go_wp2
      refine bodyPost_ret (res_cell Tryd.results29 rfl (K7.cv 0) Tryd.underlying32 rfl (by rw [U8_len, hWs]; exact info__16_uint8)) rfl ⟨rfl, HB7⟩
set_option maxRecDepth 100000 in
set_option maxHeartbeats 4000000 in
theorem cBack_e (ls ks ts s1 s3 : List Nat) (sA : Nat → List Nat) (w : World) (hll : ls.length = 16) (hkl : ks.length = 16) (hs1 : s1.length = 16) (hX : Hid (∀ u, Calls Tryd.prog 34 #[.agg (U8 (ls)).toArray, .agg (U8 (ks)).toArray] u fun e w' => e = .returned (.agg (U8 (s1)).toArray) ∧ Below u.heap.size u w')) (hs3 : s3.length = 16) (hs3b : ∀ j, s3.getD j 0 < 256) (hT : Hid (∀ u, Calls Tryd.prog 31 #[.agg (U8 (s1)).toArray, .int .i64 3] u fun e w' => e = .returned (.agg (U8 (s3)).toArray) ∧ Below u.heap.size u w')) (htl : ts.length = 256) (hA0 : Hid (sA 0 = s3)) (hAs : Hid (∀ k, sA (k + 1) = (sA k).set k (ts.getD (s3.getD k 0) 0))) (hAW : Hid (∀ k, LE1 16 (sA k)))  :
    Calls Tryd.prog 29 #[.int .i64 ((10 : Nat) : Int), .agg (U8 (ls)).toArray, .agg (U8 (ks)).toArray, .agg (U8 (ts)).toArray] w fun e w' => e = .returned (.agg (U8 (sA 16)).toArray) ∧ Below w.heap.size w w' := by
  go_enter Tryd.func29, Tryd.ntmps29
  go_upto_region 1 with fail
  generalize hC : ((((w.alloc (.cells (U8 (ls) : List Value).toArray 32)).alloc (.cells (U8 (ks) : List Value).toArray 32)).alloc (.cells (U8 (ts) : List Value).toArray 49)).alloc (.cells (Z16b : List Value).toArray 32)) = v0 at *
  have HB0 : Below w.heap.size w v0 := by rw [← hC]; exact balloc (balloc (balloc (balloc (bself w) _) _) _) _
  have K0 : Bk w.heap.size v0 [(true, w.heap.size, U8 (ls)), (true, w.heap.size + 1, U8 (ks)), (true, w.heap.size + 1 + 1, U8 (ts)), (true, w.heap.size + 1 + 1 + 1, U8 (z16))] := by rw [← hC]; exact (Bk.nil _ w).ad.ad.ad.ad
  clear hC
  refine rgP K0 HB0 HB0.size [.all 3 (U8 (s1))] [] [(0, 11, .agg (U8 (ls)).toArray), (1, 12, .agg (U8 (ks)).toArray), (2, 13, .agg (U8 (s1)).toArray)] [(3, 0)] [] [true, false] ?_ ?_
  · refine oc (g_lR 0 0 (cs := U8 (ls)) (fun j v h => by rw [Nat.zero_add]; exact h) Tryd.underlying32 (by rw [U8_len, hll]; exact info__16_uint8)) ?_
    refine oc (g_lR 1 0 (cs := U8 (ks)) (fun j v h => by rw [Nat.zero_add]; exact h) Tryd.underlying32 (by rw [U8_len, hkl]; exact info__16_uint8)) ?_
    refine oc (g_cl ent_aes_xored (fun uZ => hX.out uZ)) ?_
    exact oc (g_st 0 info__16_uint8 (h1 := U8_one _) (hm := by rw [U8_len, hs1]) (hl := by first | rw [U8_len, U8_len, hs1, hll] | rfl)) on
  intro u1 HB1 sz1 K1
  simp only [fX, nK, nP, Wr.f, aK, pM] at K1
  simp only [setG, setN, List.set_cons_zero, List.set_cons_succ]
  clear K0 HB0
  go_upto_region 2 with fail
  refine rgP K1 HB1 HB1.size [] [] [(0, 15, .int .i64 ((10 : Nat) : Int)), (1, 16, .bool true), (2, 17, .bool true), (3, 18, .int .i64 ((10 : Nat) : Int)), (4, 19, .bool false), (5, 20, .bool false), (6, 14, .bool false)] [] [] [] ?_ ?_
  · refine oc g_mv ?_
    refine oc (g_bn (fun uZ => lss_i _ _ 0 ((10 : Nat) : Int) true uZ (by decide))) ?_
    refine oc g_mv ?_
    refine oc g_mv ?_
    refine oc (g_bn (fun uZ => lss_i _ _ ((10 : Nat) : Int) 10 false uZ (by decide))) ?_
    refine oc g_pk ?_
    exact oc g_as on
  intro u2 HB2 sz2 K2
  simp only [fX, nK, nP, Wr.f, aK, pM] at K2
  simp only [setG, setN, List.set_cons_zero, List.set_cons_succ]
  clear K1 HB1
  go_upto_region 3 with fail
  refine rgP K2 HB2 HB2.size [] [] [(0, 22, .int .i64 ((10 : Nat) : Int)), (1, 23, .bool true), (2, 21, .bool true)] [] [] [] ?_ ?_
  · refine oc g_mv ?_
    refine oc (g_bn (fun uZ => eqz_i _ _ ((10 : Nat) : Int) 10 true uZ (by decide))) ?_
    exact oc g_as on
  intro u3 HB3 sz3 K3
  simp only [fX, nK, nP, Wr.f, aK, pM] at K3
  simp only [setG, setN, List.set_cons_zero, List.set_cons_succ]
  clear K2 HB2
  go_upto_region 5 with fail
  refine rgP K3 HB3 HB3.size [.all 2 (U8 (s3))] [] [(0, 27, .agg (U8 (s1)).toArray), (1, 28, .agg (U8 (s3)).toArray)] [(2, 0)] [] [] ?_ ?_
  · refine oc (g_lR 0 0 (cs := U8 (s1)) (fun j v h => by rw [Nat.zero_add]; exact h) Tryd.underlying32 (by rw [U8_len, hs1]; exact info__16_uint8)) ?_
    refine oc (g_cl ent_aes_turned (fun uZ => hT.out uZ)) ?_
    exact oc (g_st 0 info__16_uint8 (h1 := U8_one _) (hm := by rw [U8_len, hs3]) (hl := by first | rw [U8_len, U8_len, hs3, hs1] | rfl)) on
  intro u4 HB4 sz4 K4
  simp only [fX, nK, nP, Wr.f, aK, pM] at K4
  simp only [setG, setN, List.set_cons_zero, List.set_cons_succ]
  clear K3 HB3
  go_upto_region 6 with fail
  refine rgP K4 HB4 HB4.size [] [] [(0, 29, .agg (U8 (s3)).toArray), (1, 30, (Go.Value.int Go.IntKind.i64 0))] [] [] [] ?_ ?_
  · refine oc (g_lR 0 0 (cs := U8 (s3)) (fun j v h => by rw [Nat.zero_add]; exact h) Tryd.underlying32 (by rw [U8_len, hs3]; exact info__16_uint8)) ?_
    exact oc g_mv on
  intro u5 HB5 sz5 K5
  simp only [fX, nK, nP, Wr.f, aK, pM] at K5
  simp only [setG, setN, List.set_cons_zero, List.set_cons_succ]
  clear K4 HB4
  go_wp2_with fail
  go_loopw [30] (fun s30 wr => ∃ (k : Nat), k ≤ 16 ∧ s30 = .int .i64 (k : Int) ∧ Below w.heap.size w wr ∧ Hid (CV wr (w.heap.size) (U8 (sA k))) ∧ Hid (CV wr (w.heap.size + 1 + 1) (U8 (ts))) ∧ Hid (CV wr (w.heap.size + 1 + 1 + 1) (U8 (z16))) ∧ w.heap.size + 1 + 1 + 1 < wr.heap.size) (fun s30 _ => 16 - (intOf s30).toNat)
  case atStart => exact ⟨0, by omega, rfl, HB5, (by rw [hA0.out]; exact (K5.cv 0)), (K5.cv 1), (K5.cv 2), (K5.lt 2)⟩
  case round =>
    obtain ⟨k, hk, rfl, HBr, Kb, Kt, Kr, lr⟩ := hrel
    clear HB5
    by_cases hj : k < 16
    · have hl1 : decide ((k : Int) < 16) = true := by simp; omega
      have hW := hAW.out k
      have hA := hAs.out k
      obtain ⟨ws, ews⟩ : ∃ ws, sA k = ws := ⟨_, rfl⟩
      rw [ews] at hW hA Kb
      have hlen := hW.len
      have hg := U8_get ws k (by omega)
      obtain ⟨v, ev0⟩ : ∃ v, ws.getD k 0 = v := ⟨_, rfl⟩
      rw [ev0] at hg
      obtain ⟨x, ex⟩ : ∃ x, s3.getD k 0 = x := ⟨_, rfl⟩
      have hx := hs3b k
      have hix := fun (o : Oper) (ev : Operand → Value) (x z : Operand) u => @ix16v o ev 32 x z s3 k u rfl
      rw [ex] at hA hx hix
      have hgt := U8_get ts x (by omega)
      obtain ⟨y, ey⟩ : ∃ y, ts.getD x 0 = y := ⟨_, rfl⟩
      rw [ey] at hA hgt
      have hix : Hid _ := hix
      have hA : Hid _ := hA
      clear ews ev0 ex ey
      have hnK := K5.n
      simp at hnK
      have K5_1 : Bk w.heap.size wr [(true, w.heap.size, U8 (ws)), (false, w.heap.size + 1 + 1, U8 (ts)), (false, w.heap.size + 1 + 1 + 1, U8 (z16))] := ⟨.o (by omega) (K5.lo 0) Kb.out <| .c (by omega) Kt.out <| .c lr Kr.out <| trivial, by simp <;> omega⟩
      go_upto_region 7 with fail
      refine rgP K5_1 HBr HBr.size [] [] [(0, 31, .bool true)] [] [] [] ?_ ?_
      · exact oc (g_bn (fun uZ => lss_i _ _ (k : Int) 16 _ uZ hl1)) on
      intro u6 HB6 sz6 K6
      simp only [fX, nK, nP, Wr.f, aK, pM] at K6
      simp only [setG, setN, List.set_cons_zero, List.set_cons_succ]
      go_upto_region 8 with fail
      refine rgP K6 HB6 HB6.size [] [] [(0, 32, .int .i64 (k : Int)), (1, 33, .int .u8 ((x : Nat) : Int)), (2, 9, .int .i64 (k : Int)), (3, 10, .int .u8 ((x : Nat) : Int))] [] [] [] ?_ ?_
      · refine oc g_mv ?_
        refine oc (g_op (fun ev uZ he => hix.out _ ev _ _ uZ rfl (he _ _ rfl) (he _ _ rfl) hs3 hj)) ?_
        refine oc g_as ?_
        exact oc g_as on
      intro u7 HB7 sz7 K7
      simp only [fX, nK, nP, Wr.f, aK, pM] at K7
      simp only [setG, setN, List.set_cons_zero, List.set_cons_succ]
      clear K6 HB6
      go_upto_region 9 with fail
      refine rgP K7 HB7 HB7.size [.all 5 (U8 (ws.set k y))] [] [(0, 34, .int .i64 (k : Int)), (1, 35, .int .u8 ((x : Nat) : Int)), (2, 36, .pointer (some ⟨w.heap.size + 1 + 1, x, none⟩)), (3, 37, .int .u8 ((y : Nat) : Int)), (4, 38, .pointer (some ⟨w.heap.size, k, none⟩))] [] [] [] ?_ ?_
      · refine oc g_mv ?_
        refine oc g_mv ?_
        refine oc (g_ix (fun uZ => xb256 (w.heap.size + 1 + 1) x uZ hx)) ?_
        refine oc (g_lw 1 (x) l8 (hgt)) ?_
        refine oc (g_ix (fun uZ => xb16 (w.heap.size) k uZ hj)) ?_
        exact oc (g_sw 0 (k) s8 (hg) (U8_set _ _ _)) on
      intro u8 HB8 sz8 K8
      simp only [fX, nK, nP, Wr.f, aK, pM] at K8
      simp only [setG, setN, List.set_cons_zero, List.set_cons_succ]
      clear K7 HB7
      go_upto_region 10 with fail
      refine rgP K8 HB8 HB8.size [] [] [(0, 39, .int .i64 ((k + 1 : Nat) : Int)), (1, 30, .int .i64 ((k + 1 : Nat) : Int))] [(1, 0)] [(1, 30)] [] ?_ ?_
      · refine oc (g_bn (fun uZ => add_i _ _ (k : Int) 1 ((k + 1 : Nat) : Int) uZ (by omega) (by omega) (by omega))) ?_
        exact oc g_mv on
      intro u9 HB9 sz9 K9
      simp only [fX, nK, nP, Wr.f, aK, pM] at K9
      simp only [setG, setN, List.set_cons_zero, List.set_cons_succ]
      clear K8 HB8
      go_wp2
      refine ⟨⟨k + 1, by omega, rfl, HB9, (by rw [hA.out]; exact (K9.cv 0)), (K9.cv 1), (K9.cv 2), (K9.lt 2)⟩, ?_⟩
      simp [intOf] <;> omega
    · have hl1 : decide ((k : Int) < 16) = false := by simp; omega
      have hk16 : k = 16 := by omega
      subst hk16
      have hWs : (sA 16).length = 16 := (hAW.out 16).len
      have hnK := K5.n
      simp at hnK
      have K5_1 : Bk w.heap.size wr [(false, w.heap.size, U8 (sA 16)), (false, w.heap.size + 1 + 1, U8 (ts)), (true, w.heap.size + 1 + 1 + 1, U8 (z16))] := ⟨.c (by omega) Kb.out <| .c (by omega) Kt.out <| .o lr (K5.lo 2) Kr.out <| trivial, by simp <;> omega⟩
      go_upto_region 7 with fail
      refine rgP K5_1 HBr HBr.size [] [] [(0, 31, .bool false)] [] [] [true, false] ?_ ?_
      · exact oc (g_bn (fun uZ => lss_i _ _ ((16 : Nat) : Int) 16 _ uZ hl1)) on
      intro u6 HB6 sz6 K6
      simp only [fX, nK, nP, Wr.f, aK, pM] at K6
      simp only [setG, setN, List.set_cons_zero, List.set_cons_succ]
      go_upto_region 11 with fail
      refine rgP K6 HB6 HB6.size [.no, .all 1 (U8 (sA 16))] [] [(0, 40, .agg (U8 (sA 16)).toArray)] [] [] [false] ?_ ?_
      · refine oc (g_lR 0 0 (cs := U8 (sA 16)) (fun j v h => by rw [Nat.zero_add]; exact h) Tryd.underlying32 (by rw [U8_len, hWs]; exact info__16_uint8)) ?_
        exact oc (g_st 1 info__16_uint8 (h1 := U8_one _) (hm := by rw [U8_len, hWs]) (hl := by first | rw [U8_len, U8_len, hWs, show z16.length = 16 from rfl] | rfl)) on
      intro u7 HB7 sz7 K7
      simp only [fX, nK, nP, Wr.f, aK, pM] at K7
      simp only [setG, setN, List.set_cons_zero, List.set_cons_succ]
      clear K6 HB6
      go_wp2
      refine bodyPost_ret (res_cell Tryd.results29 rfl (K7.cv 0) Tryd.underlying32 rfl (by rw [U8_len, hWs]; exact info__16_uint8)) rfl ⟨rfl, HB7⟩
/-- A round's way back. -/
def bkB (i : Nat) (ls ks : List Nat) : List Nat := if i = 0 then xorB ls ks else rdD i (xorB ls ks)
theorem bkB_B {i : Nat} {ls ks : List Nat} (hl : BY 16 ls) (hk : BY 16 ks) : BY 16 (bkB i ls ks) := by
  unfold bkB; split
  · exact xorB_B hl hk
  · exact rdD_B (xorB_B hl hk)
theorem cBack (i : Nat) (ls ks : List Nat) (w : World) (hi : i ≤ 10) (hl : BY 16 ls) (hk : BY 16 ks) : Calls Tryd.prog 29 #[.int .i64 (i : Int), .agg (U8 ls).toArray, .agg (U8 ks).toArray, .agg (U8 rbT).toArray] w fun e w' => e = .returned (.agg (U8 (bkB i ls ks)).toArray) ∧ Below w.heap.size w w' := by
  have hx := xorB_B hl hk
  have hX := fun u => cXored ls ks u hl hk
  have hT : ∀ a, BY 16 a → ∀ u, Calls Tryd.prog 31 #[.agg (U8 a).toArray, .int .i64 3] u fun e w' => e = .returned (.agg (U8 (trnB 3 a)).toArray) ∧ Below u.heap.size u w' := fun a ha u => cTurned 3 a u (by decide) ha
  have E : ∀ a, BY 16 a → upB (trnB 3 a) (fun k => rbT.getD ((trnB 3 a).getD k 0) 0) 16 = busB a := fun a ha => by
    rw [upB_16 (trnB_B ha).len, ← rbs_trn]; rfl
  have L : ∀ (a : List Nat) (f : Nat → Nat), BY 16 a → ∀ k, LE1 16 (upB (trnB 3 a) f k) := fun a f ha k => ⟨by rw [upB_len]; exact (trnB_B ha).len⟩
  rcases (by omega : i = 0 ∨ i = 10 ∨ (0 < i ∧ i < 10)) with rfl | rfl | ⟨h0, h1⟩
  · rw [show bkB 0 ls ks = xorB ls ks from rfl]
    exact cBack_z ls ks _ _ w hl.len hk.len hx.len hX
  · rw [show bkB 10 ls ks = busB (xorB ls ks) from rfl, ← E _ hx]
    exact cBack_e ls ks _ _ _ (upB (trnB 3 (xorB ls ks)) _) w hl.len hk.len hx.len hX (trnB_B hx).len (trnB_B hx).lt (hT _ hx) rbT_len rfl (fun _ => rfl) (L _ _ hx)
  · have hm := mixB_B (c0 := 14) (c1 := 11) (c2 := 13) (c3 := 9) hx
    rw [show bkB i ls ks = busB (mixB 14 11 13 9 (xorB ls ks)) by rw [bkB, if_neg (by omega), rdD, if_pos h1], ← E _ hm]
    exact cBack_m i ls ks _ _ _ _ (upB (trnB 3 (mixB 14 11 13 9 (xorB ls ks))) _) w hl.len hk.len (by simp; omega) (by simp; omega) hx.len hX hm.len (fun u => cMixed _ [14, 11, 13, 9] u hx (bd4b 14 11 13 9)) (trnB_B hm).len (trnB_B hm).lt (hT _ hm) rbT_len rfl (fun _ => rfl) (L _ _ hm)
end Go.Proofs.YtlcjbnhfmcnnfaaDoor
