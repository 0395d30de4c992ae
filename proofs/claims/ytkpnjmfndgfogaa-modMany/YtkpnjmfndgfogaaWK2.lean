/- The chapter's examples: works. -/
import Derived.Test.YtkpnjmfndgfogaaRC
import Derived.Test.YtkpnjmfndgfogaaMO7
import Derived.Test.YtkpnjmfndgfogaaRS
namespace Go.Proofs.Ytkpnjmfndgfogaa
open Go.RowKit
set_option linter.unusedVariables false
set_option linter.unusedSimpArgs false
set_option maxRecDepth 100000 in
set_option maxHeartbeats 2000000 in
theorem bNat_any (n : Int) (w : World) (h0 : 0 ≤ n) (h1 : n < 9223372036854775808) : Calls Try.prog 42 #[.int .i64 n] w fun e w' => e = .returned (NV n) ∧ Below w.heap.size w w' := by
  rw [NV_small h0 (by omega)]
  have hw : IntKind.u64.wrap n = n := by simp [IntKind.wrap, IntKind.signed, IntKind.bits]; omega
  go_enter Try.func42, Try.ntmps42
  go_wp2
  go_returns
  exact ⟨by simp, by go_grown⟩
theorem In_k {n : Int} (h0 : 0 ≤ n) (h1 : n < 18446744073709551616) : In n := ⟨h0, by omega⟩
theorem exp_ex (u : World) : Calls Try.prog 64 #[NV 2, NV 10, NV 1000] u fun en u' => en = .returned (.tuple #[NV 24, .int .i64 0]) ∧ Below u.heap.size u u' := by
  have k := mExp 2 10 1000 u (In_k (by decide) (by decide)) (In_k (by decide) (by decide)) (In_k (by decide) (by decide)) (by decide)
  rw [show (2 : Int) ^ (10 : Int).toNat % 1000 = 24 by decide] at k
  exact k
theorem inv_ex (u : World) : Calls Try.prog 21 #[NV 3, NV 10] u fun en u' => en = .returned (.tuple #[NV 7, .int .i64 0]) ∧ Below u.heap.size u u' :=
  mInverse 3 10 7 u (In_k (by decide) (by decide)) (In_k (by decide) (by decide)) (by decide) (by decide) ⟨by decide, by decide, by decide⟩
theorem inv_no (u : World) : Calls Try.prog 21 #[NV 2, NV 10] u fun en u' => en = .returned (.tuple #[A4 0 0 0 0, .int .i64 20]) ∧ Below u.heap.size u u' :=
  mInverse_no 2 10 u (In_k (by decide) (by decide)) (In_k (by decide) (by decide)) (by decide) (by decide)
theorem gcd_ex (u : World) : Calls Try.prog 23 #[NV 12, NV 18] u fun en u' => en = .returned (NV 6) ∧ Below u.heap.size u u' := by
  have k := mGcd 12 18 u (In_k (by decide) (by decide)) (In_k (by decide) (by decide))
  rw [show gI 12 18 = 6 by decide] at k
  exact k
set_option maxRecDepth 100000 in
set_option maxHeartbeats 2000000 in
theorem works2 (w : World) : Calls Try.prog 25 #[] w fun e w' => e = .returned (.bool true) ∧ Below w.heap.size w w' := by
  go_enter Try.func25, Try.ntmps25
  have HB0 : Below w.heap.size w w := Below.refl _ _
  have K0_1 := Bk.nil (w.heap.size) w
  go_upto_region 1 with fail
  refine rgP K0_1 HB0 HB0.size [] [(7, 1, L0s, some (8, LN 24))] [(0, 8, NV 2), (1, 9, NV 10), (2, 10, NV 1000), (3, 11, .tuple #[NV 24, .int .i64 0]), (4, 7, .tuple #[NV 24, .int .i64 0]), (5, 12, NV 24), (6, 13, .int .i64 0), (9, 2, .int .i64 0)] [(8, 7)] [] [] ?_ ?_
  · refine oc (g_cl ent_seneschalbase_Nat (fun uZ => bNat_any 2 uZ (by omega) (by omega))) ?_
    refine oc (g_cl ent_seneschalbase_Nat (fun uZ => bNat_any 10 uZ (by omega) (by omega))) ?_
    refine oc (g_cl ent_seneschalbase_Nat (fun uZ => bNat_any 1000 uZ (by omega) (by omega))) ?_
    refine oc (g_cl ent_mod_Exp (fun uZ => exp_ex uZ)) ?_
    refine oc g_mv ?_
    refine oc g_ex ?_
    refine oc g_ex ?_
    refine oc (g_al 0 aN) ?_
    refine oc (g_sn 0 iN) ?_
    exact oc g_as on
  intro u1 b1_7 HB1 sz1 K1
  simp only [fX, nK, nP, Wr.f, aK, pM] at K1
  simp only [setG, setN, List.set_cons_zero, List.set_cons_succ]
  clear HB0
  go_upto_region 2 with fail
  refine rgP K1 HB1 HB1.size [] [(6, 3, L0s, some (7, LN 7))] [(0, 15, NV 3), (1, 16, NV 10), (2, 17, .tuple #[NV 7, .int .i64 0]), (3, 14, .tuple #[NV 7, .int .i64 0]), (4, 18, NV 7), (5, 19, .int .i64 0), (8, 4, .int .i64 0)] [(7, 6)] [] [] ?_ ?_
  · refine oc (g_cl ent_seneschalbase_Nat (fun uZ => bNat_any 3 uZ (by omega) (by omega))) ?_
    refine oc (g_cl ent_seneschalbase_Nat (fun uZ => bNat_any 10 uZ (by omega) (by omega))) ?_
    refine oc (g_cl ent_mod_Inverse (fun uZ => inv_ex uZ)) ?_
    refine oc g_mv ?_
    refine oc g_ex ?_
    refine oc g_ex ?_
    refine oc (g_al 0 aN) ?_
    refine oc (g_sn 0 iN) ?_
    exact oc g_as on
  intro u2 b2_6 HB2 sz2 K2
  simp only [fX, nK, nP, Wr.f, aK, pM] at K2
  simp only [setG, setN, List.set_cons_zero, List.set_cons_succ]
  clear K1 HB1
  go_upto_region 3 with fail
  refine rgP K2 HB2 HB2.size [] [(6, 5, L0s, some (7, [.int .u64 (0), .int .u64 (0), .int .u64 (0), .int .u64 (0)]))] [(0, 21, NV 2), (1, 22, NV 10), (2, 23, .tuple #[A4 (0) (0) (0) (0), .int .i64 20]), (3, 20, .tuple #[A4 (0) (0) (0) (0), .int .i64 20]), (4, 24, A4 (0) (0) (0) (0)), (5, 25, .int .i64 20), (8, 6, .int .i64 20)] [(7, 6)] [] [true, true, false] ?_ ?_
  · refine oc (g_cl ent_seneschalbase_Nat (fun uZ => bNat_any 2 uZ (by omega) (by omega))) ?_
    refine oc (g_cl ent_seneschalbase_Nat (fun uZ => bNat_any 10 uZ (by omega) (by omega))) ?_
    refine oc (g_cl ent_mod_Inverse (fun uZ => inv_no uZ)) ?_
    refine oc g_mv ?_
    refine oc g_ex ?_
    refine oc g_ex ?_
    refine oc (g_al 0 aN) ?_
    refine oc (g_sn 0 iN) ?_
    exact oc g_as on
  intro u3 b3_6 HB3 sz3 K3
  simp only [fX, nK, nP, Wr.f, aK, pM] at K3
  simp only [setG, setN, List.set_cons_zero, List.set_cons_succ]
  clear K2 HB2
  go_upto_region 4 with fail
  refine rgD K3 HB3 HB3.size [] [] [(0, 26, NV 24), (1, 27, NV 24), (2, 28, .bool true), (3, 29, .bool true), (4, 30, .int .i64 0), (5, 31, .bool true), (6, 32, .bool true), (7, 33, .bool true), (8, 34, NV 7), (9, 35, NV 7), (10, 36, .bool true), (11, 37, .bool true), (12, 38, .bool true), (13, 39, .int .i64 0), (14, 40, .bool true), (15, 41, .bool true), (16, 42, .bool true), (17, 43, .int .i64 20), (18, 44, .bool true), (19, 45, .bool true), (20, 46, .bool true), (21, 47, NV 12), (22, 48, NV 18), (23, 49, NV 6), (24, 50, NV 6), (25, 51, .bool true), (26, 52, .bool true), (27, 0, .bool true)] [] [] [false, false] ?_ ?_
  · refine oc (g_ld 0 uN iN) ?_
    refine oc (g_cl ent_seneschalbase_Nat (fun uZ => bNat_any 24 uZ (by omega) (by omega))) ?_
    refine oc (g_bn (fun uZ => eql_same _ _ (24) uZ)) ?_
    refine oc g_mv ?_
    refine oc g_mv ?_
    refine oc (g_bn (fun uZ => eql_i _ _ _ 0 0 _ uZ rfl)) ?_
    refine oc g_pk ?_
    refine oc g_mv ?_
    refine oc (g_ld 1 uN iN) ?_
    refine oc (g_cl ent_seneschalbase_Nat (fun uZ => bNat_any 7 uZ (by omega) (by omega))) ?_
    refine oc (g_bn (fun uZ => eql_same _ _ (7) uZ)) ?_
    refine oc g_pk ?_
    refine oc g_mv ?_
    refine oc g_mv ?_
    refine oc (g_bn (fun uZ => eql_i _ _ _ 0 0 _ uZ rfl)) ?_
    refine oc g_pk ?_
    refine oc g_mv ?_
    refine oc g_mv ?_
    refine oc (g_bn (fun uZ => eql_i _ _ _ 20 20 _ uZ rfl)) ?_
    refine oc g_pk ?_
    refine oc g_mv ?_
    refine oc (g_cl ent_seneschalbase_Nat (fun uZ => bNat_any 12 uZ (by omega) (by omega))) ?_
    refine oc (g_cl ent_seneschalbase_Nat (fun uZ => bNat_any 18 uZ (by omega) (by omega))) ?_
    refine oc (g_cl ent_mod_Gcd (fun uZ => gcd_ex uZ)) ?_
    refine oc (g_cl ent_seneschalbase_Nat (fun uZ => bNat_any 6 uZ (by omega) (by omega))) ?_
    refine oc (g_bn (fun uZ => eql_same _ _ (6) uZ)) ?_
    refine oc g_pk ?_
    exact oc g_as on
  intro u4 HB4 sz4 K4
  simp only [fX, nK, nP, Wr.f, aK, pM] at K4
  simp only [setG, setN, List.set_cons_zero, List.set_cons_succ]
  clear K3 HB3
  go_wp2
  refine bodyPost_ret (v := .bool true) (by simp [results, Try.results25, go_sem, ]) rfl ⟨rfl, HB4⟩
end Go.Proofs.Ytkpnjmfndgfogaa
