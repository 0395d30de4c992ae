/- CertTurned: the walk. -/
import Derived.Test.YtgfggkinmhhdnaaRC
import Derived.Test.YtgfggkinmhhdnaaLC1
import Derived.Test.YtgfggkinmhhdnaaRN
import Derived.Test.YtgfggkinmhhdnaaPK
namespace Go.Proofs.Ytgfggkinmhhdnaa
open Go.RowKit
set_option linter.unusedVariables false
set_option linter.unusedSimpArgs false
theorem mul_i (p q : Operand) (x y z : Int) (w : World) (h : x * y = z) (h0 : -9223372036854775808 ≤ z) (h1 : z < 9223372036854775808) : (do eqGuard .mul 3 p q (.int .i64 x) (.int .i64 y); binOp .mul 3 (.int .i64 x) (.int .i64 y) : Sem Value).run Try.prog w = .ok (.int .i64 z) w := by
  have e : IntKind.i64.wrap z = z := by simp [IntKind.wrap, IntKind.signed, IntKind.bits]; omega
  subst h
  go_simp
set_option maxRecDepth 100000 in
theorem among_any (x n : Int) (h1 : 1 ≤ n) (h2 : n ≤ 1000) (hx : -9223372036854775808 ≤ x ∧ x < 9223372036854775808) : ∃ k : Nat, (k : Int) < n ∧ ∀ w, Calls Try.prog 23 #[.int .i64 x, .int .i64 n] w fun e w' => e = .returned (.int .i64 (k : Int)) ∧ Below w.heap.size w w' := by
  have e1 : IntKind.u64.wrap n = n := by rw [IntKind.wrap_u64]; omega
  obtain ⟨y, ey⟩ : ∃ y, IntKind.u64.wrap x = y := ⟨_, rfl⟩
  have y0 : 0 ≤ y := by rw [← ey, IntKind.wrap_u64]; omega
  have e2 : y.tmod n = y % n := Int.tmod_eq_emod_of_nonneg y0
  have m0 := Int.emod_nonneg y (show n ≠ 0 by omega)
  have m1 := Int.emod_lt_of_pos y (show 0 < n by omega)
  have e3 : IntKind.i64.wrap (y % n) = y % n := by simp [IntKind.wrap, IntKind.signed, IntKind.bits]; omega
  have e4 : IntKind.u64.wrap (y % n) = y % n := by rw [IntKind.wrap_u64]; omega
  refine ⟨(y % n).toNat, by omega, fun w => ?_⟩
  rw [show ((y % n).toNat : Int) = y % n by omega]
  generalize y % n = z at *
  have hn1 : ¬ n < 1 := by omega
  have hn0 : n ≠ 0 := by omega
  go_enter Try.func23, Try.ntmps23
  go_wp2
  go_ret
  exact ⟨rfl, Below.refl _ _⟩
set_option maxRecDepth 100000 in
set_option maxHeartbeats 4000000 in
theorem certTurned_no (n f a x d : Int) (k : Nat) (w : World) (hA : Hid (∀ w, Calls Try.prog 23 #[.int .i64 x, .int .i64 500] w fun e w' => e = .returned (.int .i64 (k : Int)) ∧ Below w.heap.size w w')) (hk : (k : Int) < 500) (hd : 3 + 2 * (k : Int) = d) (hn : In n) (hf : In f) (ha : In a) (hSm : Hid (∀ u, Calls Try.prog 9 #[NV d] u fun e u' => e = .returned (.bool false) ∧ Below u.heap.size u u')) (hXm : Hid (∀ u, Calls Try.prog 10 #[NV d] u fun e u' => e = .returned (.bool false) ∧ Below u.heap.size u u')) :
    Calls Try.prog 6 #[CX n f a, .int .i64 x] w fun e w' => e = .returned (.bool true) ∧ Below w.heap.size w w' := by
  have idd : In d := ⟨by omega, by omega⟩
  go_enter Try.func6, Try.ntmps6
  go_upto_region 1 with fail
  generalize hC : (w.alloc (.cells (CE (n) (f) (a) : List Value).toArray 26)) = v0 at *
  have HB0 : Below w.heap.size w v0 := by rw [← hC]; exact balloc (bself w) _
  have K0 : Bk w.heap.size v0 [(true, w.heap.size, CE (n) (f) (a))] := by rw [← hC]; exact (Bk.nil _ w).ad
  clear hC
  refine rgP K0 HB0 HB0.size [] [] [(0, 10, .bool true), (1, 11, .bool false)] [] [] [false] ?_ ?_
  · refine oc (g_cl ent_seneschallaw03_works (fun uZ => works3 uZ)) ?_
    exact oc (g_un (fun uZ => rfl)) on
  intro u1 HB1 sz1 K1
  simp only [fX, nK, nP, Wr.f, aK, pM] at K1
  simp only [setG, setN, List.set_cons_zero, List.set_cons_succ]
  clear K0 HB0
  go_upto_region 3 with fail
  refine rgP K1 HB1 HB1.size [] [] [(0, 12, .int .i64 x), (1, 13, .int .i64 (k : Int)), (2, 14, .int .i64 (2 * (k : Int))), (3, 15, .int .i64 d), (4, 1, .int .i64 d)] [(4, 0)] [(4, 1)] [] ?_ ?_
  · refine oc g_mv ?_
    refine oc (g_cl ent_seneschalbase_Among (fun uZ => hA.out uZ)) ?_
    refine oc (g_bn (fun uZ => mul_i _ _ 2 (k : Int) (2 * (k : Int)) uZ rfl (by omega) (by omega))) ?_
    refine oc (g_bn (fun uZ => add_i _ _ 3 (2 * (k : Int)) d uZ hd (by omega) (by omega))) ?_
    exact oc g_as on
  intro u2 HB2 sz2 K2
  simp only [fX, nK, nP, Wr.f, aK, pM] at K2
  simp only [setG, setN, List.set_cons_zero, List.set_cons_succ]
  clear K1 HB1
  go_upto_region 4 with fail
  refine rgP K2 HB2 HB2.size [] [] [(0, 16, .int .i64 d), (1, 17, NV d), (2, 18, .bool false), (3, 19, .bool true)] [] [] [] ?_ ?_
  · refine oc g_mv ?_
    refine oc (g_cl ent_seneschalbase_Nat (fun uZ => bNat_any d uZ (by omega) (by omega))) ?_
    refine oc (g_cl ent_cert_Small (fun uZ => hSm.out uZ)) ?_
    exact oc (g_un (fun uZ => rfl)) on
  intro u3 HB3 sz3 K3
  simp only [fX, nK, nP, Wr.f, aK, pM] at K3
  simp only [setG, setN, List.set_cons_zero, List.set_cons_succ]
  clear K2 HB2
  go_upto_region 5 with fail
  refine rgP K3 HB3 HB3.size [] [] [(0, 20, .int .i64 d), (1, 21, NV d), (2, 22, .bool false), (3, 23, .int .i64 d), (4, 24, NV d), (5, 25, .bool false), (6, 26, .bool true), (7, 4, .bool true)] [] [] [] ?_ ?_
  · refine oc g_mv ?_
    refine oc (g_cl ent_seneschalbase_Nat (fun uZ => bNat_any d uZ (by omega) (by omega))) ?_
    refine oc (g_cl ent_seneschalref03_Small (fun uZ => hXm.out uZ)) ?_
    refine oc g_mv ?_
    refine oc (g_cl ent_seneschalbase_Nat (fun uZ => bNat_any d uZ (by omega) (by omega))) ?_
    refine oc (g_cl ent_cert_Small (fun uZ => hSm.out uZ)) ?_
    refine oc (g_bn (fun uZ => eql_b _ _ false uZ)) ?_
    exact oc g_as on
  intro u4 HB4 sz4 K4
  simp only [fX, nK, nP, Wr.f, aK, pM] at K4
  simp only [setG, setN, List.set_cons_zero, List.set_cons_succ]
  clear K3 HB3
  go_wp2
  refine bodyPost_ret (v := .bool true) (by simp [results, Try.results6, go_sem, ]) rfl ⟨rfl, HB4⟩
set_option maxRecDepth 100000 in
set_option maxHeartbeats 4000000 in
theorem certTurned_r (n f a x d N : Int) (k : Nat) (w : World) (hA : Hid (∀ w, Calls Try.prog 23 #[.int .i64 x, .int .i64 500] w fun e w' => e = .returned (.int .i64 (k : Int)) ∧ Below w.heap.size w w')) (hk : (k : Int) < 500) (hd : 3 + 2 * (k : Int) = d) (hn : In n) (hf : In f) (ha : In a) (hSm : Hid (∀ u, Calls Try.prog 9 #[NV d] u fun e u' => e = .returned (.bool true) ∧ Below u.heap.size u u')) (iN' : In N) (hN : Hid (∀ f a, CE (n * d) f a = CE N f a))(hr : decide (N % d = 0) = !true) :
    Calls Try.prog 6 #[CX n f a, .int .i64 x] w fun e w' => e = .returned (.bool true) ∧ Below w.heap.size w w' := by
  have idd : In d := ⟨by omega, by omega⟩
  go_enter Try.func6, Try.ntmps6
  go_upto_region 1 with fail
  generalize hC : (w.alloc (.cells (CE (n) (f) (a) : List Value).toArray 26)) = v0 at *
  have HB0 : Below w.heap.size w v0 := by rw [← hC]; exact balloc (bself w) _
  have K0 : Bk w.heap.size v0 [(true, w.heap.size, CE (n) (f) (a))] := by rw [← hC]; exact (Bk.nil _ w).ad
  clear hC
  refine rgP K0 HB0 HB0.size [] [] [(0, 10, .bool true), (1, 11, .bool false)] [] [] [] ?_ ?_
  · refine oc (g_cl ent_seneschallaw03_works (fun uZ => works3 uZ)) ?_
    exact oc (g_un (fun uZ => rfl)) on
  intro u1 HB1 sz1 K1
  simp only [fX, nK, nP, Wr.f, aK, pM] at K1
  simp only [setG, setN, List.set_cons_zero, List.set_cons_succ]
  clear K0 HB0
  go_upto_region 3 with fail
  refine rgP K1 HB1 HB1.size [] [] [(0, 12, .int .i64 x), (1, 13, .int .i64 (k : Int)), (2, 14, .int .i64 (2 * (k : Int))), (3, 15, .int .i64 d), (4, 1, .int .i64 d)] [(4, 0)] [(4, 1)] [] ?_ ?_
  · refine oc g_mv ?_
    refine oc (g_cl ent_seneschalbase_Among (fun uZ => hA.out uZ)) ?_
    refine oc (g_bn (fun uZ => mul_i _ _ 2 (k : Int) (2 * (k : Int)) uZ rfl (by omega) (by omega))) ?_
    refine oc (g_bn (fun uZ => add_i _ _ 3 (2 * (k : Int)) d uZ hd (by omega) (by omega))) ?_
    exact oc g_as on
  intro u2 HB2 sz2 K2
  simp only [fX, nK, nP, Wr.f, aK, pM] at K2
  simp only [setG, setN, List.set_cons_zero, List.set_cons_succ]
  clear K1 HB1
  go_upto_region 4 with fail
  refine rgP K2 HB2 HB2.size [] [] [(0, 16, .int .i64 d), (1, 17, NV d), (2, 18, .bool true), (3, 19, .bool false)] [] [] [] ?_ ?_
  · refine oc g_mv ?_
    refine oc (g_cl ent_seneschalbase_Nat (fun uZ => bNat_any d uZ (by omega) (by omega))) ?_
    refine oc (g_cl ent_cert_Small (fun uZ => hSm.out uZ)) ?_
    exact oc (g_un (fun uZ => rfl)) on
  intro u3 HB3 sz3 K3
  simp only [fX, nK, nP, Wr.f, aK, pM] at K3
  simp only [setG, setN, List.set_cons_zero, List.set_cons_succ]
  clear K2 HB2
  go_upto_region 6 with fail
  refine rgD K3 HB3 HB3.size [] [(5, 5, L0w, some (6, LW (n * d)))] [(0, 27, .pointer (some ⟨w.heap.size, 0, none⟩)), (1, 28, NV n), (2, 29, .int .i64 d), (3, 30, NV d), (4, 31, WV (n * d))] [(6, 5)] [] [] ?_ ?_
  · refine oc (g_fd (fun uZ => fdC0 _ uZ)) ?_
    refine oc (g_lo 0 0 uN iN) ?_
    refine oc g_mv ?_
    refine oc (g_cl ent_seneschalbase_Nat (fun uZ => bNat_any d uZ (by omega) (by omega))) ?_
    refine oc (g_cl ent_seneschalref01_Mul (fun uZ => nrMul n d uZ hn idd)) ?_
    refine oc (g_al 0 aW) ?_
    exact oc (g_sn 0 iW) on
  intro u4 b4_5 HB4 sz4 K4
  simp only [fX, nK, nP, Wr.f, aK, pM] at K4
  simp only [setG, setN, List.set_cons_zero, List.set_cons_succ]
  clear K3 HB3
  go_upto_region 7 with fail
  refine rgP K4 HB4 HB4.size [] [(1, 6, L0c, some (2, CE (n) (f) (a)))] [(0, 32, CX (n) (f) (a))] [(2, 1)] [] [false] ?_ ?_
  · refine oc (g_ld 0 Try.underlying26 info_api_Cert) ?_
    refine oc (g_al 0 al_api_Cert) ?_
    exact oc (g_sn 0 info_api_Cert) on
  intro u5 b5_1 HB5 sz5 K5
  simp only [fX, nK, nP, Wr.f, aK, pM] at K5
  simp only [setG, setN, List.set_cons_zero, List.set_cons_succ]
  clear K4 HB4
  go_upto_region 8 with fail
  refine rgP K5 HB5 HB5.size [.no, .all 10 (CE (n * d) (f) (a))] [] [(0, 33, .pointer (some ⟨b4_5, 0, none⟩)), (1, 34, .int .u64 (D0 (n * d))), (2, 35, .pointer (some ⟨b4_5, 1, none⟩)), (3, 36, .int .u64 (D1 (n * d))), (4, 37, .pointer (some ⟨b4_5, 2, none⟩)), (5, 38, .int .u64 (D2 (n * d))), (6, 39, .pointer (some ⟨b4_5, 3, none⟩)), (7, 40, .int .u64 (D3 (n * d))), (8, 41, NV (n * d)), (9, 42, .pointer (some ⟨b5_1, 0, none⟩))] [] [] [false] ?_ ?_
  · refine oc (g_ix (jW 0)) ?_
    refine oc (g_lc 0 0 lU) ?_
    refine oc (g_ix (jW 1)) ?_
    refine oc (g_lc 0 1 lU) ?_
    refine oc (g_ix (jW 2)) ?_
    refine oc (g_lc 0 2 lU) ?_
    refine oc (g_ix (jW 3)) ?_
    refine oc (g_lc 0 3 lU) ?_
    refine oc (g_bd (fun uZ => bd4 _ _ _ _ uZ)) ?_
    refine oc (g_fd (fun uZ => fdC0 _ uZ)) ?_
    exact oc (g_sm 1 0 ([]) (LN n) (LN f ++ LN a) (post := LN (n * d)) iN) on
  intro u6 HB6 sz6 K6
  simp only [fX, nK, nP, Wr.f, aK, pM] at K6
  simp only [setG, setN, List.set_cons_zero, List.set_cons_succ]
  clear K5 HB5
  have hNe : Hid (CE (n * d) f a = CE N f a) := by
    show CE (n * d) f a = CE N f a
    rw [hN.out]
  rw [hNe.out] at K6
  go_upto_region 9 with fail
  refine rgP K6 HB6 HB6.size [] [(10, 7, L0w, some (12, LW (N / d))), (11, 8, L0s, some (13, LN (N % d)))] [(0, 44, .pointer (some ⟨b5_1, 0, none⟩)), (1, 45, NV N), (2, 46, WV N), (3, 47, .int .i64 d), (4, 48, NV d), (5, 49, .tuple #[WV (N / d), NV (N % d), .int .i64 0]), (6, 43, .tuple #[WV (N / d), NV (N % d), .int .i64 0]), (7, 50, WV (N / d)), (8, 51, NV (N % d)), (9, 52, .int .i64 0), (14, 9, .int .i64 0)] [(12, 10), (13, 11)] [] [false, false] ?_ ?_
  · refine oc (g_fd (fun uZ => fdC0 _ uZ)) ?_
    refine oc (g_lo 0 0 uN iN) ?_
    refine oc (g_cl ent_seneschalref01_Widen (fun uZ => nrWiden N uZ iN')) ?_
    refine oc g_mv ?_
    refine oc (g_cl ent_seneschalbase_Nat (fun uZ => bNat_any d uZ (by omega) (by omega))) ?_
    refine oc (g_cl ent_seneschalref01_Divide (fun uZ => nrDivide N d uZ iN'.wide idd (by omega))) ?_
    refine oc g_mv ?_
    refine oc g_ex ?_
    refine oc g_ex ?_
    refine oc g_ex ?_
    refine oc (g_al 0 aW) ?_
    refine oc (g_al 1 aN) ?_
    refine oc (g_sn 0 iW) ?_
    refine oc (g_sn 1 iN) ?_
    exact oc g_as on
  intro u7 b7_10 b7_11 HB7 sz7 K7
  simp only [fX, nK, nP, Wr.f, aK, pM] at K7
  simp only [setG, setN, List.set_cons_zero, List.set_cons_succ]
  clear K6 HB6
  go_upto_region 10 with fail
  refine rgD K7 HB7 HB7.size [] [] [(0, 53, NV (N % d)), (1, 54, A4 (0) (0) (0) (0)), (2, 55, .bool true), (3, 56, .bool true), (4, 57, undef), (5, 58, undef), (6, 59, undef), (7, 60, undef), (8, 61, undef), (9, 62, undef), (10, 63, (Go.Value.bool Bool.true))] [] [] [false] ?_ ?_
  · refine oc (g_ld 0 uN iN) ?_
    refine oc (g_bd zN) ?_
    refine oc (g_bn (fun uZ => neq_0 _ _ (In_mod idd (by omega)) _ hr uZ)) ?_
    refine oc g_mv ?_
    refine oc g_sk ?_
    refine oc g_sk ?_
    refine oc g_sk ?_
    refine oc g_sk ?_
    refine oc g_sk ?_
    refine oc g_sk ?_
    exact oc g_pk on
  intro u8 HB8 sz8 K8
  simp only [fX, nK, nP, Wr.f, aK, pM] at K8
  simp only [setG, setN, List.set_cons_zero, List.set_cons_succ]
  clear K7 HB7
  go_upto_region 11 with fail
  refine rgP K8 HB8 HB8.size [] [] [(0, 4, (Go.Value.bool Bool.true))] [] [] [] ?_ ?_
  · exact oc g_as on
  intro u9 HB9 sz9 K9
  simp only [fX, nK, nP, Wr.f, aK, pM] at K9
  simp only [setG, setN, List.set_cons_zero, List.set_cons_succ]
  clear K8 HB8
  go_wp2
  refine bodyPost_ret (v := .bool true) (by simp [results, Try.results6, go_sem, ]) rfl ⟨rfl, HB9⟩
set_option maxRecDepth 100000 in
set_option maxHeartbeats 4000000 in
theorem certTurned_le (n f a x d N : Int) (k : Nat) (w : World) (hA : Hid (∀ w, Calls Try.prog 23 #[.int .i64 x, .int .i64 500] w fun e w' => e = .returned (.int .i64 (k : Int)) ∧ Below w.heap.size w w')) (hk : (k : Int) < 500) (hd : 3 + 2 * (k : Int) = d) (hn : In n) (hf : In f) (ha : In a) (hSm : Hid (∀ u, Calls Try.prog 9 #[NV d] u fun e u' => e = .returned (.bool true) ∧ Below u.heap.size u u')) (iN' : In N) (hN : Hid (∀ f a, CE (n * d) f a = CE N f a))(hr : decide (N % d = 0) = !false) (hc : decide (cmpI N d ≤ 0) = true) :
    Calls Try.prog 6 #[CX n f a, .int .i64 x] w fun e w' => e = .returned (.bool true) ∧ Below w.heap.size w w' := by
  have idd : In d := ⟨by omega, by omega⟩
  go_enter Try.func6, Try.ntmps6
  go_upto_region 1 with fail
  generalize hC : (w.alloc (.cells (CE (n) (f) (a) : List Value).toArray 26)) = v0 at *
  have HB0 : Below w.heap.size w v0 := by rw [← hC]; exact balloc (bself w) _
  have K0 : Bk w.heap.size v0 [(true, w.heap.size, CE (n) (f) (a))] := by rw [← hC]; exact (Bk.nil _ w).ad
  clear hC
  refine rgP K0 HB0 HB0.size [] [] [(0, 10, .bool true), (1, 11, .bool false)] [] [] [] ?_ ?_
  · refine oc (g_cl ent_seneschallaw03_works (fun uZ => works3 uZ)) ?_
    exact oc (g_un (fun uZ => rfl)) on
  intro u1 HB1 sz1 K1
  simp only [fX, nK, nP, Wr.f, aK, pM] at K1
  simp only [setG, setN, List.set_cons_zero, List.set_cons_succ]
  clear K0 HB0
  go_upto_region 3 with fail
  refine rgP K1 HB1 HB1.size [] [] [(0, 12, .int .i64 x), (1, 13, .int .i64 (k : Int)), (2, 14, .int .i64 (2 * (k : Int))), (3, 15, .int .i64 d), (4, 1, .int .i64 d)] [(4, 0)] [(4, 1)] [] ?_ ?_
  · refine oc g_mv ?_
    refine oc (g_cl ent_seneschalbase_Among (fun uZ => hA.out uZ)) ?_
    refine oc (g_bn (fun uZ => mul_i _ _ 2 (k : Int) (2 * (k : Int)) uZ rfl (by omega) (by omega))) ?_
    refine oc (g_bn (fun uZ => add_i _ _ 3 (2 * (k : Int)) d uZ hd (by omega) (by omega))) ?_
    exact oc g_as on
  intro u2 HB2 sz2 K2
  simp only [fX, nK, nP, Wr.f, aK, pM] at K2
  simp only [setG, setN, List.set_cons_zero, List.set_cons_succ]
  clear K1 HB1
  go_upto_region 4 with fail
  refine rgP K2 HB2 HB2.size [] [] [(0, 16, .int .i64 d), (1, 17, NV d), (2, 18, .bool true), (3, 19, .bool false)] [] [] [] ?_ ?_
  · refine oc g_mv ?_
    refine oc (g_cl ent_seneschalbase_Nat (fun uZ => bNat_any d uZ (by omega) (by omega))) ?_
    refine oc (g_cl ent_cert_Small (fun uZ => hSm.out uZ)) ?_
    exact oc (g_un (fun uZ => rfl)) on
  intro u3 HB3 sz3 K3
  simp only [fX, nK, nP, Wr.f, aK, pM] at K3
  simp only [setG, setN, List.set_cons_zero, List.set_cons_succ]
  clear K2 HB2
  go_upto_region 6 with fail
  refine rgD K3 HB3 HB3.size [] [(5, 5, L0w, some (6, LW (n * d)))] [(0, 27, .pointer (some ⟨w.heap.size, 0, none⟩)), (1, 28, NV n), (2, 29, .int .i64 d), (3, 30, NV d), (4, 31, WV (n * d))] [(6, 5)] [] [] ?_ ?_
  · refine oc (g_fd (fun uZ => fdC0 _ uZ)) ?_
    refine oc (g_lo 0 0 uN iN) ?_
    refine oc g_mv ?_
    refine oc (g_cl ent_seneschalbase_Nat (fun uZ => bNat_any d uZ (by omega) (by omega))) ?_
    refine oc (g_cl ent_seneschalref01_Mul (fun uZ => nrMul n d uZ hn idd)) ?_
    refine oc (g_al 0 aW) ?_
    exact oc (g_sn 0 iW) on
  intro u4 b4_5 HB4 sz4 K4
  simp only [fX, nK, nP, Wr.f, aK, pM] at K4
  simp only [setG, setN, List.set_cons_zero, List.set_cons_succ]
  clear K3 HB3
  go_upto_region 7 with fail
  refine rgP K4 HB4 HB4.size [] [(1, 6, L0c, some (2, CE (n) (f) (a)))] [(0, 32, CX (n) (f) (a))] [(2, 1)] [] [false] ?_ ?_
  · refine oc (g_ld 0 Try.underlying26 info_api_Cert) ?_
    refine oc (g_al 0 al_api_Cert) ?_
    exact oc (g_sn 0 info_api_Cert) on
  intro u5 b5_1 HB5 sz5 K5
  simp only [fX, nK, nP, Wr.f, aK, pM] at K5
  simp only [setG, setN, List.set_cons_zero, List.set_cons_succ]
  clear K4 HB4
  go_upto_region 8 with fail
  refine rgP K5 HB5 HB5.size [.no, .all 10 (CE (n * d) (f) (a))] [] [(0, 33, .pointer (some ⟨b4_5, 0, none⟩)), (1, 34, .int .u64 (D0 (n * d))), (2, 35, .pointer (some ⟨b4_5, 1, none⟩)), (3, 36, .int .u64 (D1 (n * d))), (4, 37, .pointer (some ⟨b4_5, 2, none⟩)), (5, 38, .int .u64 (D2 (n * d))), (6, 39, .pointer (some ⟨b4_5, 3, none⟩)), (7, 40, .int .u64 (D3 (n * d))), (8, 41, NV (n * d)), (9, 42, .pointer (some ⟨b5_1, 0, none⟩))] [] [] [false] ?_ ?_
  · refine oc (g_ix (jW 0)) ?_
    refine oc (g_lc 0 0 lU) ?_
    refine oc (g_ix (jW 1)) ?_
    refine oc (g_lc 0 1 lU) ?_
    refine oc (g_ix (jW 2)) ?_
    refine oc (g_lc 0 2 lU) ?_
    refine oc (g_ix (jW 3)) ?_
    refine oc (g_lc 0 3 lU) ?_
    refine oc (g_bd (fun uZ => bd4 _ _ _ _ uZ)) ?_
    refine oc (g_fd (fun uZ => fdC0 _ uZ)) ?_
    exact oc (g_sm 1 0 ([]) (LN n) (LN f ++ LN a) (post := LN (n * d)) iN) on
  intro u6 HB6 sz6 K6
  simp only [fX, nK, nP, Wr.f, aK, pM] at K6
  simp only [setG, setN, List.set_cons_zero, List.set_cons_succ]
  clear K5 HB5
  have hNe : Hid (CE (n * d) f a = CE N f a) := by
    show CE (n * d) f a = CE N f a
    rw [hN.out]
  rw [hNe.out] at K6
  go_upto_region 9 with fail
  refine rgP K6 HB6 HB6.size [] [(10, 7, L0w, some (12, LW (N / d))), (11, 8, L0s, some (13, LN (N % d)))] [(0, 44, .pointer (some ⟨b5_1, 0, none⟩)), (1, 45, NV N), (2, 46, WV N), (3, 47, .int .i64 d), (4, 48, NV d), (5, 49, .tuple #[WV (N / d), NV (N % d), .int .i64 0]), (6, 43, .tuple #[WV (N / d), NV (N % d), .int .i64 0]), (7, 50, WV (N / d)), (8, 51, NV (N % d)), (9, 52, .int .i64 0), (14, 9, .int .i64 0)] [(12, 10), (13, 11)] [] [true, false] ?_ ?_
  · refine oc (g_fd (fun uZ => fdC0 _ uZ)) ?_
    refine oc (g_lo 0 0 uN iN) ?_
    refine oc (g_cl ent_seneschalref01_Widen (fun uZ => nrWiden N uZ iN')) ?_
    refine oc g_mv ?_
    refine oc (g_cl ent_seneschalbase_Nat (fun uZ => bNat_any d uZ (by omega) (by omega))) ?_
    refine oc (g_cl ent_seneschalref01_Divide (fun uZ => nrDivide N d uZ iN'.wide idd (by omega))) ?_
    refine oc g_mv ?_
    refine oc g_ex ?_
    refine oc g_ex ?_
    refine oc g_ex ?_
    refine oc (g_al 0 aW) ?_
    refine oc (g_al 1 aN) ?_
    refine oc (g_sn 0 iW) ?_
    refine oc (g_sn 1 iN) ?_
    exact oc g_as on
  intro u7 b7_10 b7_11 HB7 sz7 K7
  simp only [fX, nK, nP, Wr.f, aK, pM] at K7
  simp only [setG, setN, List.set_cons_zero, List.set_cons_succ]
  clear K6 HB6
  go_upto_region 10 with fail
  refine rgD K7 HB7 HB7.size [] [] [(0, 53, NV (N % d)), (1, 54, A4 (0) (0) (0) (0)), (2, 55, .bool false), (3, 56, .bool false), (4, 57, .pointer (some ⟨b5_1, 0, none⟩)), (5, 58, NV N), (6, 59, .int .i64 d), (7, 60, NV d), (8, 61, .int .i64 (cmpI N d)), (9, 62, .bool true), (10, 63, .bool true)] [] [] [false, false] ?_ ?_
  · refine oc (g_ld 1 uN iN) ?_
    refine oc (g_bd zN) ?_
    refine oc (g_bn (fun uZ => neq_0 _ _ (In_mod idd (by omega)) _ hr uZ)) ?_
    refine oc g_mv ?_
    refine oc (g_fd (fun uZ => fdC0 _ uZ)) ?_
    refine oc (g_lo 0 0 uN iN) ?_
    refine oc g_mv ?_
    refine oc (g_cl ent_seneschalbase_Nat (fun uZ => bNat_any d uZ (by omega) (by omega))) ?_
    refine oc (g_cl ent_seneschalref01_Compare (fun uZ => nrCompare N d uZ iN' idd)) ?_
    refine oc (g_bn (fun uZ => leq_i _ _ (cmpI N d) 0 _ uZ hc)) ?_
    exact oc g_pk on
  intro u8 HB8 sz8 K8
  simp only [fX, nK, nP, Wr.f, aK, pM] at K8
  simp only [setG, setN, List.set_cons_zero, List.set_cons_succ]
  clear K7 HB7
  go_upto_region 11 with fail
  refine rgP K8 HB8 HB8.size [] [] [(0, 4, (Go.Value.bool Bool.true))] [] [] [] ?_ ?_
  · exact oc g_as on
  intro u9 HB9 sz9 K9
  simp only [fX, nK, nP, Wr.f, aK, pM] at K9
  simp only [setG, setN, List.set_cons_zero, List.set_cons_succ]
  clear K8 HB8
  go_wp2
  refine bodyPost_ret (v := .bool true) (by simp [results, Try.results6, go_sem, ]) rfl ⟨rfl, HB9⟩
set_option maxRecDepth 100000 in
set_option maxHeartbeats 4000000 in
theorem certTurned_f (n f a x d N : Int) (k : Nat) (w : World) (hA : Hid (∀ w, Calls Try.prog 23 #[.int .i64 x, .int .i64 500] w fun e w' => e = .returned (.int .i64 (k : Int)) ∧ Below w.heap.size w w')) (hk : (k : Int) < 500) (hd : 3 + 2 * (k : Int) = d) (hn : In n) (hf : In f) (ha : In a) (hSm : Hid (∀ u, Calls Try.prog 9 #[NV d] u fun e u' => e = .returned (.bool true) ∧ Below u.heap.size u u')) (iN' : In N) (hN : Hid (∀ f a, CE (n * d) f a = CE N f a))(hr : decide (N % d = 0) = !false) (hc : decide (cmpI N d ≤ 0) = false) (hXf : Hid (∀ u, Calls Try.prog 10 #[NV f] u fun e u' => e = .returned (.bool false) ∧ Below u.heap.size u u')) :
    Calls Try.prog 6 #[CX n f a, .int .i64 x] w fun e w' => e = .returned (.bool true) ∧ Below w.heap.size w w' := by
  have idd : In d := ⟨by omega, by omega⟩
  go_enter Try.func6, Try.ntmps6
  go_upto_region 1 with fail
  generalize hC : (w.alloc (.cells (CE (n) (f) (a) : List Value).toArray 26)) = v0 at *
  have HB0 : Below w.heap.size w v0 := by rw [← hC]; exact balloc (bself w) _
  have K0 : Bk w.heap.size v0 [(true, w.heap.size, CE (n) (f) (a))] := by rw [← hC]; exact (Bk.nil _ w).ad
  clear hC
  refine rgP K0 HB0 HB0.size [] [] [(0, 10, .bool true), (1, 11, .bool false)] [] [] [] ?_ ?_
  · refine oc (g_cl ent_seneschallaw03_works (fun uZ => works3 uZ)) ?_
    exact oc (g_un (fun uZ => rfl)) on
  intro u1 HB1 sz1 K1
  simp only [fX, nK, nP, Wr.f, aK, pM] at K1
  simp only [setG, setN, List.set_cons_zero, List.set_cons_succ]
  clear K0 HB0
  go_upto_region 3 with fail
  refine rgP K1 HB1 HB1.size [] [] [(0, 12, .int .i64 x), (1, 13, .int .i64 (k : Int)), (2, 14, .int .i64 (2 * (k : Int))), (3, 15, .int .i64 d), (4, 1, .int .i64 d)] [(4, 0)] [(4, 1)] [] ?_ ?_
  · refine oc g_mv ?_
    refine oc (g_cl ent_seneschalbase_Among (fun uZ => hA.out uZ)) ?_
    refine oc (g_bn (fun uZ => mul_i _ _ 2 (k : Int) (2 * (k : Int)) uZ rfl (by omega) (by omega))) ?_
    refine oc (g_bn (fun uZ => add_i _ _ 3 (2 * (k : Int)) d uZ hd (by omega) (by omega))) ?_
    exact oc g_as on
  intro u2 HB2 sz2 K2
  simp only [fX, nK, nP, Wr.f, aK, pM] at K2
  simp only [setG, setN, List.set_cons_zero, List.set_cons_succ]
  clear K1 HB1
  go_upto_region 4 with fail
  refine rgP K2 HB2 HB2.size [] [] [(0, 16, .int .i64 d), (1, 17, NV d), (2, 18, .bool true), (3, 19, .bool false)] [] [] [] ?_ ?_
  · refine oc g_mv ?_
    refine oc (g_cl ent_seneschalbase_Nat (fun uZ => bNat_any d uZ (by omega) (by omega))) ?_
    refine oc (g_cl ent_cert_Small (fun uZ => hSm.out uZ)) ?_
    exact oc (g_un (fun uZ => rfl)) on
  intro u3 HB3 sz3 K3
  simp only [fX, nK, nP, Wr.f, aK, pM] at K3
  simp only [setG, setN, List.set_cons_zero, List.set_cons_succ]
  clear K2 HB2
  go_upto_region 6 with fail
  refine rgD K3 HB3 HB3.size [] [(5, 5, L0w, some (6, LW (n * d)))] [(0, 27, .pointer (some ⟨w.heap.size, 0, none⟩)), (1, 28, NV n), (2, 29, .int .i64 d), (3, 30, NV d), (4, 31, WV (n * d))] [(6, 5)] [] [] ?_ ?_
  · refine oc (g_fd (fun uZ => fdC0 _ uZ)) ?_
    refine oc (g_lo 0 0 uN iN) ?_
    refine oc g_mv ?_
    refine oc (g_cl ent_seneschalbase_Nat (fun uZ => bNat_any d uZ (by omega) (by omega))) ?_
    refine oc (g_cl ent_seneschalref01_Mul (fun uZ => nrMul n d uZ hn idd)) ?_
    refine oc (g_al 0 aW) ?_
    exact oc (g_sn 0 iW) on
  intro u4 b4_5 HB4 sz4 K4
  simp only [fX, nK, nP, Wr.f, aK, pM] at K4
  simp only [setG, setN, List.set_cons_zero, List.set_cons_succ]
  clear K3 HB3
  go_upto_region 7 with fail
  refine rgP K4 HB4 HB4.size [] [(1, 6, L0c, some (2, CE (n) (f) (a)))] [(0, 32, CX (n) (f) (a))] [(2, 1)] [] [false] ?_ ?_
  · refine oc (g_ld 0 Try.underlying26 info_api_Cert) ?_
    refine oc (g_al 0 al_api_Cert) ?_
    exact oc (g_sn 0 info_api_Cert) on
  intro u5 b5_1 HB5 sz5 K5
  simp only [fX, nK, nP, Wr.f, aK, pM] at K5
  simp only [setG, setN, List.set_cons_zero, List.set_cons_succ]
  clear K4 HB4
  go_upto_region 8 with fail
  refine rgP K5 HB5 HB5.size [.no, .all 10 (CE (n * d) (f) (a))] [] [(0, 33, .pointer (some ⟨b4_5, 0, none⟩)), (1, 34, .int .u64 (D0 (n * d))), (2, 35, .pointer (some ⟨b4_5, 1, none⟩)), (3, 36, .int .u64 (D1 (n * d))), (4, 37, .pointer (some ⟨b4_5, 2, none⟩)), (5, 38, .int .u64 (D2 (n * d))), (6, 39, .pointer (some ⟨b4_5, 3, none⟩)), (7, 40, .int .u64 (D3 (n * d))), (8, 41, NV (n * d)), (9, 42, .pointer (some ⟨b5_1, 0, none⟩))] [] [] [false] ?_ ?_
  · refine oc (g_ix (jW 0)) ?_
    refine oc (g_lc 0 0 lU) ?_
    refine oc (g_ix (jW 1)) ?_
    refine oc (g_lc 0 1 lU) ?_
    refine oc (g_ix (jW 2)) ?_
    refine oc (g_lc 0 2 lU) ?_
    refine oc (g_ix (jW 3)) ?_
    refine oc (g_lc 0 3 lU) ?_
    refine oc (g_bd (fun uZ => bd4 _ _ _ _ uZ)) ?_
    refine oc (g_fd (fun uZ => fdC0 _ uZ)) ?_
    exact oc (g_sm 1 0 ([]) (LN n) (LN f ++ LN a) (post := LN (n * d)) iN) on
  intro u6 HB6 sz6 K6
  simp only [fX, nK, nP, Wr.f, aK, pM] at K6
  simp only [setG, setN, List.set_cons_zero, List.set_cons_succ]
  clear K5 HB5
  have hNe : Hid (CE (n * d) f a = CE N f a) := by
    show CE (n * d) f a = CE N f a
    rw [hN.out]
  rw [hNe.out] at K6
  go_upto_region 9 with fail
  refine rgP K6 HB6 HB6.size [] [(10, 7, L0w, some (12, LW (N / d))), (11, 8, L0s, some (13, LN (N % d)))] [(0, 44, .pointer (some ⟨b5_1, 0, none⟩)), (1, 45, NV N), (2, 46, WV N), (3, 47, .int .i64 d), (4, 48, NV d), (5, 49, .tuple #[WV (N / d), NV (N % d), .int .i64 0]), (6, 43, .tuple #[WV (N / d), NV (N % d), .int .i64 0]), (7, 50, WV (N / d)), (8, 51, NV (N % d)), (9, 52, .int .i64 0), (14, 9, .int .i64 0)] [(12, 10), (13, 11)] [] [true, false] ?_ ?_
  · refine oc (g_fd (fun uZ => fdC0 _ uZ)) ?_
    refine oc (g_lo 0 0 uN iN) ?_
    refine oc (g_cl ent_seneschalref01_Widen (fun uZ => nrWiden N uZ iN')) ?_
    refine oc g_mv ?_
    refine oc (g_cl ent_seneschalbase_Nat (fun uZ => bNat_any d uZ (by omega) (by omega))) ?_
    refine oc (g_cl ent_seneschalref01_Divide (fun uZ => nrDivide N d uZ iN'.wide idd (by omega))) ?_
    refine oc g_mv ?_
    refine oc g_ex ?_
    refine oc g_ex ?_
    refine oc g_ex ?_
    refine oc (g_al 0 aW) ?_
    refine oc (g_al 1 aN) ?_
    refine oc (g_sn 0 iW) ?_
    refine oc (g_sn 1 iN) ?_
    exact oc g_as on
  intro u7 b7_10 b7_11 HB7 sz7 K7
  simp only [fX, nK, nP, Wr.f, aK, pM] at K7
  simp only [setG, setN, List.set_cons_zero, List.set_cons_succ]
  clear K6 HB6
  go_upto_region 10 with fail
  refine rgD K7 HB7 HB7.size [] [] [(0, 53, NV (N % d)), (1, 54, A4 (0) (0) (0) (0)), (2, 55, .bool false), (3, 56, .bool false), (4, 57, .pointer (some ⟨b5_1, 0, none⟩)), (5, 58, NV N), (6, 59, .int .i64 d), (7, 60, NV d), (8, 61, .int .i64 (cmpI N d)), (9, 62, .bool false), (10, 63, .bool false)] [] [] [true, false] ?_ ?_
  · refine oc (g_ld 1 uN iN) ?_
    refine oc (g_bd zN) ?_
    refine oc (g_bn (fun uZ => neq_0 _ _ (In_mod idd (by omega)) _ hr uZ)) ?_
    refine oc g_mv ?_
    refine oc (g_fd (fun uZ => fdC0 _ uZ)) ?_
    refine oc (g_lo 0 0 uN iN) ?_
    refine oc g_mv ?_
    refine oc (g_cl ent_seneschalbase_Nat (fun uZ => bNat_any d uZ (by omega) (by omega))) ?_
    refine oc (g_cl ent_seneschalref01_Compare (fun uZ => nrCompare N d uZ iN' idd)) ?_
    refine oc (g_bn (fun uZ => leq_i _ _ (cmpI N d) 0 _ uZ hc)) ?_
    exact oc g_pk on
  intro u8 HB8 sz8 K8
  simp only [fX, nK, nP, Wr.f, aK, pM] at K8
  simp only [setG, setN, List.set_cons_zero, List.set_cons_succ]
  clear K7 HB7
  go_upto_region 12 with fail
  refine rgP K8 HB8 HB8.size [] [] [(0, 64, .pointer (some ⟨b5_1, 4, none⟩)), (1, 65, NV f), (2, 66, .bool false), (3, 67, .bool true), (4, 68, .bool true), (5, 69, undef), (6, 70, undef), (7, 71, undef), (8, 72, (Go.Value.bool Bool.true)), (9, 4, (Go.Value.bool Bool.true))] [] [] [false] ?_ ?_
  · refine oc (g_fd (fun uZ => fdC1 _ uZ)) ?_
    refine oc (g_lo 0 4 uN iN) ?_
    refine oc (g_cl ent_seneschalref03_Small (fun uZ => hXf.out uZ)) ?_
    refine oc (g_un (fun uZ => rfl)) ?_
    refine oc g_mv ?_
    refine oc g_sk ?_
    refine oc g_sk ?_
    refine oc g_sk ?_
    refine oc g_pk ?_
    exact oc g_as on
  intro u9 HB9 sz9 K9
  simp only [fX, nK, nP, Wr.f, aK, pM] at K9
  simp only [setG, setN, List.set_cons_zero, List.set_cons_succ]
  clear K8 HB8
  go_wp2
  refine bodyPost_ret (v := .bool true) (by simp [results, Try.results6, go_sem, ]) rfl ⟨rfl, HB9⟩
set_option maxRecDepth 100000 in
set_option maxHeartbeats 4000000 in
theorem certTurned_t (n f a x d N : Int) (k : Nat) (w : World) (hA : Hid (∀ w, Calls Try.prog 23 #[.int .i64 x, .int .i64 500] w fun e w' => e = .returned (.int .i64 (k : Int)) ∧ Below w.heap.size w w')) (hk : (k : Int) < 500) (hd : 3 + 2 * (k : Int) = d) (hn : In n) (hf : In f) (ha : In a) (hSm : Hid (∀ u, Calls Try.prog 9 #[NV d] u fun e u' => e = .returned (.bool true) ∧ Below u.heap.size u u')) (iN' : In N) (hN : Hid (∀ f a, CE (n * d) f a = CE N f a))(hr : decide (N % d = 0) = !false) (hc : decide (cmpI N d ≤ 0) = false) (hXf : Hid (∀ u, Calls Try.prog 10 #[NV f] u fun e u' => e = .returned (.bool true) ∧ Below u.heap.size u u')) (hSt : Hid (∀ u, Calls Try.prog 11 #[CX N f a] u fun e u' => e = .returned (.bool false) ∧ Below u.heap.size u u')) :
    Calls Try.prog 6 #[CX n f a, .int .i64 x] w fun e w' => e = .returned (.bool true) ∧ Below w.heap.size w w' := by
  have idd : In d := ⟨by omega, by omega⟩
  go_enter Try.func6, Try.ntmps6
  go_upto_region 1 with fail
  generalize hC : (w.alloc (.cells (CE (n) (f) (a) : List Value).toArray 26)) = v0 at *
  have HB0 : Below w.heap.size w v0 := by rw [← hC]; exact balloc (bself w) _
  have K0 : Bk w.heap.size v0 [(true, w.heap.size, CE (n) (f) (a))] := by rw [← hC]; exact (Bk.nil _ w).ad
  clear hC
  refine rgP K0 HB0 HB0.size [] [] [(0, 10, .bool true), (1, 11, .bool false)] [] [] [] ?_ ?_
  · refine oc (g_cl ent_seneschallaw03_works (fun uZ => works3 uZ)) ?_
    exact oc (g_un (fun uZ => rfl)) on
  intro u1 HB1 sz1 K1
  simp only [fX, nK, nP, Wr.f, aK, pM] at K1
  simp only [setG, setN, List.set_cons_zero, List.set_cons_succ]
  clear K0 HB0
  go_upto_region 3 with fail
  refine rgP K1 HB1 HB1.size [] [] [(0, 12, .int .i64 x), (1, 13, .int .i64 (k : Int)), (2, 14, .int .i64 (2 * (k : Int))), (3, 15, .int .i64 d), (4, 1, .int .i64 d)] [(4, 0)] [(4, 1)] [] ?_ ?_
  · refine oc g_mv ?_
    refine oc (g_cl ent_seneschalbase_Among (fun uZ => hA.out uZ)) ?_
    refine oc (g_bn (fun uZ => mul_i _ _ 2 (k : Int) (2 * (k : Int)) uZ rfl (by omega) (by omega))) ?_
    refine oc (g_bn (fun uZ => add_i _ _ 3 (2 * (k : Int)) d uZ hd (by omega) (by omega))) ?_
    exact oc g_as on
  intro u2 HB2 sz2 K2
  simp only [fX, nK, nP, Wr.f, aK, pM] at K2
  simp only [setG, setN, List.set_cons_zero, List.set_cons_succ]
  clear K1 HB1
  go_upto_region 4 with fail
  refine rgP K2 HB2 HB2.size [] [] [(0, 16, .int .i64 d), (1, 17, NV d), (2, 18, .bool true), (3, 19, .bool false)] [] [] [] ?_ ?_
  · refine oc g_mv ?_
    refine oc (g_cl ent_seneschalbase_Nat (fun uZ => bNat_any d uZ (by omega) (by omega))) ?_
    refine oc (g_cl ent_cert_Small (fun uZ => hSm.out uZ)) ?_
    exact oc (g_un (fun uZ => rfl)) on
  intro u3 HB3 sz3 K3
  simp only [fX, nK, nP, Wr.f, aK, pM] at K3
  simp only [setG, setN, List.set_cons_zero, List.set_cons_succ]
  clear K2 HB2
  go_upto_region 6 with fail
  refine rgD K3 HB3 HB3.size [] [(5, 5, L0w, some (6, LW (n * d)))] [(0, 27, .pointer (some ⟨w.heap.size, 0, none⟩)), (1, 28, NV n), (2, 29, .int .i64 d), (3, 30, NV d), (4, 31, WV (n * d))] [(6, 5)] [] [] ?_ ?_
  · refine oc (g_fd (fun uZ => fdC0 _ uZ)) ?_
    refine oc (g_lo 0 0 uN iN) ?_
    refine oc g_mv ?_
    refine oc (g_cl ent_seneschalbase_Nat (fun uZ => bNat_any d uZ (by omega) (by omega))) ?_
    refine oc (g_cl ent_seneschalref01_Mul (fun uZ => nrMul n d uZ hn idd)) ?_
    refine oc (g_al 0 aW) ?_
    exact oc (g_sn 0 iW) on
  intro u4 b4_5 HB4 sz4 K4
  simp only [fX, nK, nP, Wr.f, aK, pM] at K4
  simp only [setG, setN, List.set_cons_zero, List.set_cons_succ]
  clear K3 HB3
  go_upto_region 7 with fail
  refine rgP K4 HB4 HB4.size [] [(1, 6, L0c, some (2, CE (n) (f) (a)))] [(0, 32, CX (n) (f) (a))] [(2, 1)] [] [false] ?_ ?_
  · refine oc (g_ld 0 Try.underlying26 info_api_Cert) ?_
    refine oc (g_al 0 al_api_Cert) ?_
    exact oc (g_sn 0 info_api_Cert) on
  intro u5 b5_1 HB5 sz5 K5
  simp only [fX, nK, nP, Wr.f, aK, pM] at K5
  simp only [setG, setN, List.set_cons_zero, List.set_cons_succ]
  clear K4 HB4
  go_upto_region 8 with fail
  refine rgP K5 HB5 HB5.size [.no, .all 10 (CE (n * d) (f) (a))] [] [(0, 33, .pointer (some ⟨b4_5, 0, none⟩)), (1, 34, .int .u64 (D0 (n * d))), (2, 35, .pointer (some ⟨b4_5, 1, none⟩)), (3, 36, .int .u64 (D1 (n * d))), (4, 37, .pointer (some ⟨b4_5, 2, none⟩)), (5, 38, .int .u64 (D2 (n * d))), (6, 39, .pointer (some ⟨b4_5, 3, none⟩)), (7, 40, .int .u64 (D3 (n * d))), (8, 41, NV (n * d)), (9, 42, .pointer (some ⟨b5_1, 0, none⟩))] [] [] [false] ?_ ?_
  · refine oc (g_ix (jW 0)) ?_
    refine oc (g_lc 0 0 lU) ?_
    refine oc (g_ix (jW 1)) ?_
    refine oc (g_lc 0 1 lU) ?_
    refine oc (g_ix (jW 2)) ?_
    refine oc (g_lc 0 2 lU) ?_
    refine oc (g_ix (jW 3)) ?_
    refine oc (g_lc 0 3 lU) ?_
    refine oc (g_bd (fun uZ => bd4 _ _ _ _ uZ)) ?_
    refine oc (g_fd (fun uZ => fdC0 _ uZ)) ?_
    exact oc (g_sm 1 0 ([]) (LN n) (LN f ++ LN a) (post := LN (n * d)) iN) on
  intro u6 HB6 sz6 K6
  simp only [fX, nK, nP, Wr.f, aK, pM] at K6
  simp only [setG, setN, List.set_cons_zero, List.set_cons_succ]
  clear K5 HB5
  have hNe : Hid (CE (n * d) f a = CE N f a) := by
    show CE (n * d) f a = CE N f a
    rw [hN.out]
  rw [hNe.out] at K6
  go_upto_region 9 with fail
  refine rgP K6 HB6 HB6.size [] [(10, 7, L0w, some (12, LW (N / d))), (11, 8, L0s, some (13, LN (N % d)))] [(0, 44, .pointer (some ⟨b5_1, 0, none⟩)), (1, 45, NV N), (2, 46, WV N), (3, 47, .int .i64 d), (4, 48, NV d), (5, 49, .tuple #[WV (N / d), NV (N % d), .int .i64 0]), (6, 43, .tuple #[WV (N / d), NV (N % d), .int .i64 0]), (7, 50, WV (N / d)), (8, 51, NV (N % d)), (9, 52, .int .i64 0), (14, 9, .int .i64 0)] [(12, 10), (13, 11)] [] [true, false] ?_ ?_
  · refine oc (g_fd (fun uZ => fdC0 _ uZ)) ?_
    refine oc (g_lo 0 0 uN iN) ?_
    refine oc (g_cl ent_seneschalref01_Widen (fun uZ => nrWiden N uZ iN')) ?_
    refine oc g_mv ?_
    refine oc (g_cl ent_seneschalbase_Nat (fun uZ => bNat_any d uZ (by omega) (by omega))) ?_
    refine oc (g_cl ent_seneschalref01_Divide (fun uZ => nrDivide N d uZ iN'.wide idd (by omega))) ?_
    refine oc g_mv ?_
    refine oc g_ex ?_
    refine oc g_ex ?_
    refine oc g_ex ?_
    refine oc (g_al 0 aW) ?_
    refine oc (g_al 1 aN) ?_
    refine oc (g_sn 0 iW) ?_
    refine oc (g_sn 1 iN) ?_
    exact oc g_as on
  intro u7 b7_10 b7_11 HB7 sz7 K7
  simp only [fX, nK, nP, Wr.f, aK, pM] at K7
  simp only [setG, setN, List.set_cons_zero, List.set_cons_succ]
  clear K6 HB6
  go_upto_region 10 with fail
  refine rgD K7 HB7 HB7.size [] [] [(0, 53, NV (N % d)), (1, 54, A4 (0) (0) (0) (0)), (2, 55, .bool false), (3, 56, .bool false), (4, 57, .pointer (some ⟨b5_1, 0, none⟩)), (5, 58, NV N), (6, 59, .int .i64 d), (7, 60, NV d), (8, 61, .int .i64 (cmpI N d)), (9, 62, .bool false), (10, 63, .bool false)] [] [] [true, false] ?_ ?_
  · refine oc (g_ld 1 uN iN) ?_
    refine oc (g_bd zN) ?_
    refine oc (g_bn (fun uZ => neq_0 _ _ (In_mod idd (by omega)) _ hr uZ)) ?_
    refine oc g_mv ?_
    refine oc (g_fd (fun uZ => fdC0 _ uZ)) ?_
    refine oc (g_lo 0 0 uN iN) ?_
    refine oc g_mv ?_
    refine oc (g_cl ent_seneschalbase_Nat (fun uZ => bNat_any d uZ (by omega) (by omega))) ?_
    refine oc (g_cl ent_seneschalref01_Compare (fun uZ => nrCompare N d uZ iN' idd)) ?_
    refine oc (g_bn (fun uZ => leq_i _ _ (cmpI N d) 0 _ uZ hc)) ?_
    exact oc g_pk on
  intro u8 HB8 sz8 K8
  simp only [fX, nK, nP, Wr.f, aK, pM] at K8
  simp only [setG, setN, List.set_cons_zero, List.set_cons_succ]
  clear K7 HB7
  go_upto_region 12 with fail
  refine rgP K8 HB8 HB8.size [] [] [(0, 64, .pointer (some ⟨b5_1, 4, none⟩)), (1, 65, NV f), (2, 66, .bool true), (3, 67, .bool false), (4, 68, .bool false), (5, 69, CX (N) (f) (a)), (6, 70, .bool false), (7, 71, .bool true), (8, 72, .bool true), (9, 4, .bool true)] [] [] [false] ?_ ?_
  · refine oc (g_fd (fun uZ => fdC1 _ uZ)) ?_
    refine oc (g_lo 0 4 uN iN) ?_
    refine oc (g_cl ent_seneschalref03_Small (fun uZ => hXf.out uZ)) ?_
    refine oc (g_un (fun uZ => rfl)) ?_
    refine oc g_mv ?_
    refine oc (g_ld 0 Try.underlying26 info_api_Cert) ?_
    refine oc (g_cl ent_cert_Step (fun uZ => hSt.out uZ)) ?_
    refine oc (g_un (fun uZ => rfl)) ?_
    refine oc g_pk ?_
    exact oc g_as on
  intro u9 HB9 sz9 K9
  simp only [fX, nK, nP, Wr.f, aK, pM] at K9
  simp only [setG, setN, List.set_cons_zero, List.set_cons_succ]
  clear K8 HB8
  go_wp2
  refine bodyPost_ret (v := .bool true) (by simp [results, Try.results6, go_sem, ]) rfl ⟨rfl, HB9⟩
theorem CE_mod (m f a : Int) : CE m f a = CE (m % 115792089237316195423570985008687907853269984665640564039457584007913129639936) f a := by
  have e0 : D0 (m % 115792089237316195423570985008687907853269984665640564039457584007913129639936) = D0 m := by unfold D0; omega
  have e1 : D1 (m % 115792089237316195423570985008687907853269984665640564039457584007913129639936) = D1 m := by unfold D1; omega
  have e2 : D2 (m % 115792089237316195423570985008687907853269984665640564039457584007913129639936) = D2 m := by unfold D2; omega
  have e3 : D3 (m % 115792089237316195423570985008687907853269984665640564039457584007913129639936) = D3 m := by unfold D3; omega
  unfold CE; rw [e0, e1, e2, e3]
theorem certTurned_any (n f a x : Int) (w : World) (hn : In n) (hf : In f) (ha : In a) (hx : -9223372036854775808 ≤ x ∧ x < 9223372036854775808) :
    Calls Try.prog 6 #[CX n f a, .int .i64 x] w fun e w' => e = .returned (.bool true) ∧ Below w.heap.size w w' := by
  obtain ⟨k, hk, hA⟩ := among_any x 500 (by omega) (by omega) hx
  obtain ⟨d, hd⟩ : ∃ d, 3 + 2 * (k : Int) = d := ⟨_, rfl⟩
  have idd : In d := ⟨by omega, by omega⟩
  have hSm := fun u => cSmall d u idd
  have hXm := fun u => xSmall d u idd
  cases hb : smB d with
  | false =>
    rw [hb] at hSm hXm
    exact certTurned_no n f a x d k w hA hk hd hn hf ha hSm hXm
  | true =>
    rw [hb] at hSm
    obtain ⟨N, eN⟩ : ∃ N, n * d % 115792089237316195423570985008687907853269984665640564039457584007913129639936 = N := ⟨_, rfl⟩
    have hN : ∀ f a, CE (n * d) f a = CE N f a := fun f a => by rw [← eN]; exact CE_mod (n * d) f a
    have iN' : In N := by rw [← eN]; exact ⟨Int.emod_nonneg _ (by decide), Int.emod_lt_of_pos _ (by decide)⟩
    by_cases hr : N % d = 0
    · have hr' : decide (N % d = 0) = !false := by simp [hr]
      by_cases hc : N ≤ d
      · exact certTurned_le n f a x d N k w hA hk hd hn hf ha hSm iN' hN hr' (by rw [cmp_le0]; simp only [hc, decide_true])
      · have hc' : decide (cmpI N d ≤ 0) = false := by rw [cmp_le0]; simp only [hc, decide_false]
        have hXf := fun u => xSmall f u hf
        cases hf2 : smB f with
        | false =>
          rw [hf2] at hXf
          exact certTurned_f n f a x d N k w hA hk hd hn hf ha hSm iN' hN hr' hc' hXf
        | true =>
          rw [hf2] at hXf
          refine certTurned_t n f a x d N k w hA hk hd hn hf ha hSm iN' hN hr' hc' hXf fun u => ?_
          have h := cStep N f a u iN' hf ha
          have e : stB N f a = false := stB_f fun h => by
            have hp := h.pr ha.1 ((show Sm f by simpa [smB] using hf2).pr)
            have hdv : d.toNat ∣ N.toNat := by
              have e1 : (d : Int) ∣ N := Int.dvd_of_emod_eq_zero hr
              rw [← Int.toNat_of_nonneg (show 0 ≤ d by omega), ← Int.toNat_of_nonneg iN'.1] at e1
              exact Int.ofNat_dvd.1 e1
            rcases hp.2 _ hdv with e2 | e2 <;> omega
          rw [e] at h
          exact h
    · exact certTurned_r n f a x d N k w hA hk hd hn hf ha hSm iN' hN (by simp only [hr, decide_false]; rfl)
end Go.Proofs.Ytgfggkinmhhdnaa
