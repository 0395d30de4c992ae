/- ModMany: the walk. -/
import Derived.Test.YtkpnjmfndgfogaaRC
import Derived.Test.YtkpnjmfndgfogaaWK2
import Derived.Test.YtkpnjmfndgfogaaMG
import Derived.Test.YtkpnjmfndgfogaaRG
namespace Go.Proofs.Ytkpnjmfndgfogaa
open Go.RowKit
set_option linter.unusedVariables false
set_option linter.unusedSimpArgs false
theorem eqs4 (p q : Operand) (a b c d : Int) (w : World) : (do eqGuard .eql 25 p q (A4 a b c d) (A4 a b c d); binOp .eql 25 (A4 a b c d) (A4 a b c d) : Sem Value).run Try.prog w = .ok (.bool true) w := by
  rw [eql_w, (eq4_iff a b c d a b c d).2 ⟨rfl, rfl, rfl, rfl⟩]
theorem slL (sl : Option Addr) (g o n cap k : Nat) (h : k ≤ n) (hc : n ≤ cap) (hs : cap = 0 ∨ sl = some ⟨g, o, none⟩) : ∃ sl', (n = k ∨ sl' = some ⟨g, o + 4 * k, none⟩) ∧ ∀ w, (Instr.sliceAt 39 (.slice sl n cap) (some (.int .i64 k)) none none).run Try.prog w = .ok (.slice sl' (n - k) (cap - k)) w := by
  rcases hs with rfl | rfl
  · have e1 : n = 0 := by omega
    have e2 : k = 0 := by omega
    subst e1 e2
    refine ⟨sl, .inl rfl, fun w => ?_⟩
    show (Instr.sliceAt 39 (.slice sl 0 0) (some (.int .i64 0)) none none).run Try.prog w = _
    cases sl <;> kernel_rfl
  · have h3 : (k : Int) ≤ n := by omega
    have h4 : (n : Int) ≤ cap := by omega
    have h5 : k ≤ cap := by omega
    by_cases e : cap = k
    · refine ⟨some ⟨g, o, none⟩, .inl (by omega), fun w => ?_⟩
      simp [Instr.sliceAt, Instr.slice, go_sem, Try.underlying39, h, h3, h4, h5, hc, e]
    · refine ⟨some ⟨g, o + 4 * k, none⟩, .inr rfl, fun w => ?_⟩
      simp [Instr.sliceAt, Instr.slice, go_sem, Try.underlying39, h, h3, h4, h5, hc, e, Nat.mul_comm]
set_option maxRecDepth 100000 in
theorem among_any (x n : Int) (h1 : 1 ≤ n) (h2 : n ≤ 100) (hx : -9223372036854775808 ≤ x ∧ x < 9223372036854775808) : ∃ k : Nat, (k : Int) < n ∧ ∀ w, Calls Try.prog 30 #[.int .i64 x, .int .i64 n] w fun e w' => e = .returned (.int .i64 (k : Int)) ∧ Below w.heap.size w w' := by
  have e1 : IntKind.u64.wrap n = n := by rw [IntKind.wrap_u64]; omega
  obtain ⟨y, ey⟩ : ∃ y, IntKind.u64.wrap x = y := ⟨_, rfl⟩
  have y0 : 0 ≤ y := by rw [← ey, IntKind.wrap_u64]; omega
  have e2 : y.tmod n = y % n := Int.tmod_eq_emod_of_nonneg y0
  have m0 := Int.emod_nonneg y (show n ≠ 0 by omega)
  have m1 := Int.emod_lt_of_pos y (show 0 < n by omega)
  have e3 : IntKind.i64.wrap (y % n) = y % n := by simp [IntKind.wrap, IntKind.signed, IntKind.bits]; omega
  have e4 : IntKind.u64.wrap (y % n) = y % n := by rw [IntKind.wrap_u64]; omega
  refine ⟨(y % n).toNat, by omega, fun w => ?_⟩
  rw [show ((y % n).toNat : Int) = y % n by omega]
  generalize y % n = z at *
  have hn1 : ¬ n < 1 := by omega
  have hn0 : n ≠ 0 := by omega
  go_enter Try.func30, Try.ntmps30
  go_wp2
  go_ret
  exact ⟨rfl, Below.refl _ _⟩
theorem ent_mod_Sum' (vs : Array Value) (w : World) : (callFunc 26 vs).run Try.prog w = .ok (.enter 26 vs) w := by kernel_rfl
theorem ent_mod_Product' (vs : Array Value) (w : World) : (callFunc 28 vs).run Try.prog w = .ok (.enter 28 vs) w := by kernel_rfl
set_option maxRecDepth 100000 in
set_option maxHeartbeats 16000000 in
theorem modMany_core (m s0 s1 s2 s3 e p0 p1 p2 p3 f x : Int) (sl sl' : Option Addr) (gb go len cap k c' : Nat) (ns : List Int) (w : World) (hlen : (min (len : Int) 50).toNat = ns.length) (hns : ns.length ≤ 50) (hk : k ≤ ns.length) (hc : len ≤ cap) (hsn : sl = none → cap = 0) (hg : ns.length = 0 ∨ gb < w.heap.size) (hS : Hid (SN w gb go ns)) (hsl : ns = [] ∨ sl = some ⟨gb, go, none⟩)
    (hL : ∀ w, (Instr.sliceAt 39 (.slice sl ns.length cap) (some (.int .i64 k)) none none).run Try.prog w = .ok (.slice sl' (ns.drop k).length c') w) (hsl' : ns.drop k = [] ∨ sl' = some ⟨gb, go + 4 * k, none⟩) (hS1 : Hid (SN w gb (go + 4 * k) (ns.drop k)))
    (hH : ∀ w, (Instr.sliceAt 39 (.slice sl ns.length cap) none (some (.int .i64 k)) none).run Try.prog w = .ok (.slice sl (ns.take k).length cap) w) (hsl2 : ns.take k = [] ∨ sl = some ⟨gb, go, none⟩) (hS2 : Hid (SN w gb go (ns.take k))) (hd1 : (ns.drop k).length ≤ 50) (hd2 : (ns.drop k).length + (ns.take k).length ≤ 50)
    (hA : Hid (∀ w, Calls Try.prog 30 #[.int .i64 x, .int .i64 ((ns.length : Int) + 1)] w fun e w' => e = .returned (.int .i64 (k : Int)) ∧ Below w.heap.size w w'))
    (hSum : Hid (∀ u b c l, (l = ns ∨ l = (ns.drop k ++ ns.take k)) → b < u.heap.size → SN u b 0 l → Calls Try.prog 26 #[NV m, .slice (some ⟨b, 0, none⟩) l.length c] u fun en u' => en = .returned (.tuple #[A4 (s0) (s1) (s2) (s3), .int .i64 e]) ∧ Below u.heap.size u u')) (hPrd : Hid (∀ u b c l, (l = ns ∨ l = (ns.drop k ++ ns.take k)) → b < u.heap.size → SN u b 0 l → Calls Try.prog 28 #[NV m, .slice (some ⟨b, 0, none⟩) l.length c] u fun en u' => en = .returned (.tuple #[A4 (p0) (p1) (p2) (p3), .int .i64 f]) ∧ Below u.heap.size u u')) (hXs : Hid (∀ u, Below w.heap.size w u → Calls Try.prog 27 #[NV m, .slice sl ns.length cap] u fun en u' => en = .returned (.tuple #[A4 (s0) (s1) (s2) (s3), .int .i64 e]) ∧ Below u.heap.size u u')) (hXp : Hid (∀ u, Below w.heap.size w u → Calls Try.prog 29 #[NV m, .slice sl ns.length cap] u fun en u' => en = .returned (.tuple #[A4 (p0) (p1) (p2) (p3), .int .i64 f]) ∧ Below u.heap.size u u')) : Calls Try.prog 6 #[.slice sl len cap, NV m, .int .i64 x] w fun en w' => en = .returned (.bool true) ∧ Below w.heap.size w w' := by
  have hc' : (min (len : Int) 50) ≤ cap := by omega
  have hg1 : (ns.drop k).length = 0 ∨ gb < w.heap.size := hg.imp (fun h => by rw [List.length_drop]; omega) id
  have hg2 : (ns.take k).length = 0 ∨ gb < w.heap.size := hg.imp (fun h => by rw [List.length_take]; omega) id
  go_enter Try.func6, Try.ntmps6
  go_upto_region 2 with fail
  generalize hC : (w.alloc (.cells (LN m : List Value).toArray 25)) = v0 at *
  have HB0 : Below w.heap.size w v0 := by rw [← hC]; exact balloc (bself w) _
  have K0 : Bk w.heap.size v0 [(true, w.heap.size, LN m)] := by rw [← hC]; exact (Bk.nil _ w).ad
  clear hC
  refine rgE K0 HB0 HB0.size [] [(8, 7, L0s, some (9, [.int .u64 (s0), .int .u64 (s1), .int .u64 (s2), .int .u64 (s3)]))] [(0, 27, NV m), (2, 29, .slice sl ns.length cap), (4, 31, .tuple #[A4 (s0) (s1) (s2) (s3), .int .i64 e]), (5, 26, .tuple #[A4 (s0) (s1) (s2) (s3), .int .i64 e]), (6, 32, A4 (s0) (s1) (s2) (s3)), (7, 33, .int .i64 e), (10, 8, .int .i64 e)] [(9, 8)] [] [⟨1, 28, some 3, PE v0.heap.size⟩, ⟨3, 30, some 4, PO v0.heap.size ns⟩] [] (.cons (fun _ _ _ h1 h2 => h2.stab h1) <| .cons (fun _ _ _ h1 h2 => h2.stab h1) <| Stab.nil) ?_ ?_
  · refine oc (g_ld 0 uN iN) ?_
    refine oc (g_bs 0 (PE v0.heap.size) bsN (fun u hu => PE.new hu)) ?_
    refine oc g_mv ?_
    refine oc (g_a1 0 1 (PE v0.heap.size) (PO v0.heap.size ns) (fun u vs hB hs h => app_empty v0.heap.size u _ vs sl gb go cap ns hs hns hsl (hS.out.below2 hB hg) h)) ?_
    refine oc (g_c2 1 (PO v0.heap.size ns) ent_mod_Sum' (fun uZ y bZ h => by obtain ⟨b, c, rfl, hb, hs⟩ := h.at; exact hSum.out uZ b c ns (.inl rfl) hb hs)) ?_
    refine oc g_mv ?_
    refine oc g_ex ?_
    refine oc g_ex ?_
    refine oc (g_al 0 aN) ?_
    refine oc (g_sn 0 iN) ?_
    exact oc g_as on
  intro u1 b1_8 v1_1 hv1_1 v1_3 hv1_3 HB1 sz1 K1
  simp only [fX, nK, nP, Wr.f, aK, pM] at K1
  simp only [setG, setN, setE, List.set_cons_zero, List.set_cons_succ]
  clear K0 HB0
  go_upto_region 3 with fail
  refine rgP K1 HB1 HB1.size [] [(6, 9, L0s, some (7, [.int .u64 (s0), .int .u64 (s1), .int .u64 (s2), .int .u64 (s3)]))] [(0, 35, NV m), (1, 36, .slice sl ns.length cap), (2, 37, .tuple #[A4 (s0) (s1) (s2) (s3), .int .i64 e]), (3, 34, .tuple #[A4 (s0) (s1) (s2) (s3), .int .i64 e]), (4, 38, A4 (s0) (s1) (s2) (s3)), (5, 39, .int .i64 e), (8, 10, .int .i64 e)] [(7, 6)] [] [] ?_ ?_
  · refine oc (g_ld 0 uN iN) ?_
    refine oc g_mv ?_
    refine oc (g_cb ent_seneschalref02_Sum (fun uZ bZ => hXs.out uZ bZ)) ?_
    refine oc g_mv ?_
    refine oc g_ex ?_
    refine oc g_ex ?_
    refine oc (g_al 0 aN) ?_
    refine oc (g_sn 0 iN) ?_
    exact oc g_as on
  intro u2 b2_6 HB2 sz2 K2
  simp only [fX, nK, nP, Wr.f, aK, pM] at K2
  simp only [setG, setN, List.set_cons_zero, List.set_cons_succ]
  clear K1 HB1
  go_upto_region 4 with fail
  refine rgE K2 HB2 HB2.size [] [(8, 11, L0s, some (9, [.int .u64 (p0), .int .u64 (p1), .int .u64 (p2), .int .u64 (p3)]))] [(0, 41, NV m), (2, 43, .slice sl ns.length cap), (4, 45, .tuple #[A4 (p0) (p1) (p2) (p3), .int .i64 f]), (5, 40, .tuple #[A4 (p0) (p1) (p2) (p3), .int .i64 f]), (6, 46, A4 (p0) (p1) (p2) (p3)), (7, 47, .int .i64 f), (10, 12, .int .i64 f)] [(9, 8)] [] [⟨1, 42, some 3, PE u2.heap.size⟩, ⟨3, 44, some 4, PO u2.heap.size ns⟩] [] (.cons (fun _ _ _ h1 h2 => h2.stab h1) <| .cons (fun _ _ _ h1 h2 => h2.stab h1) <| Stab.nil) ?_ ?_
  · refine oc (g_ld 0 uN iN) ?_
    refine oc (g_bs 0 (PE u2.heap.size) bsN (fun u hu => PE.new hu)) ?_
    refine oc g_mv ?_
    refine oc (g_a1 0 1 (PE u2.heap.size) (PO u2.heap.size ns) (fun u vs hB hs h => app_empty u2.heap.size u _ vs sl gb go cap ns hs hns hsl (hS.out.below2 hB hg) h)) ?_
    refine oc (g_c2 1 (PO u2.heap.size ns) ent_mod_Product' (fun uZ y bZ h => by obtain ⟨b, c, rfl, hb, hs⟩ := h.at; exact hPrd.out uZ b c ns (.inl rfl) hb hs)) ?_
    refine oc g_mv ?_
    refine oc g_ex ?_
    refine oc g_ex ?_
    refine oc (g_al 0 aN) ?_
    refine oc (g_sn 0 iN) ?_
    exact oc g_as on
  intro u3 b3_8 v3_1 hv3_1 v3_3 hv3_3 HB3 sz3 K3
  simp only [fX, nK, nP, Wr.f, aK, pM] at K3
  simp only [setG, setN, setE, List.set_cons_zero, List.set_cons_succ]
  clear K2 HB2
  go_upto_region 5 with fail
  refine rgP K3 HB3 HB3.size [] [(6, 13, L0s, some (7, [.int .u64 (p0), .int .u64 (p1), .int .u64 (p2), .int .u64 (p3)]))] [(0, 49, NV m), (1, 50, .slice sl ns.length cap), (2, 51, .tuple #[A4 (p0) (p1) (p2) (p3), .int .i64 f]), (3, 48, .tuple #[A4 (p0) (p1) (p2) (p3), .int .i64 f]), (4, 52, A4 (p0) (p1) (p2) (p3)), (5, 53, .int .i64 f), (8, 14, .int .i64 f)] [(7, 6)] [] [] ?_ ?_
  · refine oc (g_ld 0 uN iN) ?_
    refine oc g_mv ?_
    refine oc (g_cb ent_seneschalref02_Product (fun uZ bZ => hXp.out uZ bZ)) ?_
    refine oc g_mv ?_
    refine oc g_ex ?_
    refine oc g_ex ?_
    refine oc (g_al 0 aN) ?_
    refine oc (g_sn 0 iN) ?_
    exact oc g_as on
  intro u4 b4_6 HB4 sz4 K4
  simp only [fX, nK, nP, Wr.f, aK, pM] at K4
  simp only [setG, setN, List.set_cons_zero, List.set_cons_succ]
  clear K3 HB3
  go_upto_region 6 with fail
  refine rgP K4 HB4 HB4.size [] [] [(0, 54, .int .i64 x), (1, 55, .slice sl ns.length cap), (2, 56, .int .i64 (ns.length : Int)), (3, 57, .int .i64 ((ns.length : Int) + 1)), (4, 58, .int .i64 (k : Int)), (5, 15, .int .i64 (k : Int))] [] [] [] ?_ ?_
  · refine oc g_mv ?_
    refine oc g_mv ?_
    refine oc (g_ln Try.underlying39) ?_
    refine oc (g_bn (fun uZ => add_i _ _ (ns.length : Int) 1 ((ns.length : Int) + 1) uZ rfl (by omega) (by omega))) ?_
    refine oc (g_cl ent_seneschalbase_Among (fun uZ => hA.out uZ)) ?_
    exact oc g_as on
  intro u5 HB5 sz5 K5
  simp only [fX, nK, nP, Wr.f, aK, pM] at K5
  simp only [setG, setN, List.set_cons_zero, List.set_cons_succ]
  clear K4 HB4
  go_upto_region 7 with fail
  refine rgE K5 HB5 HB5.size [] [] [(1, 60, .slice sl ns.length cap), (2, 61, .int .i64 (k : Int)), (3, 62, (.slice sl' (ns.drop k).length c')), (5, 64, .slice sl ns.length cap), (6, 65, .int .i64 (k : Int)), (7, 66, (.slice sl (ns.take k).length cap))] [(9, 8)] [] [⟨0, 59, some 4, PE u5.heap.size⟩, ⟨4, 63, some 8, PO u5.heap.size (ns.drop k)⟩, ⟨8, 67, some 9, PO u5.heap.size (ns.drop k ++ ns.take k)⟩, ⟨9, 16, none, PO u5.heap.size (ns.drop k ++ ns.take k)⟩] [] (.cons (fun _ _ _ h1 h2 => h2.stab h1) <| .cons (fun _ _ _ h1 h2 => h2.stab h1) <| .cons (fun _ _ _ h1 h2 => h2.stab h1) <| .cons (fun _ _ _ h1 h2 => h2.stab h1) <| Stab.nil) ?_ ?_
  · refine oc (g_bs 0 (PE u5.heap.size) bsN (fun u hu => PE.new hu)) ?_
    refine oc g_mv ?_
    refine oc g_mv ?_
    refine oc (g_sl (fun uZ => hL uZ)) ?_
    refine oc (g_a1 0 1 (PE u5.heap.size) (PO u5.heap.size (ns.drop k)) (fun u vs hB hs h => app_empty u5.heap.size u _ vs sl' gb (go + 4 * k) c' (ns.drop k) hs hd1 hsl' (hS1.out.below2 hB hg1) h)) ?_
    refine oc g_mv ?_
    refine oc g_mv ?_
    refine oc (g_sl (fun uZ => hH uZ)) ?_
    refine oc (g_a2 1 2 (PO u5.heap.size (ns.drop k)) (PO u5.heap.size (ns.drop k ++ ns.take k)) (fun u vs hB hs h => app_more u5.heap.size u _ vs sl gb go cap (ns.drop k) (ns.take k) hs hd2 hsl2 (hS2.out.below2 hB hg2) h)) ?_
    exact oc (g_ae 2 3 (PO u5.heap.size (ns.drop k ++ ns.take k))) on
  intro u6 v6_0 hv6_0 v6_4 hv6_4 v6_8 hv6_8 v6_9 hv6_9 HB6 sz6 K6
  simp only [fX, nK, nP, Wr.f, aK, pM] at K6
  simp only [setG, setN, setE, List.set_cons_zero, List.set_cons_succ]
  clear HB5
  obtain ⟨bO, cO, rfl, ho1, ho2, hoC⟩ := (hv6_9 rfl).cv
  have K6x := Bk.more K5 K6 ho1 ho2 hoC
  simp only [aK] at K6x
  clear K5
  go_upto_region 8 with fail
  refine rgP K6x HB6 HB6.size [] [(6, 17, L0s, some (7, [.int .u64 (s0), .int .u64 (s1), .int .u64 (s2), .int .u64 (s3)]))] [(0, 69, NV m), (1, 70, (.slice (some ⟨bO, 0, none⟩) (ns.drop k ++ ns.take k).length cO)), (2, 71, .tuple #[A4 (s0) (s1) (s2) (s3), .int .i64 e]), (3, 68, .tuple #[A4 (s0) (s1) (s2) (s3), .int .i64 e]), (4, 72, A4 (s0) (s1) (s2) (s3)), (5, 73, .int .i64 e), (8, 18, .int .i64 e)] [(7, 6)] [] [] ?_ ?_
  · refine oc (g_ld 0 uN iN) ?_
    refine oc g_mv ?_
    refine oc (g_ck ent_mod_Sum (fun fZ uZ kZ sZ => hSum.out uZ bO cO (ns.drop k ++ ns.take k) (.inr rfl) (kZ.lb sZ 5) (CV.sn (kZ.cv 5)))) ?_
    refine oc g_mv ?_
    refine oc g_ex ?_
    refine oc g_ex ?_
    refine oc (g_al 0 aN) ?_
    refine oc (g_sn 0 iN) ?_
    exact oc g_as on
  intro u7 b7_6 HB7 sz7 K7
  simp only [fX, nK, nP, Wr.f, aK, pM] at K7
  simp only [setG, setN, List.set_cons_zero, List.set_cons_succ]
  clear HB6
  go_upto_region 9 with fail
  refine rgP K7 HB7 HB7.size [] [(6, 19, L0s, some (7, [.int .u64 (p0), .int .u64 (p1), .int .u64 (p2), .int .u64 (p3)]))] [(0, 75, NV m), (1, 76, (.slice (some ⟨bO, 0, none⟩) (ns.drop k ++ ns.take k).length cO)), (2, 77, .tuple #[A4 (p0) (p1) (p2) (p3), .int .i64 f]), (3, 74, .tuple #[A4 (p0) (p1) (p2) (p3), .int .i64 f]), (4, 78, A4 (p0) (p1) (p2) (p3)), (5, 79, .int .i64 f), (8, 20, .int .i64 f)] [(7, 6)] [] [false, true, true, true, true, false] ?_ ?_
  · refine oc (g_ld 0 uN iN) ?_
    refine oc g_mv ?_
    refine oc (g_ck ent_mod_Product (fun fZ uZ kZ sZ => hPrd.out uZ bO cO (ns.drop k ++ ns.take k) (.inr rfl) (kZ.lb sZ 5) (CV.sn (kZ.cv 5)))) ?_
    refine oc g_mv ?_
    refine oc g_ex ?_
    refine oc g_ex ?_
    refine oc (g_al 0 aN) ?_
    refine oc (g_sn 0 iN) ?_
    exact oc g_as on
  intro u8 b8_6 HB8 sz8 K8
  simp only [fX, nK, nP, Wr.f, aK, pM] at K8
  simp only [setG, setN, List.set_cons_zero, List.set_cons_succ]
  clear K7 HB7
  go_upto_region 10 with fail
  refine rgP K8 HB8 HB8.size [] [] [(0, 80, .agg #[.int .u64 (s0), .int .u64 (s1), .int .u64 (s2), .int .u64 (s3)]), (1, 81, .agg #[.int .u64 (s0), .int .u64 (s1), .int .u64 (s2), .int .u64 (s3)]), (2, 82, .bool true), (3, 83, .bool true), (4, 84, .int .i64 e), (5, 85, .int .i64 e), (6, 86, .bool true), (7, 87, .bool true), (8, 88, .bool true), (9, 89, .agg #[.int .u64 (p0), .int .u64 (p1), .int .u64 (p2), .int .u64 (p3)]), (10, 90, .agg #[.int .u64 (p0), .int .u64 (p1), .int .u64 (p2), .int .u64 (p3)]), (11, 91, .bool true), (12, 92, .bool true), (13, 93, .bool true), (14, 94, .int .i64 f), (15, 95, .int .i64 f), (16, 96, .bool true), (17, 97, .bool true), (18, 98, .bool true), (19, 99, .agg #[.int .u64 (s0), .int .u64 (s1), .int .u64 (s2), .int .u64 (s3)]), (20, 100, .agg #[.int .u64 (s0), .int .u64 (s1), .int .u64 (s2), .int .u64 (s3)]), (21, 101, .bool true), (22, 102, .bool true), (23, 103, .bool true), (24, 104, .agg #[.int .u64 (p0), .int .u64 (p1), .int .u64 (p2), .int .u64 (p3)]), (25, 105, .agg #[.int .u64 (p0), .int .u64 (p1), .int .u64 (p2), .int .u64 (p3)]), (26, 106, .bool true), (27, 107, .bool true), (28, 108, .bool true), (29, 109, .bool true), (30, 110, .bool true), (31, 6, .bool true)] [] [] [false, false, false, false, false, false] ?_ ?_
  · refine oc (g_ld 0 uN iN) ?_
    refine oc (g_ld 1 uN iN) ?_
    refine oc (g_bn (fun uZ => eqs4 _ _ _ _ _ _ uZ)) ?_
    refine oc g_mv ?_
    refine oc g_mv ?_
    refine oc g_mv ?_
    refine oc (g_bn (fun uZ => eql_i _ _ _ e e _ uZ (beq_self_eq_true e))) ?_
    refine oc g_pk ?_
    refine oc g_mv ?_
    refine oc (g_ld 2 uN iN) ?_
    refine oc (g_ld 3 uN iN) ?_
    refine oc (g_bn (fun uZ => eqs4 _ _ _ _ _ _ uZ)) ?_
    refine oc g_pk ?_
    refine oc g_mv ?_
    refine oc g_mv ?_
    refine oc g_mv ?_
    refine oc (g_bn (fun uZ => eql_i _ _ _ f f _ uZ (beq_self_eq_true f))) ?_
    refine oc g_pk ?_
    refine oc g_mv ?_
    refine oc (g_ld 4 uN iN) ?_
    refine oc (g_ld 0 uN iN) ?_
    refine oc (g_bn (fun uZ => eqs4 _ _ _ _ _ _ uZ)) ?_
    refine oc g_pk ?_
    refine oc g_mv ?_
    refine oc (g_ld 5 uN iN) ?_
    refine oc (g_ld 2 uN iN) ?_
    refine oc (g_bn (fun uZ => eqs4 _ _ _ _ _ _ uZ)) ?_
    refine oc g_pk ?_
    refine oc g_mv ?_
    refine oc (g_cl ent_seneschallaw02_works (fun uZ => works2 uZ)) ?_
    refine oc g_pk ?_
    exact oc g_as on
  intro u9 HB9 sz9 K9
  simp only [fX, nK, nP, Wr.f, aK, pM] at K9
  simp only [setG, setN, List.set_cons_zero, List.set_cons_succ]
  clear K8 HB8
  go_wp2
  refine bodyPost_ret (v := .bool true) (by simp [results, Try.results6, go_sem, ]) rfl ⟨rfl, HB9⟩
theorem flN_drop : ∀ (ns : List Int) (k : Nat), flN (ns.drop k) = (flN ns).drop (4 * k)
  | [], k => by simp [flN]
  | n :: r, 0 => rfl
  | n :: r, k + 1 => by
    rw [List.drop_succ_cons, flN_drop r k, flN, List.drop_append, show List.drop (4 * (k + 1)) (LN n) = [] from List.drop_eq_nil_of_le (by show 4 ≤ _; omega), List.nil_append, show 4 * (k + 1) - (LN n).length = 4 * k by show 4 * (k + 1) - 4 = _; omega]
theorem flN_take : ∀ (ns : List Int) (k : Nat), flN (ns.take k) = (flN ns).take (4 * k)
  | [], k => by simp [flN]
  | n :: r, 0 => by simp [flN]
  | n :: r, k + 1 => by
    rw [List.take_succ_cons, flN, flN_take r k, flN, List.take_append, List.take_of_length_le (l := LN n) (by show 4 ≤ _; omega), show 4 * (k + 1) - (LN n).length = 4 * k by show 4 * (k + 1) - 4 = _; omega]
theorem SN.drop {w : World} {g o : Nat} {ns : List Int} (h : SN w g o ns) (k : Nat) : SN w g (o + 4 * k) (ns.drop k) := fun j v hj => by
  rw [flN_drop, List.getElem?_drop] at hj
  rw [Nat.add_assoc]; exact h _ v hj
theorem SN.take {w : World} {g o : Nat} {ns : List Int} (h : SN w g o ns) (k : Nat) : SN w g o (ns.take k) := fun j v hj => by
  rw [flN_take, List.getElem?_take] at hj
  split at hj
  · exact h j v hj
  · cases hj
/-- Sums and products of all of them. -/
def sumI : List Int → Int
  | [] => 0
  | n :: r => n + sumI r
def prodI : List Int → Int
  | [] => 1
  | n :: r => n * prodI r
theorem sumI_app : ∀ a b, sumI (a ++ b) = sumI a + sumI b
  | [], b => by simp [sumI]
  | n :: r, b => by rw [List.cons_append, sumI, sumI, sumI_app r b]; omega
theorem prodI_app : ∀ a b, prodI (a ++ b) = prodI a * prodI b
  | [], b => by simp [prodI]
  | n :: r, b => by rw [List.cons_append, prodI, prodI, prodI_app r b, Int.mul_assoc]
theorem take_more (ns : List Int) (k : Nat) (h : k < ns.length) : ns.take (k + 1) = ns.take k ++ [ns.getD k 0] := by
  rw [List.take_succ_eq_append_getElem h]; simp [List.getElem?_eq_getElem h]
theorem gat_sum (m : Int) (ns : List Int) : ∀ k, k ≤ ns.length → gat (fun a b => (a + b) % m) (0 % m) ns k = sumI (ns.take k) % m
  | 0, _ => rfl
  | k + 1, h => by
    rw [gat, gat_sum m ns k (by omega), take_more ns k (by omega), sumI_app, Int.emod_add_emod]; simp [sumI]
theorem gat_prod (m : Int) (ns : List Int) : ∀ k, k ≤ ns.length → gat (fun a b => (a * b) % m) (1 % m) ns k = prodI (ns.take k) % m
  | 0, _ => rfl
  | k + 1, h => by
    rw [gat, gat_prod m ns k (by omega), take_more ns k (by omega), prodI_app, Int.mul_emod, Int.emod_emod, ← Int.mul_emod]; simp [prodI]
theorem turn_sum (m : Int) (ns l : List Int) (k : Nat) (h : l = ns ∨ l = ns.drop k ++ ns.take k) : gat (fun a b => (a + b) % m) (0 % m) l l.length = sumI ns % m := by
  rw [gat_sum m l _ (Nat.le_refl _), List.take_length]
  rcases h with rfl | rfl
  · rfl
  · rw [sumI_app, Int.add_comm, ← sumI_app, List.take_append_drop]
theorem turn_prod (m : Int) (ns l : List Int) (k : Nat) (h : l = ns ∨ l = ns.drop k ++ ns.take k) : gat (fun a b => (a * b) % m) (1 % m) l l.length = prodI ns % m := by
  rw [gat_prod m l _ (Nat.le_refl _), List.take_length]
  rcases h with rfl | rfl
  · rfl
  · rw [prodI_app, Int.mul_comm, ← prodI_app, List.take_append_drop]
theorem In_turn {ns l : List Int} {k : Nat} (hn : ∀ x ∈ ns, In x) (h : l = ns ∨ l = ns.drop k ++ ns.take k) : ∀ j, j < l.length → In (l.getD j 0) := fun j hj => by
  have hx : l.getD j 0 ∈ l := by simp [List.getElem?_eq_getElem hj]
  rcases h with rfl | rfl
  · exact hn _ hx
  · rcases List.mem_append.1 hx with h | h
    · exact hn _ (List.mem_of_mem_drop h)
    · exact hn _ (List.mem_of_mem_take h)
theorem len_turn {ns l : List Int} {k : Nat} (h : l = ns ∨ l = ns.drop k ++ ns.take k) : l.length = ns.length := by
  rcases h with rfl | rfl
  · rfl
  · simp; omega
theorem modMany_any (m x : Int) (sl : Option Addr) (gb go len cap : Nat) (ns : List Int) (w : World) (hm : In m) (hx : -9223372036854775808 ≤ x ∧ x < 9223372036854775808) (hlen : (min (len : Int) 50).toNat = ns.length) (hc : len ≤ cap) (hsn : sl = none → cap = 0) (hs : cap = 0 ∨ sl = some ⟨gb, go, none⟩) (hg : ns.length = 0 ∨ gb < w.heap.size) (hS : SN w gb go ns) (hn : ∀ x ∈ ns, In x) :
    Calls Try.prog 6 #[.slice sl len cap, NV m, .int .i64 x] w fun en w' => en = .returned (.bool true) ∧ Below w.heap.size w w' := by
  have hns : ns.length ≤ 50 := by omega
  obtain ⟨k, hk, hA⟩ := among_any x ((ns.length : Int) + 1) (by omega) (by omega) hx
  have hnc : ns.length ≤ cap := by omega
  obtain ⟨sl', hsl', hL⟩ := slL sl gb go ns.length cap k (by omega) hnc hs
  have hsl : ns = [] ∨ sl = some ⟨gb, go, none⟩ := hs.imp (fun h => List.eq_nil_of_length_eq_zero (by omega)) id
  have hix : Hid (∀ j, j < ns.length → ∀ W, (Instr.indexAt 39 (.slice sl ns.length cap) (.int .i64 j)).run Try.prog W = .ok (.pointer (some ⟨gb, go + 4 * j, none⟩)) W) := fun j hj W => by
    have e := hs.resolve_left (by omega)
    subst e
    exact ixS gb go ns.length cap j hj W
  have hd : ∀ w, (Instr.sliceAt 39 (.slice sl ns.length cap) (some (.int .i64 k)) none none).run Try.prog w = .ok (.slice sl' (ns.drop k).length (cap - k)) w := fun w => by rw [List.length_drop]; exact hL w
  have hh : ∀ w, (Instr.sliceAt 39 (.slice sl ns.length cap) none (some (.int .i64 k)) none).run Try.prog w = .ok (.slice sl (ns.take k).length cap) w := fun w => by
    rw [List.length_take, show min k ns.length = k by omega]; exact slH sl ns.length cap k (by omega) hnc hsn w
  have hsd : ns.drop k = [] ∨ sl' = some ⟨gb, go + 4 * k, none⟩ := hsl'.imp (fun h => by rw [← h, List.drop_length]) id
  have hst : ns.take k = [] ∨ sl = some ⟨gb, go, none⟩ := hsl.imp (fun h => by rw [h]; simp) id
  by_cases h0 : m = 0
  · subst h0
    refine modMany_core 0 0 0 0 0 20 0 0 0 0 20 x sl sl' gb go len cap k (cap - k) ns w hlen hns (by omega) hc hsn hg hS hsl hd hsd (hS.drop k) hh hst (hS.take k) (by rw [List.length_drop]; omega) (by rw [List.length_drop, List.length_take]; omega) hA (fun u b c l hl hb hs => ?_) (fun u b c l hl hb hs => ?_) (fun u hB => ?_) (fun u hB => ?_)
    · rw [NV_0]; exact mSum0 _ _ _ u
    · rw [NV_0]; exact mProduct0 _ _ _ u
    · rw [NV_0]; exact xSum0 _ _ _ u
    · rw [NV_0]; exact xProduct0 _ _ _ u
  · have hx2 : ∀ u : World, Below w.heap.size w u → ns.length = 0 ∨ gb < u.heap.size := fun u hB => hg.imp id (fun h => Nat.lt_of_lt_of_le h hB.size)
    refine modMany_core m (D0 (sumI ns % m)) (D1 (sumI ns % m)) (D2 (sumI ns % m)) (D3 (sumI ns % m)) 0 (D0 (prodI ns % m)) (D1 (prodI ns % m)) (D2 (prodI ns % m)) (D3 (prodI ns % m)) 0 x sl sl' gb go len cap k (cap - k) ns w hlen hns (by omega) hc hsn hg hS hsl hd hsd (hS.drop k) hh hst (hS.take k) (by rw [List.length_drop]; omega) (by rw [List.length_drop, List.length_take]; omega) hA (fun u b c l hl hb hs => ?_) (fun u b c l hl hb hs => ?_) (fun u hB => ?_) (fun u hB => ?_)
    · have e := mSum m (some ⟨b, 0, none⟩) b 0 c l u (by rw [len_turn hl]; exact hns) hm h0 (In_turn hn hl) (fun j hj W => ixS b 0 l.length c j hj W) (.inr hb) hs
      rw [turn_sum m ns l k hl] at e; exact e
    · have e := mProduct m (some ⟨b, 0, none⟩) b 0 c l u (by rw [len_turn hl]; exact hns) hm h0 (In_turn hn hl) (fun j hj W => ixS b 0 l.length c j hj W) (.inr hb) hs
      rw [turn_prod m ns l k hl] at e; exact e
    · have e := xSum m sl gb go cap ns u hns hm h0 (In_turn (k := 0) hn (.inl rfl)) hix (hx2 u hB) (hS.below2 hB hg)
      rw [turn_sum m ns ns 0 (.inl rfl)] at e; exact e
    · have e := xProduct m sl gb go cap ns u hns hm h0 (In_turn (k := 0) hn (.inl rfl)) hix (hx2 u hB) (hS.below2 hB hg)
      rw [turn_prod m ns ns 0 (.inl rfl)] at e; exact e
end Go.Proofs.Ytkpnjmfndgfogaa
