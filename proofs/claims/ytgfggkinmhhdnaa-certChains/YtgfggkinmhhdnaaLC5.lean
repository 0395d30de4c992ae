/- CertChains: the walk. -/
import Derived.Test.YtgfggkinmhhdnaaRC
import Derived.Test.YtgfggkinmhhdnaaCTP
namespace Go.Proofs.Ytgfggkinmhhdnaa
open Go.RowKit
set_option linter.unusedVariables false
set_option linter.unusedSimpArgs false
theorem eqs4 (p q : Operand) (a b c d : Int) (w : World) : (do eqGuard .eql 24 p q (A4 a b c d) (A4 a b c d); binOp .eql 24 (A4 a b c d) (A4 a b c d) : Sem Value).run Try.prog w = .ok (.bool true) w := by
  rw [eql_w, (eq4_iff a b c d a b c d).2 ⟨rfl, rfl, rfl, rfl⟩]
theorem fdC1x (b x : Nat) (w : World) : (Instr.fieldAt 26 (.pointer (some ⟨b, x, none⟩)) 1).run Try.prog w = .ok (.pointer (some ⟨b, x + 4, none⟩)) w := by go_simp
theorem flC_F (cs : List (Int × Int × Int)) (j : Nat) (hj : j < cs.length) : ∀ c v, (LN (cat cs j).2.1)[c]? = some v → (flC cs)[12 * j + 4 + c]? = some v := fun c v hv => by
  have hl : c < 4 := by have := (List.getElem?_eq_some_iff.1 hv).1; simpa using this
  have := flC_get cs j (4 + c) v hj (by rcases (by omega : c = 0 ∨ c = 1 ∨ c = 2 ∨ c = 3) with rfl | rfl | rfl | rfl <;> simpa using hv)
  rwa [← Nat.add_assoc] at this
set_option maxHeartbeats 1000000 in
theorem eqN9 (a b c d : Int) (w : World) : (Op.equalIn 9999 24 (A4 a b c d) (A4 a b c d)).run Try.prog w = .ok true w := by
  have u3 := Try.underlying22
  have a3 := Try.isAgg22
  have z3 := Try.sizeOf22
  rw [show (9999 : Nat) = 9998 + 1 from rfl, Op.equalIn]
  simp only [Sem.run_bind, run_underlying Try.underlying24, Result.andThen_ok]
  simp only [Std.Legacy.Range.forIn_eq_forIn_range', Std.Legacy.Range.size, Nat.sub_zero, Nat.add_sub_cancel, Nat.div_one, List.range'_succ, List.range'_zero, List.forIn_cons, List.forIn_nil]
  go_simp
theorem eqFields_same {P : Program} (d : Nat) (xs : Array Value) (w : World) : ∀ fs : List Field, (∀ f ∈ fs, ∃ v, (part f.type xs f.offset).run P w = .ok v w ∧ (Op.equalIn d f.type v v).run P w = .ok true w) → (Op.eqFields d xs xs fs).run P w = .ok true w
  | [], _ => by simp [Op.eqFields]
  | f :: fs, h => by
    obtain ⟨v, h1, h2⟩ := h f List.mem_cons_self
    have ih := eqFields_same d xs w fs (fun g hg => h g (List.mem_cons_of_mem _ hg))
    simp only [Op.eqFields]
    split <;> simp [h1, h2, ih]
theorem fieldsC : (Try.prog.fieldsOf 26).toList.all (fun f => f.type == 24 && (f.offset == 0 || f.offset == 4 || f.offset == 8)) = true := by kernel_rfl
theorem neq_c (p q : Operand) (n f a : Int) (w : World) : (do eqGuard .neq 26 p q (CX n f a) (CX n f a); binOp .neq 26 (CX n f a) (CX n f a) : Sem Value).run Try.prog w = .ok (.bool false) w := by
  have h : (Op.equalIn 10000 26 (CX n f a) (CX n f a)).run Try.prog w = .ok true w := by
    rw [show (10000 : Nat) = 9999 + 1 from rfl, run_equalIn_struct w 9999 26 _ _ (by kernel_rfl) (by kernel_rfl)]
    refine eqFields_same 9999 _ w _ fun g hg => ?_
    have h1 := List.all_eq_true.1 fieldsC g hg
    simp only [Bool.and_eq_true, Bool.or_eq_true, beq_iff_eq] at h1
    obtain ⟨h2, h3⟩ := h1
    rw [h2]
    rcases h3 with (h3 | h3) | h3 <;> rw [h3]
    · exact ⟨NV n, by kernel_rfl, eqN9 _ _ _ _ w⟩
    · exact ⟨NV f, by kernel_rfl, eqN9 _ _ _ _ w⟩
    · exact ⟨NV a, by kernel_rfl, eqN9 _ _ _ _ w⟩
  rw [Sem.run_bind, run_eqGuard_agg w .neq 26 p q _ _ (by kernel_rfl), Result.andThen_ok, run_neq_struct, h]
  rfl
theorem ent_seneschallaw03_works (vs : Array Value) (w : World) : (callFunc 13 vs).run Try.prog w = .ok (.enter 13 vs) w := by kernel_rfl
theorem ent_seneschalref03_Chain (vs : Array Value) (w : World) : (callFunc 26 vs).run Try.prog w = .ok (.enter 26 vs) w := by kernel_rfl
set_option maxRecDepth 100000 in
set_option maxHeartbeats 4000000 in
theorem cNumbers (k y z : Int) (ns : List Int) (w : World) (h2 : 2 ≤ ns.length) (hle : ns.length ≤ 20) (hy0 : ns.getD (ns.length - 1) 0 = y) (hz0 : ns.getD (ns.length - 2) 0 = z)
    (hP : Hid (∀ u, Calls Try.prog 42 #[.int .i64 k] u fun e u' => ∃ v, e = .returned v ∧ PS u.heap.size ns.length (flN ns) u' v ∧ Below u.heap.size u u')) :
    Calls Try.prog 27 #[.int .i64 k] w fun e w' => e = .returned (.tuple #[NV y, NV z, .int .i64 0]) ∧ Below w.heap.size w w' := by
  have hne : ((ns.length : Int) == 0) = false := by rw [beq_eq_false_iff_ne]; omega
  have hz1 : (ns.length : Int) - 1 = ((ns.length - 1 : Nat) : Int) := by omega
  have hz2 : (ns.length : Int) - 2 = ((ns.length - 2 : Nat) : Int) := by omega
  have hy := flN_at ns (ns.length - 1) (by omega)
  have hz := flN_at ns (ns.length - 2) (by omega)
  rw [hy0] at hy
  rw [hz0] at hz
  have hy : Hid _ := hy
  have hz : Hid _ := hz
  clear hy0 hz0
  go_enter Try.func27, Try.ntmps27
  go_upto_region 1 with fail
  generalize hC : ((w.alloc (.cells (L0s : List Value).toArray 24)).alloc (.cells (L0s : List Value).toArray 24)) = v0 at *
  have HB0 : Below w.heap.size w v0 := by rw [← hC]; exact balloc (balloc (bself w) _) _
  have K0 : Bk w.heap.size v0 [(true, w.heap.size, L0s), (true, w.heap.size + 1, L0s)] := by rw [← hC]; exact (Bk.nil _ w).ad.ad
  clear hC
  refine rgF K0 HB0 HB0.size [] [] [(0, 6, .int .i64 k)] [] [] [⟨1, 7, some 2, PS v0.heap.size ns.length (flN ns)⟩, ⟨2, 5, none, PS v0.heap.size ns.length (flN ns)⟩] [] (.cons (fun _ _ _ h1 h2 => h2.stab h1) <| .cons (fun _ _ _ h1 h2 => h2.stab h1) <| Stab.nil) ?_ ?_
  · refine oc g_mv ?_
    refine oc (g_cE 0 (PS v0.heap.size ns.length (flN ns)) ent_cert_primes (fun u hB hs => (hP.out u).mono fun e u2 ⟨v, e1, h1, h2⟩ => ⟨v, e1, h1.mono hs, h2⟩)) ?_
    exact oc (g_sE 0 1 (PS v0.heap.size ns.length (flN ns))) on
  intro u1 v1_1 hv1_1 v1_2 hv1_2 HB1 sz1 K1
  simp only [fX, nK, nP, Wr.f, aK, pM] at K1
  simp only [setG, setN, setE, List.set_cons_zero, List.set_cons_succ]
  clear HB0
  obtain ⟨bL, cL, rfl, ho1, ho2, hcap, hoC⟩ := hv1_2 rfl
  have K1xpr := Bk.more3 K0 K1 ho1 ho2 hoC (by intro x hx; first | (simp at hx; done) | (simp at hx ⊢; omega))
  simp only [aK] at K1xpr
  clear K1
  go_upto_region 2 with fail
  refine rgP K1xpr HB1 HB1.size [] [] [(0, 8, .slice (some ⟨bL, 0, none⟩) ns.length cL), (1, 9, .int .i64 (ns.length : Int)), (2, 10, .bool false)] [] [] [] ?_ ?_
  · refine oc g_mv ?_
    refine oc (g_ln Try.underlying72) ?_
    exact oc (g_bn (fun uZ => eql_i _ _ _ (ns.length : Int) 0 _ uZ hne)) on
  intro u2 HB2 sz2 K2
  simp only [fX, nK, nP, Wr.f, aK, pM] at K2
  simp only [setG, setN, List.set_cons_zero, List.set_cons_succ]
  clear HB1
  go_upto_region 4 with fail
  refine rgD K2 HB2 HB2.size [.all 12 (LN y), .all 13 (LN z)] [] [(0, 13, .slice (some ⟨bL, 0, none⟩) ns.length cL), (1, 14, .slice (some ⟨bL, 0, none⟩) ns.length cL), (2, 15, .int .i64 (ns.length : Int)), (3, 16, .int .i64 ((ns.length - 1 : Nat) : Int)), (4, 17, .pointer (some ⟨bL, 0 + 4 * (ns.length - 1), none⟩)), (5, 18, NV y), (6, 19, .slice (some ⟨bL, 0, none⟩) ns.length cL), (7, 20, .slice (some ⟨bL, 0, none⟩) ns.length cL), (8, 21, .int .i64 (ns.length : Int)), (9, 22, .int .i64 ((ns.length - 2 : Nat) : Int)), (10, 23, .pointer (some ⟨bL, 0 + 4 * (ns.length - 2), none⟩)), (11, 24, NV z), (14, 4, (Go.Value.int Go.IntKind.i64 0))] [] [] [true, true, false] ?_ ?_
  · refine oc g_mv ?_
    refine oc g_mv ?_
    refine oc (g_ln Try.underlying72) ?_
    refine oc (g_bn (fun uZ => sub_i _ _ (ns.length : Int) 1 ((ns.length - 1 : Nat) : Int) uZ hz1 (by omega) (by omega))) ?_
    refine oc (g_ix (fun uZ => ixS bL 0 ns.length cL (ns.length - 1) (by omega) uZ)) ?_
    refine oc (g_lR 2 (0 + 4 * (ns.length - 1)) (cs := LN y) ((by rw [Nat.zero_add]; exact hy.out)) uN iN) ?_
    refine oc g_mv ?_
    refine oc g_mv ?_
    refine oc (g_ln Try.underlying72) ?_
    refine oc (g_bn (fun uZ => sub_i _ _ (ns.length : Int) 2 ((ns.length - 2 : Nat) : Int) uZ hz2 (by omega) (by omega))) ?_
    refine oc (g_ix (fun uZ => ixS bL 0 ns.length cL (ns.length - 2) (by omega) uZ)) ?_
    refine oc (g_lR 2 (0 + 4 * (ns.length - 2)) (cs := LN z) ((by rw [Nat.zero_add]; exact hz.out)) uN iN) ?_
    refine oc (g_st 0 iN) ?_
    refine oc (g_st 1 iN) ?_
    exact oc g_as on
  intro u3 HB3 sz3 K3
  simp only [fX, nK, nP, Wr.f, aK, pM] at K3
  simp only [setG, setN, List.set_cons_zero, List.set_cons_succ]
  clear K2 HB2
  have c2_0 := ((K3.cv 0) 0 _ rfl).1
  have c2_1 := ((K3.cv 0) 1 _ rfl).1
  have c2_2 := ((K3.cv 0) 2 _ rfl).1
  have c2_3 := ((K3.cv 0) 3 _ rfl).1
  have c3_0 := ((K3.cv 1) 0 _ rfl).1
  have c3_1 := ((K3.cv 1) 1 _ rfl).1
  have c3_2 := ((K3.cv 1) 2 _ rfl).1
  have c3_3 := ((K3.cv 1) 3 _ rfl).1
  go_wp2
  refine bodyPost_ret (v := .tuple #[NV y, NV z, .int .i64 0]) (by simp [results, Try.results27, go_sem, c2_0, c2_1, c2_2, c2_3, c3_0, c3_1, c3_2, c3_3]) rfl ⟨rfl, HB3⟩
set_option maxRecDepth 100000 in
set_option maxHeartbeats 4000000 in
theorem certChains_bad (k : Int) (w : World) (k0 : (k == 0) = false) (k1 : (k == 1) = false) : Calls Try.prog 7 #[.int .i64 k] w fun e w' => e = .returned (.bool true) ∧ Below w.heap.size w w' := by
  go_enter Try.func7, Try.ntmps7
  have HB0 : Below w.heap.size w w := Below.refl _ _
  have K0_1 := Bk.nil (w.heap.size) w
  go_upto_region 1 with fail
  refine rgP K0_1 HB0 HB0.size [] [] [(0, 17, .bool true), (1, 18, .bool false)] [] [] [] ?_ ?_
  · refine oc (g_cl ent_seneschallaw03_works (fun uZ => works3 uZ)) ?_
    exact oc (g_un (fun uZ => rfl)) on
  intro u1 HB1 sz1 K1
  simp only [fX, nK, nP, Wr.f, aK, pM] at K1
  simp only [setG, setN, List.set_cons_zero, List.set_cons_succ]
  clear HB0
  go_upto_region 3 with fail
  refine rgP K1 HB1 HB1.size [] [] [(0, 20, .int .i64 k), (1, 21, .tuple #[.slice none 0 0, .int .i64 2]), (2, 19, .tuple #[.slice none 0 0, .int .i64 2]), (3, 22, .slice none 0 0), (4, 23, .int .i64 2), (5, 3, .slice none 0 0), (6, 4, .int .i64 2)] [] [] [] ?_ ?_
  · refine oc g_mv ?_
    refine oc (g_cl ent_cert_Chain (fun uZ => cChain_bad k uZ k0 k1)) ?_
    refine oc g_mv ?_
    refine oc g_ex ?_
    refine oc g_ex ?_
    refine oc g_as ?_
    exact oc g_as on
  intro u2 HB2 sz2 K2
  simp only [fX, nK, nP, Wr.f, aK, pM] at K2
  simp only [setG, setN, List.set_cons_zero, List.set_cons_succ]
  clear K1 HB1
  go_upto_region 4 with fail
  refine rgP K2 HB2 HB2.size [] [] [(0, 25, .int .i64 k), (1, 26, .tuple #[.slice none 0 0, .int .i64 2]), (2, 24, .tuple #[.slice none 0 0, .int .i64 2]), (3, 27, .slice none 0 0), (4, 28, .int .i64 2), (5, 5, .slice none 0 0), (6, 6, .int .i64 2)] [] [] [] ?_ ?_
  · refine oc g_mv ?_
    refine oc (g_cl ent_seneschalref03_Chain (fun uZ => xChain_bad k uZ k0 k1)) ?_
    refine oc g_mv ?_
    refine oc g_ex ?_
    refine oc g_ex ?_
    refine oc g_as ?_
    exact oc g_as on
  intro u3 HB3 sz3 K3
  simp only [fX, nK, nP, Wr.f, aK, pM] at K3
  simp only [setG, setN, List.set_cons_zero, List.set_cons_succ]
  clear K2 HB2
  go_upto_region 5 with fail
  refine rgP K3 HB3 HB3.size [] [(6, 7, L0s, some (8, [.int .u64 (0), .int .u64 (0), .int .u64 (0), .int .u64 (0)])), (7, 8, L0s, some (9, [.int .u64 (0), .int .u64 (0), .int .u64 (0), .int .u64 (0)]))] [(0, 30, .int .i64 k), (1, 31, .tuple #[A4 (0) (0) (0) (0), A4 (0) (0) (0) (0), .int .i64 2]), (2, 29, .tuple #[A4 (0) (0) (0) (0), A4 (0) (0) (0) (0), .int .i64 2]), (3, 32, A4 (0) (0) (0) (0)), (4, 33, A4 (0) (0) (0) (0)), (5, 34, .int .i64 2), (10, 9, .int .i64 2)] [(8, 6), (9, 7)] [] [] ?_ ?_
  · refine oc g_mv ?_
    refine oc (g_cl ent_cert_Numbers (fun uZ => cNumbers_bad k uZ k0 k1)) ?_
    refine oc g_mv ?_
    refine oc g_ex ?_
    refine oc g_ex ?_
    refine oc g_ex ?_
    refine oc (g_al 0 aN) ?_
    refine oc (g_al 1 aN) ?_
    refine oc (g_sn 0 iN) ?_
    refine oc (g_sn 1 iN) ?_
    exact oc g_as on
  intro u4 b4_6 b4_7 HB4 sz4 K4
  simp only [fX, nK, nP, Wr.f, aK, pM] at K4
  simp only [setG, setN, List.set_cons_zero, List.set_cons_succ]
  clear K3 HB3
  go_upto_region 6 with fail
  refine rgP K4 HB4 HB4.size [] [] [(0, 35, .int .i64 2), (1, 36, .bool true)] [] [] [] ?_ ?_
  · refine oc g_mv ?_
    exact oc (g_bn (fun uZ => neq_i _ _ _ 2 0 _ uZ rfl)) on
  intro u5 HB5 sz5 K5
  simp only [fX, nK, nP, Wr.f, aK, pM] at K5
  simp only [setG, setN, List.set_cons_zero, List.set_cons_succ]
  clear K4 HB4
  go_upto_region 7 with fail
  refine rgP K5 HB5 HB5.size [] [] [(0, 37, .int .i64 2), (1, 38, .int .i64 2), (2, 39, .bool true), (3, 40, .bool true), (4, 41, .int .i64 2), (5, 42, .int .i64 2), (6, 43, .bool true), (7, 44, .bool true), (8, 45, .bool true), (9, 46, .slice none 0 0), (10, 47, .int .i64 0), (11, 48, .bool true), (12, 49, .bool true), (13, 50, .bool true), (14, 51, .agg #[.int .u64 (0), .int .u64 (0), .int .u64 (0), .int .u64 (0)]), (15, 52, A4 (0) (0) (0) (0)), (16, 53, .bool true), (17, 54, .bool true), (18, 55, .bool true), (19, 56, .agg #[.int .u64 (0), .int .u64 (0), .int .u64 (0), .int .u64 (0)]), (20, 57, A4 (0) (0) (0) (0)), (21, 58, .bool true), (22, 59, .bool true), (23, 2, .bool true)] [] [] [false, false] ?_ ?_
  · refine oc g_mv ?_
    refine oc g_mv ?_
    refine oc (g_bn (fun uZ => eql_i _ _ _ 2 2 _ uZ rfl)) ?_
    refine oc g_mv ?_
    refine oc g_mv ?_
    refine oc g_mv ?_
    refine oc (g_bn (fun uZ => eql_i _ _ _ 2 2 _ uZ rfl)) ?_
    refine oc g_pk ?_
    refine oc g_mv ?_
    refine oc g_mv ?_
    refine oc (g_ln Try.underlying31) ?_
    refine oc (g_bn (fun uZ => eql_i _ _ _ 0 0 _ uZ rfl)) ?_
    refine oc g_pk ?_
    refine oc g_mv ?_
    refine oc (g_ld 0 uN iN) ?_
    refine oc (g_bd zN) ?_
    refine oc (g_bn (fun uZ => eqs4 _ _ 0 0 0 0 uZ)) ?_
    refine oc g_pk ?_
    refine oc g_mv ?_
    refine oc (g_ld 1 uN iN) ?_
    refine oc (g_bd zN) ?_
    refine oc (g_bn (fun uZ => eqs4 _ _ 0 0 0 0 uZ)) ?_
    refine oc g_pk ?_
    exact oc g_as on
  intro u6 HB6 sz6 K6
  simp only [fX, nK, nP, Wr.f, aK, pM] at K6
  simp only [setG, setN, List.set_cons_zero, List.set_cons_succ]
  clear K5 HB5
  go_wp2
  refine bodyPost_ret (v := .bool true) (by simp [results, Try.results7, go_sem, ]) rfl ⟨rfl, HB6⟩
set_option maxRecDepth 100000 in
set_option maxHeartbeats 4000000 in
theorem certChains_core (k P Q : Int) (n : Nat) (cs : List (Int × Int × Int)) (w : World) (hn : Hid (n = cs.length)) (h0 : 0 < n) (h20 : n ≤ 20) (hcf : cfB cs = true) (hlast : (cat cs (cs.length - 1)).1 = P) (hLF : Hid ((cat cs (n - 1)).2.1 = Q)) (hin : Hid (∀ j, j < cs.length → In (cat cs j).1 ∧ In (cat cs j).2.1 ∧ In (cat cs j).2.2)) (iQ : In Q) (hq2 : Q + Q < 115792089237316195423570985008687907853269984665640564039457584007913129639936)
    (hAd : Hid (∀ u, Calls Try.prog 28 #[NV (Q + Q), NV 1] u fun e u' => e = .returned (.tuple #[NV P, .bool false]) ∧ Below u.heap.size u u'))
    (hC : Hid (∀ u, Calls Try.prog 25 #[.int .i64 k] u fun e u' => ∃ v, e = .returned v ∧ PT 0 u.heap.size n (flC cs) u' v ∧ Below u.heap.size u u'))
    (hX : Hid (∀ u, Calls Try.prog 26 #[.int .i64 k] u fun e u' => ∃ v, e = .returned v ∧ PT 0 u.heap.size n (flC cs) u' v ∧ Below u.heap.size u u'))
    (hN : Hid (∀ u, Calls Try.prog 27 #[.int .i64 k] u fun e u' => e = .returned (.tuple #[NV P, NV Q, .int .i64 0]) ∧ Below u.heap.size u u')) :
    Calls Try.prog 7 #[.int .i64 k] w fun e w' => e = .returned (.bool true) ∧ Below w.heap.size w w' := by
  have hnn : ((n : Int) != (n : Int)) = false := by simp
  go_enter Try.func7, Try.ntmps7
  have HB0 : Below w.heap.size w w := Below.refl _ _
  have K0_1 := Bk.nil (w.heap.size) w
  go_upto_region 1 with fail
  refine rgP K0_1 HB0 HB0.size [] [] [(0, 17, .bool true), (1, 18, .bool false)] [] [] [] ?_ ?_
  · refine oc (g_cl ent_seneschallaw03_works (fun uZ => works3 uZ)) ?_
    exact oc (g_un (fun uZ => rfl)) on
  intro u1 HB1 sz1 K1
  simp only [fX, nK, nP, Wr.f, aK, pM] at K1
  simp only [setG, setN, List.set_cons_zero, List.set_cons_succ]
  clear HB0
  go_upto_region 3 with fail
  refine rgF K1 HB1 HB1.size [] [] [(0, 20, .int .i64 k), (4, 23, .int .i64 0), (6, 4, .int .i64 0)] [] [] [⟨1, 21, none, PT 0 u1.heap.size n (flC cs)⟩, ⟨2, 19, none, PT 0 u1.heap.size n (flC cs)⟩, ⟨3, 22, some 5, PS u1.heap.size n (flC cs)⟩, ⟨5, 3, none, PS u1.heap.size n (flC cs)⟩] [] (.cons (fun _ _ _ h1 h2 => h2.stab h1) <| .cons (fun _ _ _ h1 h2 => h2.stab h1) <| .cons (fun _ _ _ h1 h2 => h2.stab h1) <| .cons (fun _ _ _ h1 h2 => h2.stab h1) <| Stab.nil) ?_ ?_
  · refine oc g_mv ?_
    refine oc (g_cE 0 (PT 0 u1.heap.size n (flC cs)) ent_cert_Chain (fun u hB hs => (hC.out u).mono fun e u2 ⟨v, e1, h1, h2⟩ => ⟨v, e1, h1.mono hs, h2⟩)) ?_
    refine oc (g_mE 0 1 (PT 0 u1.heap.size n (flC cs))) ?_
    refine oc (g_xE 1 2 (PT 0 u1.heap.size n (flC cs)) (PS u1.heap.size n (flC cs)) PT.fst) ?_
    refine oc (g_xV 1 (PT 0 u1.heap.size n (flC cs)) PT.snd) ?_
    refine oc (g_sE 2 3 (PS u1.heap.size n (flC cs))) ?_
    exact oc g_as on
  intro u2 v2_1 hv2_1 v2_2 hv2_2 v2_3 hv2_3 v2_5 hv2_5 HB2 sz2 K2
  simp only [fX, nK, nP, Wr.f, aK, pM] at K2
  simp only [setG, setN, setE, List.set_cons_zero, List.set_cons_succ]
  clear HB1
  obtain ⟨bl, cl, rfl, l1, l2, l3, l4⟩ := hv2_5 rfl
  have K2xl := Bk.more3 K1 K2 l1 l2 l4 (by intro x hx; first | (simp at hx; done) | (simp at hx ⊢; omega))
  simp only [aK] at K2xl
  clear K2
  go_upto_region 4 with fail
  refine rgF K2xl HB2 HB2.size [] [] [(0, 25, .int .i64 k), (4, 28, .int .i64 0), (6, 6, .int .i64 0)] [] [] [⟨1, 26, none, PT 0 u2.heap.size n (flC cs)⟩, ⟨2, 24, none, PT 0 u2.heap.size n (flC cs)⟩, ⟨3, 27, some 5, PS u2.heap.size n (flC cs)⟩, ⟨5, 5, none, PS u2.heap.size n (flC cs)⟩] [] (.cons (fun _ _ _ h1 h2 => h2.stab h1) <| .cons (fun _ _ _ h1 h2 => h2.stab h1) <| .cons (fun _ _ _ h1 h2 => h2.stab h1) <| .cons (fun _ _ _ h1 h2 => h2.stab h1) <| Stab.nil) ?_ ?_
  · refine oc g_mv ?_
    refine oc (g_cE 0 (PT 0 u2.heap.size n (flC cs)) ent_seneschalref03_Chain (fun u hB hs => (hX.out u).mono fun e u2 ⟨v, e1, h1, h2⟩ => ⟨v, e1, h1.mono hs, h2⟩)) ?_
    refine oc (g_mE 0 1 (PT 0 u2.heap.size n (flC cs))) ?_
    refine oc (g_xE 1 2 (PT 0 u2.heap.size n (flC cs)) (PS u2.heap.size n (flC cs)) PT.fst) ?_
    refine oc (g_xV 1 (PT 0 u2.heap.size n (flC cs)) PT.snd) ?_
    refine oc (g_sE 2 3 (PS u2.heap.size n (flC cs))) ?_
    exact oc g_as on
  intro u3 v3_1 hv3_1 v3_2 hv3_2 v3_3 hv3_3 v3_5 hv3_5 HB3 sz3 K3
  simp only [fX, nK, nP, Wr.f, aK, pM] at K3
  simp only [setG, setN, setE, List.set_cons_zero, List.set_cons_succ]
  clear HB2
  obtain ⟨bm, cm, rfl, m1, m2, m3, m4⟩ := hv3_5 rfl
  have K3xm := Bk.more3 K2xl K3 m1 m2 m4 (by intro x hx; first | (simp at hx; done) | (simp at hx ⊢; omega))
  simp only [aK] at K3xm
  clear K3
  have hne : bl ≠ bm := by omega
  go_upto_region 5 with fail
  refine rgP K3xm HB3 HB3.size [] [(6, 7, L0s, some (8, LN P)), (7, 8, L0s, some (9, LN Q))] [(0, 30, .int .i64 k), (1, 31, .tuple #[NV P, NV Q, .int .i64 0]), (2, 29, .tuple #[NV P, NV Q, .int .i64 0]), (3, 32, NV P), (4, 33, NV Q), (5, 34, .int .i64 0), (10, 9, .int .i64 0)] [(8, 6), (9, 7)] [] [] ?_ ?_
  · refine oc g_mv ?_
    refine oc (g_cl ent_cert_Numbers (fun uZ => hN.out uZ)) ?_
    refine oc g_mv ?_
    refine oc g_ex ?_
    refine oc g_ex ?_
    refine oc g_ex ?_
    refine oc (g_al 0 aN) ?_
    refine oc (g_al 1 aN) ?_
    refine oc (g_sn 0 iN) ?_
    refine oc (g_sn 1 iN) ?_
    exact oc g_as on
  intro u4 b4_6 b4_7 HB4 sz4 K4
  simp only [fX, nK, nP, Wr.f, aK, pM] at K4
  simp only [setG, setN, List.set_cons_zero, List.set_cons_succ]
  clear HB3
  go_upto_region 6 with fail
  refine rgP K4 HB4 HB4.size [] [] [(0, 35, .int .i64 0), (1, 36, .bool false)] [] [] [] ?_ ?_
  · refine oc g_mv ?_
    exact oc (g_bn (fun uZ => neq_i _ _ _ 0 0 _ uZ rfl)) on
  intro u5 HB5 sz5 K5
  simp only [fX, nK, nP, Wr.f, aK, pM] at K5
  simp only [setG, setN, List.set_cons_zero, List.set_cons_succ]
  clear K4 HB4
  go_upto_region 8 with fail
  refine rgP K5 HB5 HB5.size [] [] [(0, 60, .int .i64 0), (1, 61, .bool false), (2, 62, .bool false), (3, 63, .int .i64 0), (4, 64, .bool false), (5, 65, .bool false), (6, 66, .bool false), (7, 67, .slice (some ⟨bl, 0, none⟩) n cl), (8, 68, .int .i64 (n : Int)), (9, 69, .slice (some ⟨bm, 0, none⟩) n cm), (10, 70, .int .i64 (n : Int)), (11, 71, .bool false), (12, 72, .bool false)] [] [] [] ?_ ?_
  · refine oc g_mv ?_
    refine oc (g_bn (fun uZ => neq_i _ _ _ 0 0 _ uZ rfl)) ?_
    refine oc g_mv ?_
    refine oc g_mv ?_
    refine oc (g_bn (fun uZ => neq_i _ _ _ 0 0 _ uZ rfl)) ?_
    refine oc g_pk ?_
    refine oc g_mv ?_
    refine oc g_mv ?_
    refine oc (g_ln Try.underlying31) ?_
    refine oc g_mv ?_
    refine oc (g_ln Try.underlying31) ?_
    refine oc (g_bn (fun uZ => neq_i _ _ _ (n : Int) (n : Int) _ uZ hnn)) ?_
    exact oc g_pk on
  intro u6 HB6 sz6 K6
  simp only [fX, nK, nP, Wr.f, aK, pM] at K6
  simp only [setG, setN, List.set_cons_zero, List.set_cons_succ]
  clear K5 HB5
  go_upto_region 10 with fail
  refine rgP K6 HB6 HB6.size [] [] [(0, 10, (Go.Value.int Go.IntKind.i64 0))] [] [] [] ?_ ?_
  · exact oc g_as on
  intro u7 HB7 sz7 K7
  simp only [fX, nK, nP, Wr.f, aK, pM] at K7
  simp only [setG, setN, List.set_cons_zero, List.set_cons_succ]
  clear K6 HB6
  go_wp2_with fail
  have hno := K7.n
  go_loopw [10] (fun s10 wr => ∃ (j : Nat), j ≤ n ∧ s10 = .int .i64 (j : Int) ∧ Below w.heap.size w wr ∧ Hid (CV wr bl (flC cs)) ∧ bl < wr.heap.size ∧ Hid (CV wr bm (flC cs)) ∧ bm < wr.heap.size ∧ Hid (CV wr b4_6 (LN P)) ∧ b4_6 < wr.heap.size ∧ Hid (CV wr b4_7 (LN Q)) ∧ b4_7 < wr.heap.size) (fun s10 _ => n - (intOf s10).toNat)
  case atStart => exact ⟨0, by omega, rfl, HB7, (K7.cv 0), (K7.lt 0), (K7.cv 1), (K7.lt 1), (K7.cv 2), (K7.lt 2), (K7.cv 3), (K7.lt 3)⟩
  case round =>
    obtain ⟨j, hj, rfl, HBr, Kl, ll, Km, lm, KP, l7, KQ, l8⟩ := hrel
    clear HB7
    have hnK := K7.n
    simp at hnK
    have hoK2 := K7.lo 2
    have hoK3 := K7.lo 3
    by_cases hjl : j < n
    · have hl : decide ((j : Int) < (n : Int)) = true := by simp; omega
      obtain ⟨x, f, a, hc⟩ : ∃ x f a, cat cs j = (x, f, a) := ⟨_, _, _, rfl⟩
      have hR := flC_get cs j
      rw [hc] at hR
      have hR : Hid _ := hR
      have K7_2 : Bk w.heap.size wr [(false, bl, flC cs), (false, bm, flC cs), (false, b4_6, LN P), (false, b4_7, LN Q)] := ⟨.c ll Kl.out <| .c lm Km.out <| .c l7 KP.out <| .c l8 KQ.out <| trivial, by simp; omega⟩
      go_upto_region 11 with fail
      refine rgP K7_2 HBr HBr.size [] [] [(0, 73, .int .i64 (j : Int)), (1, 74, .slice (some ⟨bm, 0, none⟩) n cm), (2, 75, .int .i64 (n : Int)), (3, 76, .bool true)] [] [] [] ?_ ?_
      · refine oc g_mv ?_
        refine oc g_mv ?_
        refine oc (g_ln Try.underlying31) ?_
        exact oc (g_bn (fun uZ => lss_i _ _ (j : Int) (n : Int) _ uZ hl)) on
      intro u8 HB8 sz8 K8
      simp only [fX, nK, nP, Wr.f, aK, pM] at K8
      simp only [setG, setN, List.set_cons_zero, List.set_cons_succ]
      go_upto_region 13 with fail
      refine rgD K8 HB8 HB8.size [] [] [(0, 79, .slice (some ⟨bl, 0, none⟩) n cl), (1, 80, .int .i64 (j : Int)), (2, 81, .pointer (some ⟨bl, 0 + 12 * j, none⟩)), (3, 82, CX (x) (f) (a)), (4, 83, .slice (some ⟨bm, 0, none⟩) n cm), (5, 84, .int .i64 (j : Int)), (6, 85, .pointer (some ⟨bm, 0 + 12 * j, none⟩)), (7, 86, CX (x) (f) (a)), (8, 87, .bool false)] [] [] [] ?_ ?_
      · refine oc g_mv ?_
        refine oc g_mv ?_
        refine oc (g_ix (fun uZ => ixC bl 0 n cl j hjl uZ)) ?_
        refine oc (g_lR 0 (0 + 12 * j) (cs := CE (x) (f) (a)) ((fun c v hv => by rw [Nat.zero_add]; exact hR.out c v (by have := hn.out; omega) hv)) Try.underlying26 info_api_Cert) ?_
        refine oc g_mv ?_
        refine oc g_mv ?_
        refine oc (g_ix (fun uZ => ixC bm 0 n cm j hjl uZ)) ?_
        refine oc (g_lR 1 (0 + 12 * j) (cs := CE (x) (f) (a)) ((fun c v hv => by rw [Nat.zero_add]; exact hR.out c v (by have := hn.out; omega) hv)) Try.underlying26 info_api_Cert) ?_
        exact oc (g_bn (fun uZ => neq_c _ _ x f a uZ)) on
      intro u9 HB9 sz9 K9
      simp only [fX, nK, nP, Wr.f, aK, pM] at K9
      simp only [setG, setN, List.set_cons_zero, List.set_cons_succ]
      clear K8 HB8
      go_upto_region 12 with fail
      refine rgP K9 HB9 HB9.size [] [] [(0, 77, .int .i64 (j : Int)), (1, 78, .int .i64 ((j + 1 : Nat) : Int)), (2, 10, .int .i64 ((j + 1 : Nat) : Int))] [(2, 0)] [(2, 10)] [] ?_ ?_
      · refine oc g_mv ?_
        refine oc (g_bn (fun uZ => add_i _ _ (j : Int) 1 ((j + 1 : Nat) : Int) uZ (by omega) (by omega) (by omega))) ?_
        exact oc g_as on
      intro u10 HB10 sz10 K10
      simp only [fX, nK, nP, Wr.f, aK, pM] at K10
      simp only [setG, setN, List.set_cons_zero, List.set_cons_succ]
      clear K9 HB9
      go_wp2
      refine ⟨⟨j + 1, by omega, rfl, HB10, (K10.cv 0), (K10.lt 0), (K10.cv 1), (K10.lt 1), (K10.cv 2), (K10.lt 2), (K10.cv 3), (K10.lt 3)⟩, ?_⟩
      simp [intOf] <;> omega
    · have hl : decide ((j : Int) < (n : Int)) = false := by simp; omega
      have hz3 : (n : Int) - 1 = ((n - 1 : Nat) : Int) := by omega
      have hR := flC_F cs (n - 1) (by have := hn.out; omega)
      rw [hLF.out] at hR
      have hR : Hid _ := hR
      have K7_2 : Bk w.heap.size wr [(false, bl, flC cs), (false, bm, flC cs), (false, b4_6, LN P), (false, b4_7, LN Q)] := ⟨.c ll Kl.out <| .c lm Km.out <| .c l7 KP.out <| .c l8 KQ.out <| trivial, by simp; omega⟩
      go_upto_region 11 with fail
      refine rgP K7_2 HBr HBr.size [] [] [(0, 73, .int .i64 (j : Int)), (1, 74, .slice (some ⟨bm, 0, none⟩) n cm), (2, 75, .int .i64 (n : Int)), (3, 76, .bool false)] [] [] [] ?_ ?_
      · refine oc g_mv ?_
        refine oc g_mv ?_
        refine oc (g_ln Try.underlying31) ?_
        exact oc (g_bn (fun uZ => lss_i _ _ (j : Int) (n : Int) _ uZ hl)) on
      intro u8 HB8 sz8 K8
      simp only [fX, nK, nP, Wr.f, aK, pM] at K8
      simp only [setG, setN, List.set_cons_zero, List.set_cons_succ]
      go_upto_region 15 with fail
      refine rgP K8 HB8 HB8.size [] [(5, 11, L0s, some (6, LN P))] [(0, 89, .slice (some ⟨bl, 0, none⟩) n cl), (1, 90, .tuple #[NV P, .int .i64 0]), (2, 88, .tuple #[NV P, .int .i64 0]), (3, 91, NV P), (4, 92, .int .i64 0), (7, 12, .int .i64 0)] [(6, 5)] [] [] ?_ ?_
      · refine oc g_mv ?_
        refine oc (g_ck ent_cert_Check (fun fZ uZ kZ sZ => cCheck_own_t cs P bl cl n uZ hn.out hcf hlast (by have := hn.out; omega) hin (kZ.lb sZ 0) (kZ.cv 0))) ?_
        refine oc g_mv ?_
        refine oc g_ex ?_
        refine oc g_ex ?_
        refine oc (g_al 0 aN) ?_
        refine oc (g_sn 0 iN) ?_
        exact oc g_as on
      intro u9 b9_5 HB9 sz9 K9
      simp only [fX, nK, nP, Wr.f, aK, pM] at K9
      simp only [setG, setN, List.set_cons_zero, List.set_cons_succ]
      clear K8 HB8
      go_upto_region 16 with fail
      refine rgP K9 HB9 HB9.size [] [(6, 13, L0s, some (7, LN (Q + Q)))] [(0, 94, NV Q), (1, 95, NV Q), (2, 96, .tuple #[NV (Q + Q), .bool false]), (3, 93, .tuple #[NV (Q + Q), .bool false]), (4, 97, NV (Q + Q)), (5, 98, .bool false), (8, 14, .bool false)] [(7, 6)] [] [] ?_ ?_
      · refine oc (g_ld 3 uN iN) ?_
        refine oc (g_ld 3 uN iN) ?_
        refine oc (g_cl ent_seneschalref01_Add (fun uZ => nrAdd_lt Q Q uZ iQ iQ hq2)) ?_
        refine oc g_mv ?_
        refine oc g_ex ?_
        refine oc g_ex ?_
        refine oc (g_al 0 aN) ?_
        refine oc (g_sn 0 iN) ?_
        exact oc g_as on
      intro u10 b10_6 HB10 sz10 K10
      simp only [fX, nK, nP, Wr.f, aK, pM] at K10
      simp only [setG, setN, List.set_cons_zero, List.set_cons_succ]
      clear K9 HB9
      go_upto_region 17 with fail
      refine rgD K10 HB10 HB10.size [] [(6, 15, L0s, some (7, LN P))] [(0, 100, NV (Q + Q)), (1, 101, NV 1), (2, 102, .tuple #[NV P, .bool false]), (3, 99, .tuple #[NV P, .bool false]), (4, 103, NV P), (5, 104, .bool false), (8, 16, .bool false)] [(7, 6)] [] [true, true, true, true, true, false] ?_ ?_
      · refine oc (g_ld 5 uN iN) ?_
        refine oc (g_cl ent_seneschalbase_Nat (fun uZ => bNat_any 1 uZ (by omega) (by omega))) ?_
        refine oc (g_cl ent_seneschalref01_Add (fun uZ => hAd.out uZ)) ?_
        refine oc g_mv ?_
        refine oc g_ex ?_
        refine oc g_ex ?_
        refine oc (g_al 0 aN) ?_
        refine oc (g_sn 0 iN) ?_
        exact oc g_as on
      intro u11 b11_6 HB11 sz11 K11
      simp only [fX, nK, nP, Wr.f, aK, pM] at K11
      simp only [setG, setN, List.set_cons_zero, List.set_cons_succ]
      clear K10 HB10
      go_upto_region 18 with fail
      refine rgD K11 HB11 HB11.size [] [] [(0, 105, .int .i64 0), (1, 106, .bool true), (2, 107, .bool true), (3, 108, NV P), (4, 109, NV P), (5, 110, .bool true), (6, 111, .bool true), (7, 112, .bool true), (8, 113, NV P), (9, 114, NV P), (10, 115, .bool true), (11, 116, .bool true), (12, 117, .bool true), (13, 118, NV Q), (14, 119, .slice (some ⟨bm, 0, none⟩) n cm), (15, 120, .slice (some ⟨bm, 0, none⟩) n cm), (16, 121, .int .i64 (n : Int)), (17, 122, .int .i64 ((n - 1 : Nat) : Int)), (18, 123, .pointer (some ⟨bm, 0 + 12 * (n - 1), none⟩)), (19, 124, .pointer (some ⟨bm, 0 + 12 * (n - 1) + 4, none⟩)), (20, 125, NV Q), (21, 126, .bool true), (22, 127, .bool true), (23, 2, .bool true)] [] [] [true, true, true, true, false, false] ?_ ?_
      · refine oc g_mv ?_
        refine oc (g_bn (fun uZ => eql_i _ _ _ 0 0 _ uZ rfl)) ?_
        refine oc g_mv ?_
        refine oc (g_ld 4 uN iN) ?_
        refine oc (g_ld 2 uN iN) ?_
        refine oc (g_bn (fun uZ => eql_same _ _ (P) uZ)) ?_
        refine oc g_pk ?_
        refine oc g_mv ?_
        refine oc (g_ld 5 uN iN) ?_
        refine oc (g_ld 2 uN iN) ?_
        refine oc (g_bn (fun uZ => eql_same _ _ (P) uZ)) ?_
        refine oc g_pk ?_
        refine oc g_mv ?_
        refine oc (g_ld 3 uN iN) ?_
        refine oc g_mv ?_
        refine oc g_mv ?_
        refine oc (g_ln Try.underlying31) ?_
        refine oc (g_bn (fun uZ => sub_i _ _ (n : Int) 1 ((n - 1 : Nat) : Int) uZ hz3 (by omega) (by omega))) ?_
        refine oc (g_ix (fun uZ => ixC bm 0 n cm (n - 1) (by omega) uZ)) ?_
        refine oc (g_fd (fun uZ => fdC1x _ _ uZ)) ?_
        refine oc (g_lR 1 (0 + 12 * (n - 1) + 4) (cs := LN Q) ((fun c v hv => by rw [Nat.zero_add]; exact hR.out c v hv)) uN iN) ?_
        refine oc (g_bn (fun uZ => eql_same _ _ (Q) uZ)) ?_
        refine oc g_pk ?_
        exact oc g_as on
      intro u12 HB12 sz12 K12
      simp only [fX, nK, nP, Wr.f, aK, pM] at K12
      simp only [setG, setN, List.set_cons_zero, List.set_cons_succ]
      clear K11 HB11
      go_wp2
      refine bodyPost_ret (v := .bool true) (by simp [results, Try.results7, go_sem, ]) rfl ⟨rfl, HB12⟩
def chain1 : List (Int × Int × Int) := [(155104850083, 950083, 2), (9929954040762925640323, 155104850083, 2), (46402351822830464543557718426643478236272867, 9929954040762925640323, 2), (14916054347443135115184093201281105342435181682673909877234428180277224094941, 46402351822830464543557718426643478236272867, 2), (29832108694886270230368186402562210684870363365347819754468856360554448189883, 14916054347443135115184093201281105342435181682673909877234428180277224094941, 2)]
theorem chain1_ok : cfB chain1 = true := by simp [cfB, crB, knB, cat, chain1, small_950083, chain1_1, chain1_2, chain1_3, chain1_4, chain1_5]
theorem chain1_in : ∀ j, j < chain1.length → In (cat chain1 j).1 ∧ In (cat chain1 j).2.1 ∧ In (cat chain1 j).2.2 := fun j hj => by
  have : j = 0 ∨ j = 1 ∨ j = 2 ∨ j = 3 ∨ j = 4 := by have : chain1.length = 5 := rfl; omega
  rcases this with rfl | rfl | rfl | rfl | rfl <;> exact ⟨⟨by decide, by decide⟩, ⟨by decide, by decide⟩, ⟨by decide, by decide⟩⟩
theorem ns1_in : ∀ j, j < ns1.length → In (ns1.getD j 0) := fun j hj => by
  have : j = 0 ∨ j = 1 ∨ j = 2 ∨ j = 3 ∨ j = 4 ∨ j = 5 := by have : ns1.length = 6 := rfl; omega
  rcases this with rfl | rfl | rfl | rfl | rfl | rfl <;> exact ⟨by decide, by decide⟩
theorem add1 (P Q : Int) (u : World) (iQ : In (Q + Q)) (h : Q + Q + 1 = P) (hl : Q + Q + 1 < 115792089237316195423570985008687907853269984665640564039457584007913129639936) : Calls Try.prog 28 #[NV (Q + Q), NV 1] u fun e u' => e = .returned (.tuple #[NV P, .bool false]) ∧ Below u.heap.size u u' := by
  rw [← h]; exact nrAdd_lt (Q + Q) 1 u iQ In_1 hl
theorem certChains_any (k : Int) (w : World) : Calls Try.prog 7 #[.int .i64 k] w fun e w' => e = .returned (.bool true) ∧ Below w.heap.size w w' := by
  by_cases k0 : k = 0
  · subst k0
    exact certChains_core 0 1162079267 581039633 2 chain0 w rfl (by decide) (by decide) chain0_ok rfl rfl chain0_in ⟨by decide, by decide⟩ (by decide) (fun u => add1 _ _ u ⟨by decide, by decide⟩ (by decide) (by decide)) (fun u => cChain0 u) (fun u => xChain0 u)
      (fun u => cNumbers 0 1162079267 581039633 [131101, 581039633, 1162079267] u (by decide) (by decide) rfl rfl (fun u => cPrimes0 u))
  by_cases k1 : k = 1
  · subst k1
    exact certChains_core 1 29832108694886270230368186402562210684870363365347819754468856360554448189883 14916054347443135115184093201281105342435181682673909877234428180277224094941 5 chain1 w rfl (by decide) (by decide) chain1_ok rfl rfl chain1_in ⟨by decide, by decide⟩ (by decide) (fun u => add1 _ _ u ⟨by decide, by decide⟩ (by decide) (by decide))
      (fun u => cChain 1 ns1 u (by decide) (by decide) ns1_in (fun u => cPrimes1 u)) (fun u => xChain1 u) (fun u => cNumbers 1 29832108694886270230368186402562210684870363365347819754468856360554448189883 14916054347443135115184093201281105342435181682673909877234428180277224094941 ns1 u (by decide) (by decide) rfl rfl (fun u => cPrimes1 u))
  exact certChains_bad k w (by simp [k0]) (by simp [k1])
end Go.Proofs.Ytgfggkinmhhdnaa
