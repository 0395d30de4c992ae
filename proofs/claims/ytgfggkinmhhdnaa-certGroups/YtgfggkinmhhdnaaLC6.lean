/- CertGroups: the walk. -/
import Derived.Test.YtgfggkinmhhdnaaRC
import Derived.Test.YtgfggkinmhhdnaaGM
namespace Go.Proofs.Ytgfggkinmhhdnaa
open Go.RowKit
set_option linter.unusedVariables false
set_option linter.unusedSimpArgs false
theorem neq_u (p q : Operand) (x y : Int) (b : Bool) (w : World) (h : (x != y) = b) : (do eqGuard .neq 22 p q (.int .u64 x) (.int .u64 y); binOp .neq 22 (.int .u64 x) (.int .u64 y) : Sem Value).run Try.prog w = .ok (.bool b) w := by
  subst h; go_simp
theorem eql_bb (p q : Operand) (x : Bool) (w : World) : (do eqGuard .eql 4 p q (.bool x) (.bool x); binOp .eql 4 (.bool x) (.bool x) : Sem Value).run Try.prog w = .ok (.bool true) w := by cases x <;> go_simp
theorem ent_seneschallaw03_works (vs : Array Value) (w : World) : (callFunc 13 vs).run Try.prog w = .ok (.enter 13 vs) w := by kernel_rfl
set_option maxRecDepth 100000 in
set_option maxHeartbeats 4000000 in
theorem cNumbers (k y z : Int) (ns : List Int) (w : World) (h2 : 2 ≤ ns.length) (hle : ns.length ≤ 20) (hy0 : ns.getD (ns.length - 1) 0 = y) (hz0 : ns.getD (ns.length - 2) 0 = z)
    (hP : Hid (∀ u, Calls Try.prog 42 #[.int .i64 k] u fun e u' => ∃ v, e = .returned v ∧ PS u.heap.size ns.length (flN ns) u' v ∧ Below u.heap.size u u')) :
    Calls Try.prog 27 #[.int .i64 k] w fun e w' => e = .returned (.tuple #[NV y, NV z, .int .i64 0]) ∧ Below w.heap.size w w' := by
  have hne : ((ns.length : Int) == 0) = false := by rw [beq_eq_false_iff_ne]; omega
  have hz1 : (ns.length : Int) - 1 = ((ns.length - 1 : Nat) : Int) := by omega
  have hz2 : (ns.length : Int) - 2 = ((ns.length - 2 : Nat) : Int) := by omega
  have hy := flN_at ns (ns.length - 1) (by omega)
  have hz := flN_at ns (ns.length - 2) (by omega)
  rw [hy0] at hy
  rw [hz0] at hz
  have hy : Hid _ := hy
  have hz : Hid _ := hz
  clear hy0 hz0
  go_enter Try.func27, Try.ntmps27
  go_upto_region 1 with fail
  generalize hC : ((w.alloc (.cells (L0s : List Value).toArray 24)).alloc (.cells (L0s : List Value).toArray 24)) = v0 at *
  have HB0 : Below w.heap.size w v0 := by rw [← hC]; exact balloc (balloc (bself w) _) _
  have K0 : Bk w.heap.size v0 [(true, w.heap.size, L0s), (true, w.heap.size + 1, L0s)] := by rw [← hC]; exact (Bk.nil _ w).ad.ad
  clear hC
  refine rgF K0 HB0 HB0.size [] [] [(0, 6, .int .i64 k)] [] [] [⟨1, 7, some 2, PS v0.heap.size ns.length (flN ns)⟩, ⟨2, 5, none, PS v0.heap.size ns.length (flN ns)⟩] [] (.cons (fun _ _ _ h1 h2 => h2.stab h1) <| .cons (fun _ _ _ h1 h2 => h2.stab h1) <| Stab.nil) ?_ ?_
  · refine oc g_mv ?_
    refine oc (g_cE 0 (PS v0.heap.size ns.length (flN ns)) ent_cert_primes (fun u hB hs => (hP.out u).mono fun e u2 ⟨v, e1, h1, h2⟩ => ⟨v, e1, h1.mono hs, h2⟩)) ?_
    exact oc (g_sE 0 1 (PS v0.heap.size ns.length (flN ns))) on
  intro u1 v1_1 hv1_1 v1_2 hv1_2 HB1 sz1 K1
  simp only [fX, nK, nP, Wr.f, aK, pM] at K1
  simp only [setG, setN, setE, List.set_cons_zero, List.set_cons_succ]
  clear HB0
  obtain ⟨bL, cL, rfl, ho1, ho2, hcap, hoC⟩ := hv1_2 rfl
  have K1xpr := Bk.more3 K0 K1 ho1 ho2 hoC (by intro x hx; first | (simp at hx; done) | (simp at hx ⊢; omega))
  simp only [aK] at K1xpr
  clear K1
  go_upto_region 2 with fail
  refine rgP K1xpr HB1 HB1.size [] [] [(0, 8, .slice (some ⟨bL, 0, none⟩) ns.length cL), (1, 9, .int .i64 (ns.length : Int)), (2, 10, .bool false)] [] [] [] ?_ ?_
  · refine oc g_mv ?_
    refine oc (g_ln Try.underlying72) ?_
    exact oc (g_bn (fun uZ => eql_i _ _ _ (ns.length : Int) 0 _ uZ hne)) on
  intro u2 HB2 sz2 K2
  simp only [fX, nK, nP, Wr.f, aK, pM] at K2
  simp only [setG, setN, List.set_cons_zero, List.set_cons_succ]
  clear HB1
  go_upto_region 4 with fail
  refine rgD K2 HB2 HB2.size [.all 12 (LN y), .all 13 (LN z)] [] [(0, 13, .slice (some ⟨bL, 0, none⟩) ns.length cL), (1, 14, .slice (some ⟨bL, 0, none⟩) ns.length cL), (2, 15, .int .i64 (ns.length : Int)), (3, 16, .int .i64 ((ns.length - 1 : Nat) : Int)), (4, 17, .pointer (some ⟨bL, 0 + 4 * (ns.length - 1), none⟩)), (5, 18, NV y), (6, 19, .slice (some ⟨bL, 0, none⟩) ns.length cL), (7, 20, .slice (some ⟨bL, 0, none⟩) ns.length cL), (8, 21, .int .i64 (ns.length : Int)), (9, 22, .int .i64 ((ns.length - 2 : Nat) : Int)), (10, 23, .pointer (some ⟨bL, 0 + 4 * (ns.length - 2), none⟩)), (11, 24, NV z), (14, 4, (Go.Value.int Go.IntKind.i64 0))] [] [] [true, true, false] ?_ ?_
  · refine oc g_mv ?_
    refine oc g_mv ?_
    refine oc (g_ln Try.underlying72) ?_
    refine oc (g_bn (fun uZ => sub_i _ _ (ns.length : Int) 1 ((ns.length - 1 : Nat) : Int) uZ hz1 (by omega) (by omega))) ?_
    refine oc (g_ix (fun uZ => ixS bL 0 ns.length cL (ns.length - 1) (by omega) uZ)) ?_
    refine oc (g_lR 2 (0 + 4 * (ns.length - 1)) (cs := LN y) ((by rw [Nat.zero_add]; exact hy.out)) uN iN) ?_
    refine oc g_mv ?_
    refine oc g_mv ?_
    refine oc (g_ln Try.underlying72) ?_
    refine oc (g_bn (fun uZ => sub_i _ _ (ns.length : Int) 2 ((ns.length - 2 : Nat) : Int) uZ hz2 (by omega) (by omega))) ?_
    refine oc (g_ix (fun uZ => ixS bL 0 ns.length cL (ns.length - 2) (by omega) uZ)) ?_
    refine oc (g_lR 2 (0 + 4 * (ns.length - 2)) (cs := LN z) ((by rw [Nat.zero_add]; exact hz.out)) uN iN) ?_
    refine oc (g_st 0 iN) ?_
    refine oc (g_st 1 iN) ?_
    exact oc g_as on
  intro u3 HB3 sz3 K3
  simp only [fX, nK, nP, Wr.f, aK, pM] at K3
  simp only [setG, setN, List.set_cons_zero, List.set_cons_succ]
  clear K2 HB2
  have c2_0 := ((K3.cv 0) 0 _ rfl).1
  have c2_1 := ((K3.cv 0) 1 _ rfl).1
  have c2_2 := ((K3.cv 0) 2 _ rfl).1
  have c2_3 := ((K3.cv 0) 3 _ rfl).1
  have c3_0 := ((K3.cv 1) 0 _ rfl).1
  have c3_1 := ((K3.cv 1) 1 _ rfl).1
  have c3_2 := ((K3.cv 1) 2 _ rfl).1
  have c3_3 := ((K3.cv 1) 3 _ rfl).1
  go_wp2
  refine bodyPost_ret (v := .tuple #[NV y, NV z, .int .i64 0]) (by simp [results, Try.results27, go_sem, c2_0, c2_1, c2_2, c2_3, c3_0, c3_1, c3_2, c3_3]) rfl ⟨rfl, HB3⟩
theorem cNumbers0 (w : World) : Calls Try.prog 27 #[.int .i64 0] w fun e w' => e = .returned (.tuple #[NV 1162079267, NV 581039633, .int .i64 0]) ∧ Below w.heap.size w w' :=
  cNumbers 0 1162079267 581039633 [131101, 581039633, 1162079267] w (by decide) (by decide) rfl rfl (fun u => cPrimes0 u)
theorem pr_P0 : Pr (1162079267 : Int).toNat := (cfB_pr chain0_in chain0_ok).2
theorem In_P0 : In 1162079267 := ⟨by decide, by decide⟩
theorem In_Q0 : In 581039633 := ⟨by decide, by decide⟩
theorem sq_bd {a : Int} (h : 2 ≤ a) (h1 : a ≤ 32001) : 4 ≤ a * a ∧ a * a ≤ 1024064001 := by
  have h2 : a * a ≤ 32001 * 32001 := Int.mul_le_mul h1 h1 (by omega) (by omega)
  have h3 : 2 * 2 ≤ a * a := Int.mul_le_mul h h (by omega) (by omega)
  omega
theorem sq_eq {a b : Int} (ha : 2 ≤ a) (hb : 2 ≤ b) (h : a * a = b * b) : a = b := by
  rcases Int.lt_trichotomy a b with h1 | h1 | h1
  · have : a * a ≤ a * b := Int.mul_le_mul_of_nonneg_left (by omega) (by omega)
    have : a * b < b * b := Int.mul_lt_mul_of_pos_right h1 (by omega)
    omega
  · exact h1
  · have : b * b ≤ b * a := Int.mul_le_mul_of_nonneg_left (by omega) (by omega)
    have : b * a < a * a := Int.mul_lt_mul_of_pos_right h1 (by omega)
    omega
theorem gp_sq {a b : Int} (ha : 2 ≤ a) (ha1 : a ≤ 32001) (hb : 2 ≤ b) (hb1 : b ≤ 32001) : gpB 1162079267 581039633 (a * a) (b * b) chain0 = !decide (a = b) := by
  have e1 := sq_bd ha ha1
  have e2 := sq_bd hb hb1
  unfold gpB
  rw [chain0_ok, gn_sq pr_P0 (by decide) (by decide) ha (by omega), gn_sq pr_P0 (by decide) (by decide) hb (by omega), show decide ((cat chain0 (chain0.length - 1)).1 = 1162079267) = true from rfl, show decide ((cat chain0 (chain0.length - 1)).2.1 = 581039633) = true from rfl, show twB 1162079267 581039633 = true from rfl]
  simp only [Bool.true_and]
  congr 1
  rw [Bool.eq_iff_iff]
  simp only [decide_eq_true_eq]
  exact ⟨sq_eq ha hb, fun h => by rw [h]⟩
theorem gp_neg {a h : Int} (ha : 2 ≤ a) (ha1 : a ≤ 32001) : gpB 1162079267 581039633 (1162079267 - a * a) h chain0 = false := by
  have e1 := sq_bd ha ha1
  unfold gpB
  rw [gn_neg pr_P0 (by decide) (by decide) (by decide) ha (by omega)]
  simp only [Bool.false_and, Bool.and_false]
theorem cGroup0 (g h e : Int) (b cap : Nat) (w : World) (hg : In g) (hh : In h) (he : gpE 1162079267 581039633 g h chain0 = e) (hcap : 2 ≤ cap) (hlt : b < w.heap.size) (hcv : CV w b (flC chain0)) :
    Calls Try.prog 17 #[GX 1162079267 581039633 g h, .slice (some ⟨b, 0, none⟩) 2 cap] w fun en w' => en = .returned (.int .i64 e) ∧ Below w.heap.size w w' := by
  rw [← he]
  exact cGroup 1162079267 581039633 g h b cap chain0 w In_P0 In_Q0 hg hh (by decide) chain0_in hlt hcv hcap
set_option maxRecDepth 100000 in
set_option maxHeartbeats 4000000 in
theorem certGroups_core (x y a b e : Int) (bb : Bool) (w : World) (x0 : 0 ≤ x) (x1 : x < 18446744073709551616) (y0 : 0 ≤ y) (y1 : y < 18446744073709551616) (ea : (2 + x % 32000) % 18446744073709551616 = a) (eb : (2 + y % 32000) % 18446744073709551616 = b) (he : gpE 1162079267 581039633 (a * a) (b * b) chain0 = e) (h1 : (e == 0) = bb) (h2 : (a != b) = bb) :
    Calls Try.prog 8 #[.int .u64 x, .int .u64 y] w fun e w' => e = .returned (.bool true) ∧ Below w.heap.size w w' := by
  have a2 : 2 ≤ a := by omega
  have a3 : a ≤ 32001 := by omega
  have b2 : 2 ≤ b := by omega
  have b3 : b ≤ 32001 := by omega
  obtain ⟨s1, s2⟩ := sq_bd a2 a3
  obtain ⟨t1, t2⟩ := sq_bd b2 b3
  have iA : In (a * a) := ⟨by omega, by omega⟩
  have iB : In (b * b) := ⟨by omega, by omega⟩
  have iM : In (1162079267 - a * a) := ⟨by omega, by omega⟩
  have ma : a * a % 18446744073709551616 = a * a := by omega
  have mb : b * b % 18446744073709551616 = b * b := by omega
  go_enter Try.func8, Try.ntmps8
  have HB0 : Below w.heap.size w w := Below.refl _ _
  have K0_1 := Bk.nil (w.heap.size) w
  go_upto_region 1 with fail
  refine rgP K0_1 HB0 HB0.size [] [] [(0, 15, .bool true), (1, 16, .bool false)] [] [] [] ?_ ?_
  · refine oc (g_cl ent_seneschallaw03_works (fun uZ => works3 uZ)) ?_
    exact oc (g_un (fun uZ => rfl)) on
  intro u1 HB1 sz1 K1
  simp only [fX, nK, nP, Wr.f, aK, pM] at K1
  simp only [setG, setN, List.set_cons_zero, List.set_cons_succ]
  clear HB0
  go_upto_region 3 with fail
  refine rgF K1 HB1 HB1.size [] [] [(3, 20, .int .i64 0), (5, 6, .int .i64 0)] [] [] [⟨0, 18, none, PT 0 u1.heap.size 2 (flC chain0)⟩, ⟨1, 17, none, PT 0 u1.heap.size 2 (flC chain0)⟩, ⟨2, 19, some 4, PS u1.heap.size 2 (flC chain0)⟩, ⟨4, 5, none, PS u1.heap.size 2 (flC chain0)⟩] [] (.cons (fun _ _ _ h1 h2 => h2.stab h1) <| .cons (fun _ _ _ h1 h2 => h2.stab h1) <| .cons (fun _ _ _ h1 h2 => h2.stab h1) <| .cons (fun _ _ _ h1 h2 => h2.stab h1) <| Stab.nil) ?_ ?_
  · refine oc (g_cE 0 (PT 0 u1.heap.size 2 (flC chain0)) ent_cert_Chain (fun u hB hs => (cChain0 u).mono fun e u2 ⟨v, e1, h1, h2⟩ => ⟨v, e1, h1.mono hs, h2⟩)) ?_
    refine oc (g_mE 0 1 (PT 0 u1.heap.size 2 (flC chain0))) ?_
    refine oc (g_xE 1 2 (PT 0 u1.heap.size 2 (flC chain0)) (PS u1.heap.size 2 (flC chain0)) PT.fst) ?_
    refine oc (g_xV 1 (PT 0 u1.heap.size 2 (flC chain0)) PT.snd) ?_
    refine oc (g_sE 2 3 (PS u1.heap.size 2 (flC chain0))) ?_
    exact oc g_as on
  intro u2 v2_0 hv2_0 v2_1 hv2_1 v2_2 hv2_2 v2_4 hv2_4 HB2 sz2 K2
  simp only [fX, nK, nP, Wr.f, aK, pM] at K2
  simp only [setG, setN, setE, List.set_cons_zero, List.set_cons_succ]
  clear HB1
  obtain ⟨bO, cO, rfl, ho1, ho2, hcap, hoC⟩ := hv2_4 rfl
  have K2xoth := Bk.more3 K1 K2 ho1 ho2 hoC (by intro x hx; first | (simp at hx; done) | (simp at hx ⊢; omega))
  simp only [aK] at K2xoth
  clear K2
  go_upto_region 4 with fail
  refine rgP K2xoth HB2 HB2.size [] [(5, 7, L0s, some (7, LN 1162079267)), (6, 8, L0s, some (8, LN 581039633))] [(0, 22, .tuple #[NV 1162079267, NV 581039633, .int .i64 0]), (1, 21, .tuple #[NV 1162079267, NV 581039633, .int .i64 0]), (2, 23, NV 1162079267), (3, 24, NV 581039633), (4, 25, .int .i64 0), (9, 9, .int .i64 0)] [(7, 5), (8, 6)] [] [] ?_ ?_
  · refine oc (g_cl ent_cert_Numbers (fun uZ => cNumbers0 uZ)) ?_
    refine oc g_mv ?_
    refine oc g_ex ?_
    refine oc g_ex ?_
    refine oc g_ex ?_
    refine oc (g_al 0 aN) ?_
    refine oc (g_al 1 aN) ?_
    refine oc (g_sn 0 iN) ?_
    refine oc (g_sn 1 iN) ?_
    exact oc g_as on
  intro u3 b3_5 b3_6 HB3 sz3 K3
  simp only [fX, nK, nP, Wr.f, aK, pM] at K3
  simp only [setG, setN, List.set_cons_zero, List.set_cons_succ]
  clear HB2
  go_upto_region 5 with fail
  refine rgP K3 HB3 HB3.size [] [] [(0, 26, .int .u64 x), (1, 27, .int .u64 (x % 32000)), (2, 28, .int .u64 a), (3, 29, .int .u64 y), (4, 30, .int .u64 (y % 32000)), (5, 31, .int .u64 b), (6, 0, .int .u64 a), (7, 1, .int .u64 b)] [(6, 0), (7, 3)] [(6, 0), (7, 1)] [] ?_ ?_
  · refine oc g_mv ?_
    refine oc (g_bn (fun uZ => rem_u _ _ x 32000 (x % 32000) uZ x0 x1 (by omega) rfl)) ?_
    refine oc (g_bn (fun uZ => add_u _ _ 2 (x % 32000) a uZ ea)) ?_
    refine oc g_mv ?_
    refine oc (g_bn (fun uZ => rem_u _ _ y 32000 (y % 32000) uZ y0 y1 (by omega) rfl)) ?_
    refine oc (g_bn (fun uZ => add_u _ _ 2 (y % 32000) b uZ eb)) ?_
    refine oc g_as ?_
    exact oc g_as on
  intro u4 HB4 sz4 K4
  simp only [fX, nK, nP, Wr.f, aK, pM] at K4
  simp only [setG, setN, List.set_cons_zero, List.set_cons_succ]
  clear K3 HB3
  go_upto_region 6 with fail
  refine rgP K4 HB4 HB4.size [] [(11, 10, L0g, some (12, GE (1162079267) (581039633) (a * a) (b * b)))] [(0, 32, NV 1162079267), (1, 33, NV 581039633), (2, 34, .int .u64 a), (3, 35, .int .u64 a), (4, 36, .int .u64 (a * a)), (5, 37, NV (a * a)), (6, 38, .int .u64 b), (7, 39, .int .u64 b), (8, 40, .int .u64 (b * b)), (9, 41, NV (b * b)), (10, 42, GX (1162079267) (581039633) (a * a) (b * b))] [(12, 11)] [] [true, true, false] ?_ ?_
  · refine oc (g_ld 1 uN iN) ?_
    refine oc (g_ld 2 uN iN) ?_
    refine oc g_mv ?_
    refine oc g_mv ?_
    refine oc (g_bn (fun uZ => mul_u _ _ a a (a * a) uZ ma)) ?_
    refine oc (g_bd (fun uZ => bdX (a * a) (by omega) (by omega) uZ)) ?_
    refine oc g_mv ?_
    refine oc g_mv ?_
    refine oc (g_bn (fun uZ => mul_u _ _ b b (b * b) uZ mb)) ?_
    refine oc (g_bd (fun uZ => bdX (b * b) (by omega) (by omega) uZ)) ?_
    refine oc (g_bd (fun uZ => bdG _ _ _ _ uZ)) ?_
    refine oc (g_al 0 al_api_Group) ?_
    exact oc (g_sn 0 info_api_Group) on
  intro u5 b5_11 HB5 sz5 K5
  simp only [fX, nK, nP, Wr.f, aK, pM] at K5
  simp only [setG, setN, List.set_cons_zero, List.set_cons_succ]
  clear K4 HB4
  go_upto_region 7 with fail
  refine rgP K5 HB5 HB5.size [] [] [(0, 43, GX (1162079267) (581039633) (a * a) (b * b)), (1, 44, .slice (some ⟨bO, 0, none⟩) 2 cO), (2, 45, .int .i64 e), (3, 11, .int .i64 e)] [] [] [] ?_ ?_
  · refine oc (g_ld 2 Try.underlying33 info_api_Group) ?_
    refine oc g_mv ?_
    refine oc (g_ck ent_cert_Group (fun fZ uZ kZ sZ => cGroup0 (a * a) (b * b) e bO cO uZ iA iB he hcap (kZ.lb sZ 0) (kZ.cv 0))) ?_
    exact oc g_as on
  intro u6 HB6 sz6 K6
  simp only [fX, nK, nP, Wr.f, aK, pM] at K6
  simp only [setG, setN, List.set_cons_zero, List.set_cons_succ]
  clear K5 HB5
  go_upto_region 8 with fail
  refine rgP K6 HB6 HB6.size [] [(7, 12, L0s, some (8, LN (1162079267 - a * a)))] [(0, 47, NV 1162079267), (1, 48, .pointer (some ⟨b5_11, 8, none⟩)), (2, 49, NV (a * a)), (3, 50, .tuple #[NV (1162079267 - a * a), .bool false]), (4, 46, .tuple #[NV (1162079267 - a * a), .bool false]), (5, 51, NV (1162079267 - a * a)), (6, 52, .bool false), (9, 13, .bool false)] [(8, 7)] [] [true, false] ?_ ?_
  · refine oc (g_ld 1 uN iN) ?_
    refine oc (g_fd (fun uZ => fdG2 _ uZ)) ?_
    refine oc (g_lo 2 8 uN iN) ?_
    refine oc (g_cl ent_seneschalref01_Sub (fun uZ => nrSub_ge 1162079267 (a * a) uZ In_P0 iA (by omega))) ?_
    refine oc g_mv ?_
    refine oc g_ex ?_
    refine oc g_ex ?_
    refine oc (g_al 0 aN) ?_
    refine oc (g_sn 0 iN) ?_
    exact oc g_as on
  intro u7 b7_7 HB7 sz7 K7
  simp only [fX, nK, nP, Wr.f, aK, pM] at K7
  simp only [setG, setN, List.set_cons_zero, List.set_cons_succ]
  clear K6 HB6
  go_upto_region 9 with fail
  refine rgP K7 HB7 HB7.size [] [(1, 14, L0g, some (2, GE (1162079267) (581039633) (a * a) (b * b)))] [(0, 53, GX (1162079267) (581039633) (a * a) (b * b))] [(2, 1)] [] [true, false] ?_ ?_
  · refine oc (g_ld 1 Try.underlying33 info_api_Group) ?_
    refine oc (g_al 0 al_api_Group) ?_
    exact oc (g_sn 0 info_api_Group) on
  intro u8 b8_1 HB8 sz8 K8
  simp only [fX, nK, nP, Wr.f, aK, pM] at K8
  simp only [setG, setN, List.set_cons_zero, List.set_cons_succ]
  clear K7 HB7
  go_upto_region 10 with fail
  refine rgP K8 HB8 HB8.size [.no, .no, .all 2 (GE (1162079267) (581039633) (1162079267 - a * a) (b * b))] [] [(0, 54, NV (1162079267 - a * a)), (1, 55, .pointer (some ⟨b8_1, 8, none⟩))] [] [] [true, false] ?_ ?_
  · refine oc (g_ld 1 uN iN) ?_
    refine oc (g_fd (fun uZ => fdG2 _ uZ)) ?_
    exact oc (g_sm 2 8 (LN 1162079267 ++ LN 581039633) (LN (a * a)) (LN (b * b)) (post := LN (1162079267 - a * a)) iN) on
  intro u9 HB9 sz9 K9
  simp only [fX, nK, nP, Wr.f, aK, pM] at K9
  simp only [setG, setN, List.set_cons_zero, List.set_cons_succ]
  clear K8 HB8
  go_upto_region 11 with fail
  refine rgP K9 HB9 HB9.size [] [] [(0, 56, .int .i64 e), (1, 57, .bool bb), (2, 58, .int .u64 a), (3, 59, .int .u64 b), (4, 60, .bool bb), (5, 61, .bool true), (6, 62, .bool true), (7, 63, GX (1162079267) (581039633) (1162079267 - a * a) (b * b)), (8, 64, .slice (some ⟨bO, 0, none⟩) 2 cO), (9, 65, .int .i64 30), (10, 66, .bool true), (11, 67, .bool true), (12, 4, .bool true)] [] [] [false, false] ?_ ?_
  · refine oc g_mv ?_
    refine oc (g_bn (fun uZ => eql_i _ _ _ e 0 _ uZ h1)) ?_
    refine oc g_mv ?_
    refine oc g_mv ?_
    refine oc (g_bn (fun uZ => neq_u _ _ a b _ uZ h2)) ?_
    refine oc (g_bn (fun uZ => eql_bb _ _ bb uZ)) ?_
    refine oc g_mv ?_
    refine oc (g_ld 1 Try.underlying33 info_api_Group) ?_
    refine oc g_mv ?_
    refine oc (g_ck ent_cert_Group (fun fZ uZ kZ sZ => cGroup0 (1162079267 - a * a) (b * b) 30 bO cO uZ iM iB (gpE_f (gp_neg a2 a3)) hcap (kZ.lb sZ 0) (kZ.cv 0))) ?_
    refine oc (g_bn (fun uZ => eql_i _ _ _ 30 30 _ uZ rfl)) ?_
    refine oc g_pk ?_
    exact oc g_as on
  intro u10 HB10 sz10 K10
  simp only [fX, nK, nP, Wr.f, aK, pM] at K10
  simp only [setG, setN, List.set_cons_zero, List.set_cons_succ]
  clear K9 HB9
  go_wp2
  refine bodyPost_ret (v := .bool true) (by simp [results, Try.results8, go_sem, ]) rfl ⟨rfl, HB10⟩
theorem certGroups_any (x y : Int) (w : World) (x0 : 0 ≤ x) (x1 : x < 18446744073709551616) (y0 : 0 ≤ y) (y1 : y < 18446744073709551616) :
    Calls Try.prog 8 #[.int .u64 x, .int .u64 y] w fun e w' => e = .returned (.bool true) ∧ Below w.heap.size w w' := by
  obtain ⟨a, ea⟩ : ∃ a, (2 + x % 32000) % 18446744073709551616 = a := ⟨_, rfl⟩
  obtain ⟨b, eb⟩ : ∃ b, (2 + y % 32000) % 18446744073709551616 = b := ⟨_, rfl⟩
  have g := @gp_sq a b (by omega) (by omega) (by omega) (by omega)
  by_cases h : a = b
  · rw [decide_eq_true h] at g
    exact certGroups_core x y a b 30 false w x0 x1 y0 y1 ea eb (gpE_f g) rfl (by simp [h])
  · rw [decide_eq_false h] at g
    exact certGroups_core x y a b 0 true w x0 x1 y0 y1 ea eb (gpE_t g) rfl (by simp [h])
end Go.Proofs.Ytgfggkinmhhdnaa
