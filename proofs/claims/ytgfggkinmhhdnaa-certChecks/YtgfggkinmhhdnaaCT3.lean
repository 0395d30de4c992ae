import Derived.Test.YtgfggkinmhhdnaaRC
import Derived.Test.YtgfggkinmhhdnaaPK
import Derived.Test.YtgfggkinmhhdnaaNN
import Derived.Test.YtgfggkinmhhdnaaMQ
import Derived.Test.YtgfggkinmhhdnaaEE
import Derived.Test.YtgfggkinmhhdnaaRG
/- Primes that are certified: what a step lacks. -/
namespace Go.Proofs.Ytgfggkinmhhdnaa
open Go.RowKit
set_option linter.unusedVariables false
set_option linter.unusedSimpArgs false
theorem sl_wd (b : Nat) (w : World) : (Instr.sliceAt 45 (.pointer (some ⟨b, 0, none⟩)) none (some (.int .i64 4)) none).run Try.prog w = .ok (.slice (some ⟨b, 0, none⟩) 4 8) w := by kernel_rfl
theorem ap_wd (b : Nat) (w : World) : (Instr.arrayAt 24 (.slice (some ⟨b, 0, none⟩) 4 8)).run Try.prog w = .ok (.pointer (some ⟨b, 0, none⟩)) w := by kernel_rfl
theorem gtr_i (p q : Operand) (x y : Int) (b : Bool) (w : World) (h : decide (y < x) = b) : (do eqGuard .gtr 3 p q (.int .i64 x) (.int .i64 y); binOp .gtr 3 (.int .i64 x) (.int .i64 y) : Sem Value).run Try.prog w = .ok (.bool b) w := by
  subst h; go_simp
theorem In_2 : In 2 := ⟨by omega, by omega⟩
theorem In_3 : In 3 := ⟨by omega, by omega⟩
set_option maxRecDepth 100000 in
set_option maxHeartbeats 4000000 in
theorem clacks_all (n f a L q r P1 P2 S G : Int) (b1 b2 b3 b4 b5 b6 b7 bo : Bool) (w : World) (hn : In n) (hL : In L) (hf : In f) (iq : In q) (ir : In r) (iP1 : In P1) (iG : In G) (h0 : decide (n = 0) = !true) (hS : Hid (∀ u, Calls Try.prog 45 #[NV n, NV 1] u fun en u' => en = .returned (.tuple #[NV L, .bool bo]) ∧ Below u.heap.size u u'))
    (hD : Hid (∀ u, Calls Try.prog 46 #[WV L, NV f] u fun en u' => en = .returned (.tuple #[WV q, NV r, .int .i64 0]) ∧ Below u.heap.size u u')) (hb5 : Hid (∀ u, Calls Try.prog 52 #[NV n, .int .i64 0] u fun en u' => en = .returned (.bool b5) ∧ Below u.heap.size u u')) (e6 : decide (0 ≤ cmpI n 3) = b6) (e7 : decide (0 ≤ cmpI f 2) = b7) (e3 : decide (r = 0) = b3) (e4 : decide (0 < cmpI f q) = b4) (e1 : decide (P1 = 1) = b1) (e2 : decide (G = 1) = b2)
    (hX : Hid (∀ u, Calls Try.prog 48 #[NV a, NV L, NV n] u fun en u' => en = .returned (.tuple #[NV P1, .int .i64 0]) ∧ Below u.heap.size u u')) (hY : Hid (∀ u, Calls Try.prog 48 #[NV a, NV q, NV n] u fun en u' => en = .returned (.tuple #[NV P2, .int .i64 0]) ∧ Below u.heap.size u u')) (hZ : Hid (∀ u, Calls Try.prog 49 #[NV P2, NV 1, NV n] u fun en u' => en = .returned (.tuple #[NV S, .int .i64 0]) ∧ Below u.heap.size u u')) (hG : Hid (∀ u, Calls Try.prog 51 #[NV S, NV n] u fun en u' => en = .returned (NV G) ∧ Below u.heap.size u u')) :
    Calls Try.prog 32 #[CX n f a] w fun e w' => e = .returned (.int .i64 ((((ucn [b1, b2] 2 : Nat) : Int) + ((ucn [b3, b4] 2 : Nat) : Int)) + ((ucn [b5, b6, b7] 3 : Nat) : Int))) ∧ Below w.heap.size w w' := by
  go_enter Try.func32, Try.ntmps32
  go_upto_region 1 with fail
  generalize hC : (w.alloc (.cells (CE (n) (f) (a) : List Value).toArray 26)) = v0 at *
  have HB0 : Below w.heap.size w v0 := by rw [← hC]; exact balloc (bself w) _
  have K0 : Bk w.heap.size v0 [(true, w.heap.size, CE (n) (f) (a))] := by rw [← hC]; exact (Bk.nil _ w).ad
  clear hC
  have hu2 := ucn_le [b1, b2] 2
  have hu4 := ucn_le [b3, b4] 2
  have hu7 := ucn_le [b5, b6, b7] 3
  refine rgP K0 HB0 HB0.size [] [(1, 3, L0s, some (2, LN 1))] [(0, 15, NV 1)] [(2, 1)] [] [] ?_ ?_
  · refine oc (g_cl ent_limb_Of (fun uZ => nOf 1 uZ (by omega) (by omega))) ?_
    refine oc (g_al 0 aN) ?_
    exact oc (g_sn 0 iN) on
  intro u1 b1_1 HB1 sz1 K1
  simp only [fX, nK, nP, Wr.f, aK, pM] at K1
  simp only [setG, setN, List.set_cons_zero, List.set_cons_succ]
  clear K0 HB0
  go_upto_region 2 with fail
  refine rgP K1 HB1 HB1.size [] [(7, 4, L0s, some (8, LN L))] [(0, 17, .pointer (some ⟨w.heap.size, 0, none⟩)), (1, 18, NV n), (2, 19, NV 1), (3, 20, .tuple #[NV L, .bool bo]), (4, 16, .tuple #[NV L, .bool bo]), (5, 21, NV L), (6, 22, .bool bo), (9, 5, .bool bo)] [(8, 7)] [] [] ?_ ?_
  · refine oc (g_fd (fun uZ => fdC0 _ uZ)) ?_
    refine oc (g_lo 0 0 uN iN) ?_
    refine oc (g_ld 1 uN iN) ?_
    refine oc (g_cl ent_limb_Sub (fun uZ => hS.out uZ)) ?_
    refine oc g_mv ?_
    refine oc g_ex ?_
    refine oc g_ex ?_
    refine oc (g_al 0 aN) ?_
    refine oc (g_sn 0 iN) ?_
    exact oc g_as on
  intro u2 b2_7 HB2 sz2 K2
  simp only [fX, nK, nP, Wr.f, aK, pM] at K2
  simp only [setG, setN, List.set_cons_zero, List.set_cons_succ]
  clear K1 HB1
  go_upto_region 3 with fail
  refine rgD K2 HB2 HB2.size [] [(9, 6, L0w, some (11, LW q)), (10, 7, L0s, some (12, LN r))] [(0, 24, NV L), (1, 25, WV L), (2, 26, .pointer (some ⟨w.heap.size, 4, none⟩)), (3, 27, NV f), (4, 28, .tuple #[WV q, NV r, .int .i64 0]), (5, 23, .tuple #[WV q, NV r, .int .i64 0]), (6, 29, WV q), (7, 30, NV r), (8, 31, .int .i64 0), (13, 8, .int .i64 0)] [(11, 9), (12, 10)] [] [] ?_ ?_
  · refine oc (g_ld 2 uN iN) ?_
    refine oc (g_cl ent_limb_Widen (fun uZ => nWiden L uZ hL)) ?_
    refine oc (g_fd (fun uZ => fdC1 _ uZ)) ?_
    refine oc (g_lo 0 4 uN iN) ?_
    refine oc (g_cl ent_limb_Divide (fun uZ => hD.out uZ)) ?_
    refine oc g_mv ?_
    refine oc g_ex ?_
    refine oc g_ex ?_
    refine oc g_ex ?_
    refine oc (g_al 0 aW) ?_
    refine oc (g_al 1 aN) ?_
    refine oc (g_sn 0 iW) ?_
    refine oc (g_sn 1 iN) ?_
    exact oc g_as on
  intro u3 b3_9 b3_10 HB3 sz3 K3
  simp only [fX, nK, nP, Wr.f, aK, pM] at K3
  simp only [setG, setN, List.set_cons_zero, List.set_cons_succ]
  clear K2 HB2
  go_upto_region 4 with fail
  refine rgP K3 HB3 HB3.size [] [(3, 9, L0s, some (4, LN q))] [(0, 32, .slice (some ⟨b3_9, 0, none⟩) 4 8), (1, 33, .pointer (some ⟨b3_9, 0, none⟩)), (2, 34, NV q)] [(4, 3)] [] [true, true, true, false] ?_ ?_
  · refine oc (g_sl (fun uZ => sl_wd _ uZ)) ?_
    refine oc (g_sp (fun uZ => ap_wd _ uZ)) ?_
    refine oc (g_ld 3 uN iN) ?_
    refine oc (g_al 0 aN) ?_
    exact oc (g_sn 0 iN) on
  intro u4 b4_3 HB4 sz4 K4
  simp only [fX, nK, nP, Wr.f, aK, pM] at K4
  simp only [setG, setN, List.set_cons_zero, List.set_cons_succ]
  clear K3 HB3
  go_upto_region 5 with fail
  refine rgP K4 HB4 HB4.size [] [] [(0, 10, (Go.Value.int Go.IntKind.i64 0))] [] [] [] ?_ ?_
  · exact oc g_as on
  intro u5 HB5 sz5 K5
  simp only [fX, nK, nP, Wr.f, aK, pM] at K5
  simp only [setG, setN, List.set_cons_zero, List.set_cons_succ]
  clear K4 HB4
  go_upto_region 6 with fail
  refine rgP K5 HB5 HB5.size [] [] [(0, 36, .int .i64 0), (1, 37, .bool true), (2, 38, .bool true), (3, 39, .pointer (some ⟨w.heap.size, 0, none⟩)), (4, 40, NV n), (5, 41, A4 (0) (0) (0) (0)), (6, 42, .bool true), (7, 43, .bool true), (8, 35, .bool true)] [] [] [] ?_ ?_
  · refine oc g_mv ?_
    refine oc (g_bn (fun uZ => eql_i _ _ _ 0 0 _ uZ rfl)) ?_
    refine oc g_mv ?_
    refine oc (g_fd (fun uZ => fdC0 _ uZ)) ?_
    refine oc (g_lo 0 0 uN iN) ?_
    refine oc (g_bd zN) ?_
    refine oc (g_bn (fun uZ => neq_0 _ _ hn _ h0 uZ)) ?_
    refine oc g_pk ?_
    exact oc g_as on
  intro u6 HB6 sz6 K6
  simp only [fX, nK, nP, Wr.f, aK, pM] at K6
  simp only [setG, setN, List.set_cons_zero, List.set_cons_succ]
  clear K5 HB5
  go_upto_region 8 with fail
  refine rgP K6 HB6 HB6.size [] [(9, 11, L0s, some (10, LN P1))] [(0, 48, .pointer (some ⟨w.heap.size, 8, none⟩)), (1, 49, NV a), (2, 50, NV L), (3, 51, .pointer (some ⟨w.heap.size, 0, none⟩)), (4, 52, NV n), (5, 53, .tuple #[NV P1, .int .i64 0]), (6, 47, .tuple #[NV P1, .int .i64 0]), (7, 54, NV P1), (8, 55, .int .i64 0), (11, 12, .int .i64 0)] [(10, 9)] [] [true, true, false] ?_ ?_
  · refine oc (g_fd (fun uZ => fdC2 _ uZ)) ?_
    refine oc (g_lo 0 8 uN iN) ?_
    refine oc (g_ld 2 uN iN) ?_
    refine oc (g_fd (fun uZ => fdC0 _ uZ)) ?_
    refine oc (g_lo 0 0 uN iN) ?_
    refine oc (g_cl ent_mod_Exp (fun uZ => hX.out uZ)) ?_
    refine oc g_mv ?_
    refine oc g_ex ?_
    refine oc g_ex ?_
    refine oc (g_al 0 aN) ?_
    refine oc (g_sn 0 iN) ?_
    exact oc g_as on
  intro u7 b7_9 HB7 sz7 K7
  simp only [fX, nK, nP, Wr.f, aK, pM] at K7
  simp only [setG, setN, List.set_cons_zero, List.set_cons_succ]
  clear K6 HB6
  go_upto_region 9 with fail
  refine rgP K7 HB7 HB7.size [] [(9, 13, L0s, some (10, LN P2))] [(0, 57, .pointer (some ⟨w.heap.size, 8, none⟩)), (1, 58, NV a), (2, 59, NV q), (3, 60, .pointer (some ⟨w.heap.size, 0, none⟩)), (4, 61, NV n), (5, 62, .tuple #[NV P2, .int .i64 0]), (6, 56, .tuple #[NV P2, .int .i64 0]), (7, 63, NV P2), (8, 64, .int .i64 0), (11, 14, .int .i64 0)] [(10, 9)] [] [] ?_ ?_
  · refine oc (g_fd (fun uZ => fdC2 _ uZ)) ?_
    refine oc (g_lo 0 8 uN iN) ?_
    refine oc (g_ld 3 uN iN) ?_
    refine oc (g_fd (fun uZ => fdC0 _ uZ)) ?_
    refine oc (g_lo 0 0 uN iN) ?_
    refine oc (g_cl ent_mod_Exp (fun uZ => hY.out uZ)) ?_
    refine oc g_mv ?_
    refine oc g_ex ?_
    refine oc g_ex ?_
    refine oc (g_al 0 aN) ?_
    refine oc (g_sn 0 iN) ?_
    exact oc g_as on
  intro u8 b8_9 HB8 sz8 K8
  simp only [fX, nK, nP, Wr.f, aK, pM] at K8
  simp only [setG, setN, List.set_cons_zero, List.set_cons_succ]
  clear K7 HB7
  go_upto_region 10 with fail
  refine rgP K8 HB8 HB8.size [.no, .no, .no, .no, .no, .all 8 (LN S)] [] [(0, 66, NV P2), (1, 67, NV 1), (2, 68, .pointer (some ⟨w.heap.size, 0, none⟩)), (3, 69, NV n), (4, 70, .tuple #[NV S, .int .i64 0]), (5, 65, .tuple #[NV S, .int .i64 0]), (6, 71, NV S), (7, 72, .int .i64 0)] [(8, 0)] [] [] ?_ ?_
  · refine oc (g_ld 5 uN iN) ?_
    refine oc (g_ld 1 uN iN) ?_
    refine oc (g_fd (fun uZ => fdC0 _ uZ)) ?_
    refine oc (g_lo 0 0 uN iN) ?_
    refine oc (g_cl ent_mod_Sub (fun uZ => hZ.out uZ)) ?_
    refine oc g_mv ?_
    refine oc g_ex ?_
    refine oc g_ex ?_
    exact oc (g_st 5 iN) on
  intro u9 HB9 sz9 K9
  simp only [fX, nK, nP, Wr.f, aK, pM] at K9
  simp only [setG, setN, List.set_cons_zero, List.set_cons_succ]
  clear K8 HB8
  go_upto_region 11 with fail
  refine rgE K9 HB9 HB9.size [] [] [(0, 73, (Go.Value.int Go.IntKind.i64 0)), (1, 74, NV P1), (2, 75, NV 1), (3, 76, .bool b1), (4, 77, NV S), (5, 78, .pointer (some ⟨w.heap.size, 0, none⟩)), (6, 79, NV n), (7, 80, NV G), (8, 81, NV 1), (9, 82, .bool b2), (11, 84, .int .i64 ((ucn [b1, b2] 2 : Nat) : Int)), (12, 85, .int .i64 ((ucn [b1, b2] 2 : Nat) : Int)), (13, 10, .int .i64 ((ucn [b1, b2] 2 : Nat) : Int))] [(13, 0)] [(13, 10)] [⟨10, 83, some 11, PBo [b1, b2]⟩] [true, false, true, true, false, false] (.cons (fun _ _ _ h1 h2 => h2.stab h1) <| Stab.nil) ?_ ?_
  · refine oc g_mv ?_
    refine oc (g_ld 4 uN iN) ?_
    refine oc (g_ld 1 uN iN) ?_
    refine oc (g_bn (fun uZ => eql_n _ _ iP1 In_1 b1 e1 uZ)) ?_
    refine oc (g_ld 5 uN iN) ?_
    refine oc (g_fd (fun uZ => fdC0 _ uZ)) ?_
    refine oc (g_lo 0 0 uN iN) ?_
    refine oc (g_cl ent_mod_Gcd (fun uZ => hG.out uZ)) ?_
    refine oc (g_ld 1 uN iN) ?_
    refine oc (g_bn (fun uZ => eql_n _ _ iG In_1 b2 e2 uZ)) ?_
    refine oc (g_bS 0 (PBo [b1, b2]) [0, 1] [.bool b1, .bool b2] (bsl2 b1 b2) (PBo.new [b1, b2] 4 2 rfl)) ?_
    refine oc (g_c1 0 (PBo [b1, b2]) ent_cert_unmet (fun uZ yZ _ hZ => cUnmetP [b1, b2] uZ yZ (by simp) hZ)) ?_
    refine oc (g_bn (fun uZ => add_i _ _ 0 ((ucn [b1, b2] 2 : Nat) : Int) ((ucn [b1, b2] 2 : Nat) : Int) uZ (by omega) (by omega) (by omega))) ?_
    exact oc g_as on
  intro u10 v10_10 hv10_10 HB10 sz10 K10
  simp only [fX, nK, nP, Wr.f, aK, pM] at K10
  simp only [setG, setN, setE, List.set_cons_zero, List.set_cons_succ]
  clear K9 HB9
  go_upto_region 12 with fail
  refine rgE K10 HB10 HB10.size [] [] [(0, 86, .int .i64 ((ucn [b1, b2] 2 : Nat) : Int)), (1, 87, NV r), (2, 88, A4 (0) (0) (0) (0)), (3, 89, .bool b3), (4, 90, .pointer (some ⟨w.heap.size, 4, none⟩)), (5, 91, NV f), (6, 92, NV q), (7, 93, .int .i64 (cmpI f q)), (8, 94, .bool b4), (10, 96, .int .i64 ((ucn [b3, b4] 2 : Nat) : Int)), (11, 97, .int .i64 (((ucn [b1, b2] 2 : Nat) : Int) + ((ucn [b3, b4] 2 : Nat) : Int))), (12, 10, .int .i64 (((ucn [b1, b2] 2 : Nat) : Int) + ((ucn [b3, b4] 2 : Nat) : Int)))] [(12, 0)] [(12, 10)] [⟨9, 95, some 10, PBo [b3, b4]⟩] [true, false, false] (.cons (fun _ _ _ h1 h2 => h2.stab h1) <| Stab.nil) ?_ ?_
  · refine oc g_mv ?_
    refine oc (g_ld 1 uN iN) ?_
    refine oc (g_bd zN) ?_
    refine oc (g_bn (fun uZ => eql_0 _ _ ir b3 e3 uZ)) ?_
    refine oc (g_fd (fun uZ => fdC1 _ uZ)) ?_
    refine oc (g_lo 0 4 uN iN) ?_
    refine oc (g_ld 2 uN iN) ?_
    refine oc (g_cl ent_limb_Compare (fun uZ => nCompare f q uZ hf iq)) ?_
    refine oc (g_bn (fun uZ => gtr_i _ _ (cmpI f q) 0 b4 uZ e4)) ?_
    refine oc (g_bS 0 (PBo [b3, b4]) [0, 1] [.bool b3, .bool b4] (bsl2 b3 b4) (PBo.new [b3, b4] 4 2 rfl)) ?_
    refine oc (g_c1 0 (PBo [b3, b4]) ent_cert_unmet (fun uZ yZ _ hZ => cUnmetP [b3, b4] uZ yZ (by simp) hZ)) ?_
    refine oc (g_bn (fun uZ => add_i _ _ ((ucn [b1, b2] 2 : Nat) : Int) ((ucn [b3, b4] 2 : Nat) : Int) (((ucn [b1, b2] 2 : Nat) : Int) + ((ucn [b3, b4] 2 : Nat) : Int)) uZ (by omega) (by omega) (by omega))) ?_
    exact oc g_as on
  intro u11 v11_9 hv11_9 HB11 sz11 K11
  simp only [fX, nK, nP, Wr.f, aK, pM] at K11
  simp only [setG, setN, setE, List.set_cons_zero, List.set_cons_succ]
  clear K10 HB10
  go_upto_region 13 with fail
  refine rgE K11 HB11 HB11.size [] [] [(0, 98, .int .i64 (((ucn [b1, b2] 2 : Nat) : Int) + ((ucn [b3, b4] 2 : Nat) : Int))), (1, 99, .pointer (some ⟨w.heap.size, 0, none⟩)), (2, 100, NV n), (3, 101, .bool b5), (4, 102, .pointer (some ⟨w.heap.size, 0, none⟩)), (5, 103, NV n), (6, 104, NV 3), (7, 105, .int .i64 (cmpI n 3)), (8, 106, .bool b6), (9, 107, .pointer (some ⟨w.heap.size, 4, none⟩)), (10, 108, NV f), (11, 109, NV 2), (12, 110, .int .i64 (cmpI f 2)), (13, 111, .bool b7), (15, 113, .int .i64 ((ucn [b5, b6, b7] 3 : Nat) : Int)), (16, 114, .int .i64 ((((ucn [b1, b2] 2 : Nat) : Int) + ((ucn [b3, b4] 2 : Nat) : Int)) + ((ucn [b5, b6, b7] 3 : Nat) : Int))), (17, 10, .int .i64 ((((ucn [b1, b2] 2 : Nat) : Int) + ((ucn [b3, b4] 2 : Nat) : Int)) + ((ucn [b5, b6, b7] 3 : Nat) : Int)))] [(17, 0)] [(17, 10)] [⟨14, 112, some 15, PBo [b5, b6, b7]⟩] [false] (.cons (fun _ _ _ h1 h2 => h2.stab h1) <| Stab.nil) ?_ ?_
  · refine oc g_mv ?_
    refine oc (g_fd (fun uZ => fdC0 _ uZ)) ?_
    refine oc (g_lo 0 0 uN iN) ?_
    refine oc (g_cl ent_limb_Bit (fun uZ => hb5.out uZ)) ?_
    refine oc (g_fd (fun uZ => fdC0 _ uZ)) ?_
    refine oc (g_lo 0 0 uN iN) ?_
    refine oc (g_cl ent_limb_Of (fun uZ => nOf 3 uZ (by omega) (by omega))) ?_
    refine oc (g_cl ent_limb_Compare (fun uZ => nCompare n 3 uZ hn In_3)) ?_
    refine oc (g_bn (fun uZ => geq_i _ _ (cmpI n 3) 0 b6 uZ e6)) ?_
    refine oc (g_fd (fun uZ => fdC1 _ uZ)) ?_
    refine oc (g_lo 0 4 uN iN) ?_
    refine oc (g_cl ent_limb_Of (fun uZ => nOf 2 uZ (by omega) (by omega))) ?_
    refine oc (g_cl ent_limb_Compare (fun uZ => nCompare f 2 uZ hf In_2)) ?_
    refine oc (g_bn (fun uZ => geq_i _ _ (cmpI f 2) 0 b7 uZ e7)) ?_
    refine oc (g_bS 0 (PBo [b5, b6, b7]) [0, 1, 2] [.bool b5, .bool b6, .bool b7] (bsl3 b5 b6 b7) (PBo.new [b5, b6, b7] 4 3 rfl)) ?_
    refine oc (g_c1 0 (PBo [b5, b6, b7]) ent_cert_unmet (fun uZ yZ _ hZ => cUnmetP [b5, b6, b7] uZ yZ (by simp) hZ)) ?_
    refine oc (g_bn (fun uZ => add_i _ _ (((ucn [b1, b2] 2 : Nat) : Int) + ((ucn [b3, b4] 2 : Nat) : Int)) ((ucn [b5, b6, b7] 3 : Nat) : Int) ((((ucn [b1, b2] 2 : Nat) : Int) + ((ucn [b3, b4] 2 : Nat) : Int)) + ((ucn [b5, b6, b7] 3 : Nat) : Int)) uZ (by omega) (by omega) (by omega))) ?_
    exact oc g_as on
  intro u12 v12_14 hv12_14 HB12 sz12 K12
  simp only [fX, nK, nP, Wr.f, aK, pM] at K12
  simp only [setG, setN, setE, List.set_cons_zero, List.set_cons_succ]
  clear K11 HB11
  go_upto_region 14 with fail
  refine rgP K12 HB12 HB12.size [] [] [(0, 115, .int .i64 ((((ucn [b1, b2] 2 : Nat) : Int) + ((ucn [b3, b4] 2 : Nat) : Int)) + ((ucn [b5, b6, b7] 3 : Nat) : Int))), (1, 2, .int .i64 ((((ucn [b1, b2] 2 : Nat) : Int) + ((ucn [b3, b4] 2 : Nat) : Int)) + ((ucn [b5, b6, b7] 3 : Nat) : Int)))] [] [] [] ?_ ?_
  · refine oc g_mv ?_
    exact oc g_as on
  intro u13 HB13 sz13 K13
  simp only [fX, nK, nP, Wr.f, aK, pM] at K13
  simp only [setG, setN, List.set_cons_zero, List.set_cons_succ]
  clear K12 HB12
  go_wp2
  refine bodyPost_ret (v := .int .i64 ((((ucn [b1, b2] 2 : Nat) : Int) + ((ucn [b3, b4] 2 : Nat) : Int)) + ((ucn [b5, b6, b7] 3 : Nat) : Int))) (by simp [results, Try.results32, go_sem, ]) rfl ⟨rfl, HB13⟩
set_option maxRecDepth 100000 in
set_option maxHeartbeats 4000000 in
theorem clacks_nopow (n f a L q r : Int) (b1 b2 b3 b4 b5 b6 b7 bo : Bool) (w : World) (hn : In n) (hL : In L) (hf : In f) (iq : In q) (ir : In r) (h0 : decide (n = 0) = !false) (hS : Hid (∀ u, Calls Try.prog 45 #[NV n, NV 1] u fun en u' => en = .returned (.tuple #[NV L, .bool bo]) ∧ Below u.heap.size u u'))
    (hD : Hid (∀ u, Calls Try.prog 46 #[WV L, NV f] u fun en u' => en = .returned (.tuple #[WV q, NV r, .int .i64 0]) ∧ Below u.heap.size u u')) (hb5 : Hid (∀ u, Calls Try.prog 52 #[NV n, .int .i64 0] u fun en u' => en = .returned (.bool b5) ∧ Below u.heap.size u u')) (e6 : decide (0 ≤ cmpI n 3) = b6) (e7 : decide (0 ≤ cmpI f 2) = b7) (e3 : decide (r = 0) = b3) (e4 : decide (0 < cmpI f q) = b4) :
    Calls Try.prog 32 #[CX n f a] w fun e w' => e = .returned (.int .i64 (((ucn [b3, b4] 2 : Nat) : Int) + ((ucn [b5, b6, b7] 3 : Nat) : Int))) ∧ Below w.heap.size w w' := by
  go_enter Try.func32, Try.ntmps32
  go_upto_region 1 with fail
  generalize hC : (w.alloc (.cells (CE (n) (f) (a) : List Value).toArray 26)) = v0 at *
  have HB0 : Below w.heap.size w v0 := by rw [← hC]; exact balloc (bself w) _
  have K0 : Bk w.heap.size v0 [(true, w.heap.size, CE (n) (f) (a))] := by rw [← hC]; exact (Bk.nil _ w).ad
  clear hC
  have hu2 := ucn_le [b1, b2] 2
  have hu4 := ucn_le [b3, b4] 2
  have hu7 := ucn_le [b5, b6, b7] 3
  refine rgP K0 HB0 HB0.size [] [(1, 3, L0s, some (2, LN 1))] [(0, 15, NV 1)] [(2, 1)] [] [] ?_ ?_
  · refine oc (g_cl ent_limb_Of (fun uZ => nOf 1 uZ (by omega) (by omega))) ?_
    refine oc (g_al 0 aN) ?_
    exact oc (g_sn 0 iN) on
  intro u1 b1_1 HB1 sz1 K1
  simp only [fX, nK, nP, Wr.f, aK, pM] at K1
  simp only [setG, setN, List.set_cons_zero, List.set_cons_succ]
  clear K0 HB0
  go_upto_region 2 with fail
  refine rgP K1 HB1 HB1.size [] [(7, 4, L0s, some (8, LN L))] [(0, 17, .pointer (some ⟨w.heap.size, 0, none⟩)), (1, 18, NV n), (2, 19, NV 1), (3, 20, .tuple #[NV L, .bool bo]), (4, 16, .tuple #[NV L, .bool bo]), (5, 21, NV L), (6, 22, .bool bo), (9, 5, .bool bo)] [(8, 7)] [] [true, false] ?_ ?_
  · refine oc (g_fd (fun uZ => fdC0 _ uZ)) ?_
    refine oc (g_lo 0 0 uN iN) ?_
    refine oc (g_ld 1 uN iN) ?_
    refine oc (g_cl ent_limb_Sub (fun uZ => hS.out uZ)) ?_
    refine oc g_mv ?_
    refine oc g_ex ?_
    refine oc g_ex ?_
    refine oc (g_al 0 aN) ?_
    refine oc (g_sn 0 iN) ?_
    exact oc g_as on
  intro u2 b2_7 HB2 sz2 K2
  simp only [fX, nK, nP, Wr.f, aK, pM] at K2
  simp only [setG, setN, List.set_cons_zero, List.set_cons_succ]
  clear K1 HB1
  go_upto_region 3 with fail
  refine rgD K2 HB2 HB2.size [] [(9, 6, L0w, some (11, LW q)), (10, 7, L0s, some (12, LN r))] [(0, 24, NV L), (1, 25, WV L), (2, 26, .pointer (some ⟨w.heap.size, 4, none⟩)), (3, 27, NV f), (4, 28, .tuple #[WV q, NV r, .int .i64 0]), (5, 23, .tuple #[WV q, NV r, .int .i64 0]), (6, 29, WV q), (7, 30, NV r), (8, 31, .int .i64 0), (13, 8, .int .i64 0)] [(11, 9), (12, 10)] [] [true, false] ?_ ?_
  · refine oc (g_ld 1 uN iN) ?_
    refine oc (g_cl ent_limb_Widen (fun uZ => nWiden L uZ hL)) ?_
    refine oc (g_fd (fun uZ => fdC1 _ uZ)) ?_
    refine oc (g_lo 0 4 uN iN) ?_
    refine oc (g_cl ent_limb_Divide (fun uZ => hD.out uZ)) ?_
    refine oc g_mv ?_
    refine oc g_ex ?_
    refine oc g_ex ?_
    refine oc g_ex ?_
    refine oc (g_al 0 aW) ?_
    refine oc (g_al 1 aN) ?_
    refine oc (g_sn 0 iW) ?_
    refine oc (g_sn 1 iN) ?_
    exact oc g_as on
  intro u3 b3_9 b3_10 HB3 sz3 K3
  simp only [fX, nK, nP, Wr.f, aK, pM] at K3
  simp only [setG, setN, List.set_cons_zero, List.set_cons_succ]
  clear K2 HB2
  go_upto_region 4 with fail
  refine rgP K3 HB3 HB3.size [] [(3, 9, L0s, some (4, LN q))] [(0, 32, .slice (some ⟨b3_9, 0, none⟩) 4 8), (1, 33, .pointer (some ⟨b3_9, 0, none⟩)), (2, 34, NV q)] [(4, 3)] [] [true, false] ?_ ?_
  · refine oc (g_sl (fun uZ => sl_wd _ uZ)) ?_
    refine oc (g_sp (fun uZ => ap_wd _ uZ)) ?_
    refine oc (g_ld 1 uN iN) ?_
    refine oc (g_al 0 aN) ?_
    exact oc (g_sn 0 iN) on
  intro u4 b4_3 HB4 sz4 K4
  simp only [fX, nK, nP, Wr.f, aK, pM] at K4
  simp only [setG, setN, List.set_cons_zero, List.set_cons_succ]
  clear K3 HB3
  go_upto_region 5 with fail
  refine rgP K4 HB4 HB4.size [] [] [(0, 10, (Go.Value.int Go.IntKind.i64 0))] [] [] [] ?_ ?_
  · exact oc g_as on
  intro u5 HB5 sz5 K5
  simp only [fX, nK, nP, Wr.f, aK, pM] at K5
  simp only [setG, setN, List.set_cons_zero, List.set_cons_succ]
  clear K4 HB4
  go_upto_region 6 with fail
  refine rgP K5 HB5 HB5.size [] [] [(0, 36, .int .i64 0), (1, 37, .bool true), (2, 38, .bool true), (3, 39, .pointer (some ⟨w.heap.size, 0, none⟩)), (4, 40, NV n), (5, 41, A4 (0) (0) (0) (0)), (6, 42, .bool false), (7, 43, .bool false), (8, 35, .bool false)] [] [] [] ?_ ?_
  · refine oc g_mv ?_
    refine oc (g_bn (fun uZ => eql_i _ _ _ 0 0 _ uZ rfl)) ?_
    refine oc g_mv ?_
    refine oc (g_fd (fun uZ => fdC0 _ uZ)) ?_
    refine oc (g_lo 0 0 uN iN) ?_
    refine oc (g_bd zN) ?_
    refine oc (g_bn (fun uZ => neq_0 _ _ hn _ h0 uZ)) ?_
    refine oc g_pk ?_
    exact oc g_as on
  intro u6 HB6 sz6 K6
  simp only [fX, nK, nP, Wr.f, aK, pM] at K6
  simp only [setG, setN, List.set_cons_zero, List.set_cons_succ]
  clear K5 HB5
  go_upto_region 7 with fail
  refine rgP K6 HB6 HB6.size [] [] [(0, 45, .int .i64 0), (1, 46, .bool true), (2, 44, .bool true)] [] [] [] ?_ ?_
  · refine oc g_mv ?_
    refine oc (g_bn (fun uZ => eql_i _ _ _ 0 0 _ uZ rfl)) ?_
    exact oc g_as on
  intro u7 HB7 sz7 K7
  simp only [fX, nK, nP, Wr.f, aK, pM] at K7
  simp only [setG, setN, List.set_cons_zero, List.set_cons_succ]
  clear K6 HB6
  go_upto_region 12 with fail
  refine rgE K7 HB7 HB7.size [] [] [(0, 86, (Go.Value.int Go.IntKind.i64 0)), (1, 87, NV r), (2, 88, A4 (0) (0) (0) (0)), (3, 89, .bool b3), (4, 90, .pointer (some ⟨w.heap.size, 4, none⟩)), (5, 91, NV f), (6, 92, NV q), (7, 93, .int .i64 (cmpI f q)), (8, 94, .bool b4), (10, 96, .int .i64 ((ucn [b3, b4] 2 : Nat) : Int)), (11, 97, .int .i64 ((ucn [b3, b4] 2 : Nat) : Int)), (12, 10, .int .i64 ((ucn [b3, b4] 2 : Nat) : Int))] [(12, 0)] [(12, 10)] [⟨9, 95, some 10, PBo [b3, b4]⟩] [true, false, false] (.cons (fun _ _ _ h1 h2 => h2.stab h1) <| Stab.nil) ?_ ?_
  · refine oc g_mv ?_
    refine oc (g_ld 1 uN iN) ?_
    refine oc (g_bd zN) ?_
    refine oc (g_bn (fun uZ => eql_0 _ _ ir b3 e3 uZ)) ?_
    refine oc (g_fd (fun uZ => fdC1 _ uZ)) ?_
    refine oc (g_lo 0 4 uN iN) ?_
    refine oc (g_ld 2 uN iN) ?_
    refine oc (g_cl ent_limb_Compare (fun uZ => nCompare f q uZ hf iq)) ?_
    refine oc (g_bn (fun uZ => gtr_i _ _ (cmpI f q) 0 b4 uZ e4)) ?_
    refine oc (g_bS 0 (PBo [b3, b4]) [0, 1] [.bool b3, .bool b4] (bsl2 b3 b4) (PBo.new [b3, b4] 4 2 rfl)) ?_
    refine oc (g_c1 0 (PBo [b3, b4]) ent_cert_unmet (fun uZ yZ _ hZ => cUnmetP [b3, b4] uZ yZ (by simp) hZ)) ?_
    refine oc (g_bn (fun uZ => add_i _ _ 0 ((ucn [b3, b4] 2 : Nat) : Int) ((ucn [b3, b4] 2 : Nat) : Int) uZ (by omega) (by omega) (by omega))) ?_
    exact oc g_as on
  intro u8 v8_9 hv8_9 HB8 sz8 K8
  simp only [fX, nK, nP, Wr.f, aK, pM] at K8
  simp only [setG, setN, setE, List.set_cons_zero, List.set_cons_succ]
  clear K7 HB7
  go_upto_region 13 with fail
  refine rgE K8 HB8 HB8.size [] [] [(0, 98, .int .i64 ((ucn [b3, b4] 2 : Nat) : Int)), (1, 99, .pointer (some ⟨w.heap.size, 0, none⟩)), (2, 100, NV n), (3, 101, .bool b5), (4, 102, .pointer (some ⟨w.heap.size, 0, none⟩)), (5, 103, NV n), (6, 104, NV 3), (7, 105, .int .i64 (cmpI n 3)), (8, 106, .bool b6), (9, 107, .pointer (some ⟨w.heap.size, 4, none⟩)), (10, 108, NV f), (11, 109, NV 2), (12, 110, .int .i64 (cmpI f 2)), (13, 111, .bool b7), (15, 113, .int .i64 ((ucn [b5, b6, b7] 3 : Nat) : Int)), (16, 114, .int .i64 (((ucn [b3, b4] 2 : Nat) : Int) + ((ucn [b5, b6, b7] 3 : Nat) : Int))), (17, 10, .int .i64 (((ucn [b3, b4] 2 : Nat) : Int) + ((ucn [b5, b6, b7] 3 : Nat) : Int)))] [(17, 0)] [(17, 10)] [⟨14, 112, some 15, PBo [b5, b6, b7]⟩] [false] (.cons (fun _ _ _ h1 h2 => h2.stab h1) <| Stab.nil) ?_ ?_
  · refine oc g_mv ?_
    refine oc (g_fd (fun uZ => fdC0 _ uZ)) ?_
    refine oc (g_lo 0 0 uN iN) ?_
    refine oc (g_cl ent_limb_Bit (fun uZ => hb5.out uZ)) ?_
    refine oc (g_fd (fun uZ => fdC0 _ uZ)) ?_
    refine oc (g_lo 0 0 uN iN) ?_
    refine oc (g_cl ent_limb_Of (fun uZ => nOf 3 uZ (by omega) (by omega))) ?_
    refine oc (g_cl ent_limb_Compare (fun uZ => nCompare n 3 uZ hn In_3)) ?_
    refine oc (g_bn (fun uZ => geq_i _ _ (cmpI n 3) 0 b6 uZ e6)) ?_
    refine oc (g_fd (fun uZ => fdC1 _ uZ)) ?_
    refine oc (g_lo 0 4 uN iN) ?_
    refine oc (g_cl ent_limb_Of (fun uZ => nOf 2 uZ (by omega) (by omega))) ?_
    refine oc (g_cl ent_limb_Compare (fun uZ => nCompare f 2 uZ hf In_2)) ?_
    refine oc (g_bn (fun uZ => geq_i _ _ (cmpI f 2) 0 b7 uZ e7)) ?_
    refine oc (g_bS 0 (PBo [b5, b6, b7]) [0, 1, 2] [.bool b5, .bool b6, .bool b7] (bsl3 b5 b6 b7) (PBo.new [b5, b6, b7] 4 3 rfl)) ?_
    refine oc (g_c1 0 (PBo [b5, b6, b7]) ent_cert_unmet (fun uZ yZ _ hZ => cUnmetP [b5, b6, b7] uZ yZ (by simp) hZ)) ?_
    refine oc (g_bn (fun uZ => add_i _ _ ((ucn [b3, b4] 2 : Nat) : Int) ((ucn [b5, b6, b7] 3 : Nat) : Int) (((ucn [b3, b4] 2 : Nat) : Int) + ((ucn [b5, b6, b7] 3 : Nat) : Int)) uZ (by omega) (by omega) (by omega))) ?_
    exact oc g_as on
  intro u9 v9_14 hv9_14 HB9 sz9 K9
  simp only [fX, nK, nP, Wr.f, aK, pM] at K9
  simp only [setG, setN, setE, List.set_cons_zero, List.set_cons_succ]
  clear K8 HB8
  go_upto_region 14 with fail
  refine rgP K9 HB9 HB9.size [] [] [(0, 115, .int .i64 (((ucn [b3, b4] 2 : Nat) : Int) + ((ucn [b5, b6, b7] 3 : Nat) : Int))), (1, 2, .int .i64 (((ucn [b3, b4] 2 : Nat) : Int) + ((ucn [b5, b6, b7] 3 : Nat) : Int)))] [] [] [] ?_ ?_
  · refine oc g_mv ?_
    exact oc g_as on
  intro u10 HB10 sz10 K10
  simp only [fX, nK, nP, Wr.f, aK, pM] at K10
  simp only [setG, setN, List.set_cons_zero, List.set_cons_succ]
  clear K9 HB9
  go_wp2
  refine bodyPost_ret (v := .int .i64 (((ucn [b3, b4] 2 : Nat) : Int) + ((ucn [b5, b6, b7] 3 : Nat) : Int))) (by simp [results, Try.results32, go_sem, ]) rfl ⟨rfl, HB10⟩
set_option maxRecDepth 100000 in
set_option maxHeartbeats 4000000 in
theorem clacks_none (n a L : Int) (b1 b2 b3 b4 b5 b6 b7 bo : Bool) (w : World) (hn : In n) (hL : In L) (hf : In 0) (hS : Hid (∀ u, Calls Try.prog 45 #[NV n, NV 1] u fun en u' => en = .returned (.tuple #[NV L, .bool bo]) ∧ Below u.heap.size u u'))
    (hD : Hid (∀ u, Calls Try.prog 46 #[WV L, NV 0] u fun en u' => en = .returned (.tuple #[WV 0, NV 0, .int .i64 10]) ∧ Below u.heap.size u u')) (hb5 : Hid (∀ u, Calls Try.prog 52 #[NV n, .int .i64 0] u fun en u' => en = .returned (.bool b5) ∧ Below u.heap.size u u')) (e6 : decide (0 ≤ cmpI n 3) = b6) (e7 : decide (0 ≤ cmpI 0 2) = b7) :
    Calls Try.prog 32 #[CX n 0 a] w fun e w' => e = .returned (.int .i64 ((ucn [b5, b6, b7] 3 : Nat) : Int)) ∧ Below w.heap.size w w' := by
  go_enter Try.func32, Try.ntmps32
  go_upto_region 1 with fail
  generalize hC : (w.alloc (.cells (CE (n) (0) (a) : List Value).toArray 26)) = v0 at *
  have HB0 : Below w.heap.size w v0 := by rw [← hC]; exact balloc (bself w) _
  have K0 : Bk w.heap.size v0 [(true, w.heap.size, CE (n) (0) (a))] := by rw [← hC]; exact (Bk.nil _ w).ad
  clear hC
  have hu2 := ucn_le [b1, b2] 2
  have hu4 := ucn_le [b3, b4] 2
  have hu7 := ucn_le [b5, b6, b7] 3
  refine rgP K0 HB0 HB0.size [] [(1, 3, L0s, some (2, LN 1))] [(0, 15, NV 1)] [(2, 1)] [] [] ?_ ?_
  · refine oc (g_cl ent_limb_Of (fun uZ => nOf 1 uZ (by omega) (by omega))) ?_
    refine oc (g_al 0 aN) ?_
    exact oc (g_sn 0 iN) on
  intro u1 b1_1 HB1 sz1 K1
  simp only [fX, nK, nP, Wr.f, aK, pM] at K1
  simp only [setG, setN, List.set_cons_zero, List.set_cons_succ]
  clear K0 HB0
  go_upto_region 2 with fail
  refine rgP K1 HB1 HB1.size [] [(7, 4, L0s, some (8, LN L))] [(0, 17, .pointer (some ⟨w.heap.size, 0, none⟩)), (1, 18, NV n), (2, 19, NV 1), (3, 20, .tuple #[NV L, .bool bo]), (4, 16, .tuple #[NV L, .bool bo]), (5, 21, NV L), (6, 22, .bool bo), (9, 5, .bool bo)] [(8, 7)] [] [true, false] ?_ ?_
  · refine oc (g_fd (fun uZ => fdC0 _ uZ)) ?_
    refine oc (g_lo 0 0 uN iN) ?_
    refine oc (g_ld 1 uN iN) ?_
    refine oc (g_cl ent_limb_Sub (fun uZ => hS.out uZ)) ?_
    refine oc g_mv ?_
    refine oc g_ex ?_
    refine oc g_ex ?_
    refine oc (g_al 0 aN) ?_
    refine oc (g_sn 0 iN) ?_
    exact oc g_as on
  intro u2 b2_7 HB2 sz2 K2
  simp only [fX, nK, nP, Wr.f, aK, pM] at K2
  simp only [setG, setN, List.set_cons_zero, List.set_cons_succ]
  clear K1 HB1
  go_upto_region 3 with fail
  refine rgD K2 HB2 HB2.size [] [(9, 6, L0w, some (11, LW 0)), (10, 7, L0s, some (12, LN 0))] [(0, 24, NV L), (1, 25, WV L), (2, 26, .pointer (some ⟨w.heap.size, 4, none⟩)), (3, 27, NV 0), (4, 28, .tuple #[WV 0, NV 0, .int .i64 10]), (5, 23, .tuple #[WV 0, NV 0, .int .i64 10]), (6, 29, WV 0), (7, 30, NV 0), (8, 31, .int .i64 10), (13, 8, .int .i64 10)] [(11, 9), (12, 10)] [] [true, false, true, false] ?_ ?_
  · refine oc (g_ld 1 uN iN) ?_
    refine oc (g_cl ent_limb_Widen (fun uZ => nWiden L uZ hL)) ?_
    refine oc (g_fd (fun uZ => fdC1 _ uZ)) ?_
    refine oc (g_lo 0 4 uN iN) ?_
    refine oc (g_cl ent_limb_Divide (fun uZ => hD.out uZ)) ?_
    refine oc g_mv ?_
    refine oc g_ex ?_
    refine oc g_ex ?_
    refine oc g_ex ?_
    refine oc (g_al 0 aW) ?_
    refine oc (g_al 1 aN) ?_
    refine oc (g_sn 0 iW) ?_
    refine oc (g_sn 1 iN) ?_
    exact oc g_as on
  intro u3 b3_9 b3_10 HB3 sz3 K3
  simp only [fX, nK, nP, Wr.f, aK, pM] at K3
  simp only [setG, setN, List.set_cons_zero, List.set_cons_succ]
  clear K2 HB2
  go_upto_region 4 with fail
  refine rgP K3 HB3 HB3.size [] [(3, 9, L0s, some (4, LN 0))] [(0, 32, .slice (some ⟨b3_9, 0, none⟩) 4 8), (1, 33, .pointer (some ⟨b3_9, 0, none⟩)), (2, 34, NV 0)] [(4, 3)] [] [true, false, false] ?_ ?_
  · refine oc (g_sl (fun uZ => sl_wd _ uZ)) ?_
    refine oc (g_sp (fun uZ => ap_wd _ uZ)) ?_
    refine oc (g_ld 1 uN iN) ?_
    refine oc (g_al 0 aN) ?_
    exact oc (g_sn 0 iN) on
  intro u4 b4_3 HB4 sz4 K4
  simp only [fX, nK, nP, Wr.f, aK, pM] at K4
  simp only [setG, setN, List.set_cons_zero, List.set_cons_succ]
  clear K3 HB3
  go_upto_region 5 with fail
  refine rgP K4 HB4 HB4.size [] [] [(0, 10, (Go.Value.int Go.IntKind.i64 0))] [] [] [] ?_ ?_
  · exact oc g_as on
  intro u5 HB5 sz5 K5
  simp only [fX, nK, nP, Wr.f, aK, pM] at K5
  simp only [setG, setN, List.set_cons_zero, List.set_cons_succ]
  clear K4 HB4
  go_upto_region 6 with fail
  refine rgP K5 HB5 HB5.size [] [] [(0, 36, .int .i64 10), (1, 37, .bool false), (2, 38, .bool false), (3, 39, undef), (4, 40, undef), (5, 41, undef), (6, 42, undef), (7, 43, (Go.Value.bool Bool.false)), (8, 35, (Go.Value.bool Bool.false))] [] [] [] ?_ ?_
  · refine oc g_mv ?_
    refine oc (g_bn (fun uZ => eql_i _ _ _ 10 0 _ uZ rfl)) ?_
    refine oc g_mv ?_
    refine oc g_sk ?_
    refine oc g_sk ?_
    refine oc g_sk ?_
    refine oc g_sk ?_
    refine oc g_pk ?_
    exact oc g_as on
  intro u6 HB6 sz6 K6
  simp only [fX, nK, nP, Wr.f, aK, pM] at K6
  simp only [setG, setN, List.set_cons_zero, List.set_cons_succ]
  clear K5 HB5
  go_upto_region 7 with fail
  refine rgP K6 HB6 HB6.size [] [] [(0, 45, .int .i64 10), (1, 46, .bool false), (2, 44, .bool false)] [] [] [] ?_ ?_
  · refine oc g_mv ?_
    refine oc (g_bn (fun uZ => eql_i _ _ _ 10 0 _ uZ rfl)) ?_
    exact oc g_as on
  intro u7 HB7 sz7 K7
  simp only [fX, nK, nP, Wr.f, aK, pM] at K7
  simp only [setG, setN, List.set_cons_zero, List.set_cons_succ]
  clear K6 HB6
  go_upto_region 13 with fail
  refine rgE K7 HB7 HB7.size [] [] [(0, 98, (Go.Value.int Go.IntKind.i64 0)), (1, 99, .pointer (some ⟨w.heap.size, 0, none⟩)), (2, 100, NV n), (3, 101, .bool b5), (4, 102, .pointer (some ⟨w.heap.size, 0, none⟩)), (5, 103, NV n), (6, 104, NV 3), (7, 105, .int .i64 (cmpI n 3)), (8, 106, .bool b6), (9, 107, .pointer (some ⟨w.heap.size, 4, none⟩)), (10, 108, NV 0), (11, 109, NV 2), (12, 110, .int .i64 (cmpI 0 2)), (13, 111, .bool b7), (15, 113, .int .i64 ((ucn [b5, b6, b7] 3 : Nat) : Int)), (16, 114, .int .i64 ((ucn [b5, b6, b7] 3 : Nat) : Int)), (17, 10, .int .i64 ((ucn [b5, b6, b7] 3 : Nat) : Int))] [(17, 0)] [(17, 10)] [⟨14, 112, some 15, PBo [b5, b6, b7]⟩] [false] (.cons (fun _ _ _ h1 h2 => h2.stab h1) <| Stab.nil) ?_ ?_
  · refine oc g_mv ?_
    refine oc (g_fd (fun uZ => fdC0 _ uZ)) ?_
    refine oc (g_lo 0 0 uN iN) ?_
    refine oc (g_cl ent_limb_Bit (fun uZ => hb5.out uZ)) ?_
    refine oc (g_fd (fun uZ => fdC0 _ uZ)) ?_
    refine oc (g_lo 0 0 uN iN) ?_
    refine oc (g_cl ent_limb_Of (fun uZ => nOf 3 uZ (by omega) (by omega))) ?_
    refine oc (g_cl ent_limb_Compare (fun uZ => nCompare n 3 uZ hn In_3)) ?_
    refine oc (g_bn (fun uZ => geq_i _ _ (cmpI n 3) 0 b6 uZ e6)) ?_
    refine oc (g_fd (fun uZ => fdC1 _ uZ)) ?_
    refine oc (g_lo 0 4 uN iN) ?_
    refine oc (g_cl ent_limb_Of (fun uZ => nOf 2 uZ (by omega) (by omega))) ?_
    refine oc (g_cl ent_limb_Compare (fun uZ => nCompare 0 2 uZ hf In_2)) ?_
    refine oc (g_bn (fun uZ => geq_i _ _ (cmpI 0 2) 0 b7 uZ e7)) ?_
    refine oc (g_bS 0 (PBo [b5, b6, b7]) [0, 1, 2] [.bool b5, .bool b6, .bool b7] (bsl3 b5 b6 b7) (PBo.new [b5, b6, b7] 4 3 rfl)) ?_
    refine oc (g_c1 0 (PBo [b5, b6, b7]) ent_cert_unmet (fun uZ yZ _ hZ => cUnmetP [b5, b6, b7] uZ yZ (by simp) hZ)) ?_
    refine oc (g_bn (fun uZ => add_i _ _ 0 ((ucn [b5, b6, b7] 3 : Nat) : Int) ((ucn [b5, b6, b7] 3 : Nat) : Int) uZ (by omega) (by omega) (by omega))) ?_
    exact oc g_as on
  intro u8 v8_14 hv8_14 HB8 sz8 K8
  simp only [fX, nK, nP, Wr.f, aK, pM] at K8
  simp only [setG, setN, setE, List.set_cons_zero, List.set_cons_succ]
  clear K7 HB7
  go_upto_region 14 with fail
  refine rgP K8 HB8 HB8.size [] [] [(0, 115, .int .i64 ((ucn [b5, b6, b7] 3 : Nat) : Int)), (1, 2, .int .i64 ((ucn [b5, b6, b7] 3 : Nat) : Int))] [] [] [] ?_ ?_
  · refine oc g_mv ?_
    exact oc g_as on
  intro u9 HB9 sz9 K9
  simp only [fX, nK, nP, Wr.f, aK, pM] at K9
  simp only [setG, setN, List.set_cons_zero, List.set_cons_succ]
  clear K8 HB8
  go_wp2
  refine bodyPost_ret (v := .int .i64 ((ucn [b5, b6, b7] 3 : Nat) : Int)) (by simp [results, Try.results32, go_sem, ]) rfl ⟨rfl, HB9⟩
end Go.Proofs.Ytgfggkinmhhdnaa
/- Primes that are certified: a step. -/
namespace Go.Proofs.Ytgfggkinmhhdnaa
open Go.RowKit
set_option linter.unusedVariables false
set_option linter.unusedSimpArgs false
/-- A step that is right. -/
def StR (n f a : Int) : Prop := n % 2 = 1 ∧ 3 ≤ n ∧ 2 ≤ f ∧ (n - 1) % f = 0 ∧ (n - 1) / f < f ∧ a ^ (n - 1).toNat % n = 1 ∧ gI ((a ^ ((n - 1) / f).toNat % n - 1) % n) n = 1
open Classical in
noncomputable def stB (n f a : Int) : Bool := decide (StR n f a)
theorem stB_iff {n f a : Int} : stB n f a = true ↔ StR n f a := by simp [stB]
theorem cmp_ge (n m : Int) : decide (0 ≤ cmpI n m) = decide (m ≤ n) := by
  unfold cmpI; rw [Bool.eq_iff_iff]; simp; split
  · simp; omega
  · split <;> simp <;> omega
theorem cmp_pos (n m : Int) : decide (0 < cmpI n m) = decide (m < n) := by
  unfold cmpI; rw [Bool.eq_iff_iff]; simp; split
  · simp; omega
  · split <;> simp <;> omega
theorem ucn_all (b1 b2 b3 b4 b5 b6 b7 : Bool) : (((ucn [b1, b2] 2 : Nat) : Int) + ((ucn [b3, b4] 2 : Nat) : Int) + ((ucn [b5, b6, b7] 3 : Nat) : Int) == 0) = (b1 && b2 && b3 && b4 && b5 && b6 && b7) := by
  cases b1 <;> cases b2 <;> cases b3 <;> cases b4 <;> cases b5 <;> cases b6 <;> cases b7 <;> rfl
theorem ucn_f6 (b3 b4 b5 b7 : Bool) : (((ucn [b3, b4] 2 : Nat) : Int) + ((ucn [b5, false, b7] 3 : Nat) : Int) == 0) = false := by
  cases b3 <;> cases b4 <;> cases b5 <;> cases b7 <;> rfl
theorem ucn_f7 (b5 b6 : Bool) : (((ucn [b5, b6, false] 3 : Nat) : Int) == 0) = false := by
  cases b5 <;> cases b6 <;> rfl
theorem nDivideZ (n : Int) (w : World) : Calls Try.prog 46 #[WV n, NV 0] w fun e w' => e = .returned (.tuple #[WV 0, NV 0, .int .i64 10]) ∧ Below w.heap.size w w' := nDivide0 n w
theorem In_gR {a b : Int} (hb : In b) (h : b ≠ 0) : In (gI a b) := by
  have h0 := hb.1
  have h1 := hb.2
  have : Nat.gcd a.toNat b.toNat ≤ b.toNat := Nat.gcd_le_right _ (by omega)
  unfold gI
  exact ⟨by omega, by omega⟩
/-- What a step lacks: nothing, just if it is right. -/
theorem cLacks (n f a : Int) (hn : In n) (hf : In f) (ha : In a) : ∃ c : Int, (c == 0) = stB n f a ∧ ∀ u, Calls Try.prog 32 #[CX n f a] u fun e u' => e = .returned (.int .i64 c) ∧ Below u.heap.size u u' := by
  by_cases f0 : f = 0
  · subst f0
    have e : stB n 0 a = false := by rw [Bool.eq_false_iff]; exact fun h => by have := (stB_iff.1 h).2.2.1; omega
    have e7 : decide (0 ≤ cmpI 0 2) = false := rfl
    have hx : ∃ L, In L ∧ ∀ u, Calls Try.prog 45 #[NV n, NV 1] u fun en u' => en = .returned (.tuple #[NV L, .bool (ltB n 1)]) ∧ Below u.heap.size u u' := by
      by_cases n0 : n = 0
      · refine ⟨n - 1 + 115792089237316195423570985008687907853269984665640564039457584007913129639936, ?_, fun u => ?_⟩
        · subst n0; exact ⟨by omega, by omega⟩
        · rw [NV_more]; exact nSub n 1 u hn In_1
      · exact ⟨n - 1, ⟨by have := hn.1; omega, by have := hn.2; omega⟩, fun u => nSub n 1 u hn In_1⟩
    obtain ⟨L, hL, hS⟩ := hx
    refine ⟨_, ?_, fun u => clacks_none n a L true true true true (bitI n 0) (decide (0 ≤ cmpI n 3)) false (ltB n 1) u hn hL hf hS (fun u => nDivideZ L u) (fun u => nBit n 0 u (by omega) (by omega)) rfl e7⟩
    rw [e]; exact ucn_f7 _ _
  · by_cases n0 : n = 0
    · have e : stB n f a = false := by rw [Bool.eq_false_iff]; exact fun h => by have := (stB_iff.1 h).2.1; omega
      have hL : In (n - 1 + 115792089237316195423570985008687907853269984665640564039457584007913129639936) := by subst n0; exact ⟨by omega, by omega⟩
      have iW : InW (n - 1 + 115792089237316195423570985008687907853269984665640564039457584007913129639936) := hL.wide
      have e6 : decide (0 ≤ cmpI n 3) = false := by rw [cmp_ge]; simp; omega
      refine ⟨_, ?_, fun u => clacks_nopow n f a (n - 1 + 115792089237316195423570985008687907853269984665640564039457584007913129639936) ((n - 1 + 115792089237316195423570985008687907853269984665640564039457584007913129639936) / f) ((n - 1 + 115792089237316195423570985008687907853269984665640564039457584007913129639936) % f) true true _ _ (bitI n 0) false (decide (0 ≤ cmpI f 2)) (ltB n 1) u hn hL hf (In_div hL hf f0) (In_mod hf f0) (by simp [n0]) (fun u => by rw [NV_more]; exact nSub n 1 u hn In_1) (fun u => nDivide _ f u iW hf f0) (fun u => nBit n 0 u (by omega) (by omega)) e6 rfl rfl rfl⟩
      rw [e]; exact ucn_f6 _ _ _ _
    · have hL : In (n - 1) := ⟨by have := hn.1; omega, by have := hn.2; omega⟩
      have iq : In ((n - 1) / f) := In_div hL hf f0
      have iP := In_mod (n := a ^ (n - 1).toNat) hn n0
      have iP2 := In_mod (n := a ^ ((n - 1) / f).toNat) hn n0
      have iS := In_mod (n := a ^ ((n - 1) / f).toNat % n - 1) hn n0
      have iG : In (gI ((a ^ ((n - 1) / f).toNat % n - 1) % n) n) := In_gR hn n0
      refine ⟨_, ?_, fun u => clacks_all n f a (n - 1) ((n - 1) / f) ((n - 1) % f) (a ^ (n - 1).toNat % n) (a ^ ((n - 1) / f).toNat % n) ((a ^ ((n - 1) / f).toNat % n - 1) % n) (gI ((a ^ ((n - 1) / f).toNat % n - 1) % n) n) _ _ _ _ (bitI n 0) _ _ (ltB n 1) u hn hL hf iq (In_mod hf f0) iP iG (by simp [n0]) (fun u => nSub n 1 u hn In_1) (fun u => nDivide _ f u hL.wide hf f0) (fun u => nBit n 0 u (by omega) (by omega)) rfl rfl rfl rfl rfl rfl (fun u => mExp a (n - 1) n u ha hL hn n0) (fun u => mExp a _ n u ha iq hn n0) (fun u => mSub _ 1 n u iP2 In_1 hn n0) (fun u => mGcd _ n u iS hn)⟩
      rw [ucn_all, cmp_ge, cmp_ge, cmp_pos, Bool.eq_iff_iff, stB_iff]
      simp only [Bool.and_eq_true, decide_eq_true_eq]
      have hb : bitI n 0 = true ↔ n % 2 = 1 := by unfold bitI; simp
      rw [hb]
      unfold StR
      constructor
      · rintro ⟨⟨⟨⟨⟨⟨h1, h2⟩, h3⟩, h4⟩, h5⟩, h6⟩, h7⟩
        exact ⟨h5, h6, h7, h3, h4, h1, h2⟩
      · rintro ⟨h5, h6, h7, h3, h4, h1, h2⟩
        exact ⟨⟨⟨⟨⟨⟨h1, h2⟩, h3⟩, h4⟩, h5⟩, h6⟩, h7⟩
theorem ent_cert_lacks (vs : Array Value) (w : World) : (callFunc 32 vs).run Try.prog w = .ok (.enter 32 vs) w := by kernel_rfl
set_option maxRecDepth 100000 in
set_option maxHeartbeats 4000000 in
theorem cStep (n f a : Int) (w : World) (hn : In n) (hf : In f) (ha : In a) :
    Calls Try.prog 11 #[CX n f a] w fun e w' => e = .returned (.bool (stB n f a)) ∧ Below w.heap.size w w' := by
  go_enter Try.func11, Try.ntmps11
  go_upto_region 1 with fail
  generalize hC : (w.alloc (.cells (CE (n) (f) (a) : List Value).toArray 26)) = v0 at *
  have HB0 : Below w.heap.size w v0 := by rw [← hC]; exact balloc (bself w) _
  have K0 : Bk w.heap.size v0 [(true, w.heap.size, CE (n) (f) (a))] := by rw [← hC]; exact (Bk.nil _ w).ad
  clear hC
  obtain ⟨c, hc, hC⟩ := cLacks n f a hn hf ha
  have hC : Hid _ := hC
  refine rgP K0 HB0 HB0.size [] [] [(0, 3, CX (n) (f) (a)), (1, 4, .int .i64 c), (2, 5, .bool (stB n f a)), (3, 2, .bool (stB n f a))] [] [] [false] ?_ ?_
  · refine oc (g_ld 0 Try.underlying26 info_api_Cert) ?_
    refine oc (g_cl ent_cert_lacks (fun uZ => hC.out uZ)) ?_
    refine oc (g_bn (fun uZ => eql_i _ _ _ c 0 _ uZ hc)) ?_
    exact oc g_as on
  intro u1 HB1 sz1 K1
  simp only [fX, nK, nP, Wr.f, aK, pM] at K1
  simp only [setG, setN, List.set_cons_zero, List.set_cons_succ]
  clear K0 HB0
  go_wp2
  refine bodyPost_ret (v := .bool (stB n f a)) (by simp [results, Try.results11, go_sem, ]) rfl ⟨rfl, HB1⟩
/-- Pocklington, for a step. -/
theorem StR.pr {n f a : Int} (h : StR n f a) (ha : 0 ≤ a) (hf : Pr f.toNat) : Pr n.toNat := by
  obtain ⟨h1, h2, h3, h4, h5, h6, h7⟩ := h
  obtain ⟨N, rfl⟩ : ∃ N : Nat, n = N := ⟨n.toNat, by omega⟩
  obtain ⟨F, rfl⟩ : ∃ F : Nat, f = F := ⟨f.toNat, by omega⟩
  obtain ⟨A, rfl⟩ : ∃ A : Nat, a = A := ⟨a.toNat, by omega⟩
  have e1 : ((N : Int) - 1) = ((N - 1 : Nat) : Int) := by omega
  have eq : ((N : Int) - 1) / F = (((N - 1) / F : Nat) : Int) := by rw [e1, Int.natCast_ediv]
  rw [eq] at h5 h7
  rw [e1] at h4 h6
  simp only [Int.toNat_natCast] at h6 h7 hf ⊢
  have k4 : (N - 1) % F = 0 := by
    have : (((N - 1) % F : Nat) : Int) = 0 := by rw [Int.natCast_emod]; exact h4
    omega
  have k6 : A ^ (N - 1) % N = 1 := by
    have : ((A ^ (N - 1) % N : Nat) : Int) = 1 := by rw [Int.natCast_emod, Int.natCast_pow]; exact h6
    omega
  have k5 : (N - 1) / F < F := by omega
  obtain ⟨x, hx⟩ : ∃ x : Nat, (((A : Int) ^ ((N - 1) / F) % N - 1) % N) = x := ⟨_, (Int.toNat_of_nonneg (Int.emod_nonneg _ (by omega))).symm⟩
  rw [hx] at h7
  have xl : x < N := by
    have := Int.emod_lt_of_pos ((A : Int) ^ ((N - 1) / F) % N - 1) (show (0 : Int) < N by omega)
    omega
  have k7 : Nat.gcd x N = 1 := by
    unfold gI at h7; simp only [Int.toNat_natCast] at h7; omega
  have kx : (x + 1) % N = A ^ ((N - 1) / F) % N := by
    have : (((x + 1) % N : Nat) : Int) = ((A ^ ((N - 1) / F) % N : Nat) : Int) := by
      rw [Int.natCast_emod, Int.natCast_emod, Int.natCast_pow, Int.natCast_add, ← hx]
      show ((((A : Int) ^ ((N - 1) / F) % N - 1) % N) + 1) % N = _
      rw [Int.emod_add_emod, Int.sub_add_cancel, Int.emod_emod]
    omega
  have hN : N = F * ((N - 1) / F) + 1 := by
    have := Nat.div_add_mod (N - 1) F
    rw [k4] at this
    omega
  exact pock hf hN (by omega) k5 k6 (gcd_demand xl kx k7)
end Go.Proofs.Ytgfggkinmhhdnaa
/- Primes that are certified: certificates. -/
namespace Go.Proofs.Ytgfggkinmhhdnaa
open Go.RowKit
set_option linter.unusedVariables false
set_option linter.unusedSimpArgs false
abbrev L0c : List Value := [.int .u64 0, .int .u64 0, .int .u64 0, .int .u64 0, .int .u64 0, .int .u64 0, .int .u64 0, .int .u64 0, .int .u64 0, .int .u64 0, .int .u64 0, .int .u64 0]
theorem al_api_Cert (w : World) : (Instr.alloc 26 true (.tuple #[])).run Try.prog w = .ok (.pointer (some ⟨w.heap.size, 0, none⟩)) (w.alloc (.cells L0c.toArray 26)) := by kernel_rfl
/-- The cells of steps, one behind the other. -/
def flC : List (Int × Int × Int) → List Value
  | [] => []
  | c :: r => CE c.1 c.2.1 c.2.2 ++ flC r
/-- The steps cs lie from o on in block g. -/
def SCt (w : World) (g o : Nat) (cs : List (Int × Int × Int)) : Prop := ∀ j v, (flC cs)[j]? = some v → w.cell? ⟨g, o + j, none⟩ = some v
theorem SCt.below {w w' : World} {m g o : Nat} {cs : List (Int × Int × Int)} (h : SCt w g o cs) (hb : Below m w w') (hg : g < m) : SCt w' g o cs := fun j v hj => (hb.cell (p := ⟨g, o + j, none⟩) hg).trans (h j v hj)
theorem SCt.empty {w : World} {g o : Nat} {cs : List (Int × Int × Int)} (h : cs.length = 0) : SCt w g o cs := fun j v hj => by
  have e : cs = [] := List.eq_nil_of_length_eq_zero h
  subst e; simp [flC] at hj
theorem SCt.below2 {w w' : World} {m g o : Nat} {cs : List (Int × Int × Int)} (h : SCt w g o cs) (hb : Below m w w') (hg : cs.length = 0 ∨ g < m) : SCt w' g o cs := by
  rcases hg with e | hg
  · exact SCt.empty e
  · exact h.below hb hg
abbrev cat (cs : List (Int × Int × Int)) (j : Nat) : Int × Int × Int := cs.getD j (0, 0, 0)
theorem flC_get : ∀ (cs : List (Int × Int × Int)) (j c : Nat) (v : Value), j < cs.length → (CE (cat cs j).1 (cat cs j).2.1 (cat cs j).2.2)[c]? = some v → (flC cs)[12 * j + c]? = some v
  | [], j, c, v, h, _ => by simp at h
  | n :: r, 0, c, v, h, e => by
    rw [flC, List.getElem?_append_left]
    · simpa [cat] using e
    · have := (List.getElem?_eq_some_iff.1 e).1
      simpa using this
  | n :: r, j + 1, c, v, h, e => by
    rw [flC, List.getElem?_append_right (by simp; omega)]
    have := flC_get r j c v (by simpa using h) (by simpa [cat] using e)
    simpa [show 12 * (j + 1) + c - 12 = 12 * j + c by omega] using this
theorem SCt.at {w : World} {g o : Nat} {cs : List (Int × Int × Int)} (h : SCt w g o cs) (j : Nat) (hj : j < cs.length) : w.rangeAt g (o + 12 * j) (CE (cat cs j).1 (cat cs j).2.1 (cat cs j).2.2) := fun c v hc => by
  have := h (12 * j + c) v (flC_get cs j c v hj hc)
  rwa [← Nat.add_assoc] at this
theorem range_N {w : World} {g o : Nat} {n f a : Int} (h : w.rangeAt g o (CE n f a)) : w.rangeAt g o (LN n) := fun c v hc => h c v (by
  have hl : c < 4 := by have := (List.getElem?_eq_some_iff.1 hc).1; simpa using this
  rcases (by omega : c = 0 ∨ c = 1 ∨ c = 2 ∨ c = 3) with rfl | rfl | rfl | rfl <;> simpa using hc)
theorem ixC (g o n cap j : Nat) (h : j < n) (w : World) : (Instr.indexAt 31 (.slice (some ⟨g, o, none⟩) n cap) (.int .i64 j)).run Try.prog w = .ok (.pointer (some ⟨g, o + 12 * j, none⟩)) w := by
  have h2 : (j : Int) < n := by omega
  go_simp
theorem fdCx (b x : Nat) (w : World) : (Instr.fieldAt 26 (.pointer (some ⟨b, x, none⟩)) 0).run Try.prog w = .ok (.pointer (some ⟨b, x, none⟩)) w := by go_simp
/-- Is the F of the step number k known? -/
noncomputable def knB (cs : List (Int × Int × Int)) : Nat → Bool
  | 0 => smB (cat cs 0).2.1
  | k + 1 => decide ((cat cs (k + 1)).2.1 = (cat cs k).1)
/-- Are the first k steps right, and each F known? -/
noncomputable def crB (cs : List (Int × Int × Int)) : Nat → Bool
  | 0 => true
  | k + 1 => crB cs k && (knB cs k && stB (cat cs k).1 (cat cs k).2.1 (cat cs k).2.2)
theorem crB_mono {cs : List (Int × Int × Int)} {k m : Nat} (h : crB cs k = false) (hm : k ≤ m) : crB cs m = false := by
  induction m with
  | zero => have : k = 0 := by omega
            subst this; exact h
  | succ m ih =>
    rcases Nat.lt_or_ge m k with hk | hk
    · have : k = m + 1 := by omega
      subst this; exact h
    · rw [crB, ih hk]; rfl
noncomputable def cfB (cs : List (Int × Int × Int)) : Bool := crB cs cs.length && decide (0 < cs.length)
theorem cfB_f {cs : List (Int × Int × Int)} {k : Nat} (hk : k < cs.length) (h : (knB cs k && stB (cat cs k).1 (cat cs k).2.1 (cat cs k).2.2) = false) : cfB cs = false := by
  have e : crB cs (k + 1) = false := by rw [crB, h, Bool.and_false]
  rw [cfB, crB_mono e (by omega)]; rfl
theorem ent_cert_Small (vs : Array Value) (w : World) : (callFunc 9 vs).run Try.prog w = .ok (.enter 9 vs) w := by kernel_rfl
theorem ent_cert_Step (vs : Array Value) (w : World) : (callFunc 11 vs).run Try.prog w = .ok (.enter 11 vs) w := by kernel_rfl
theorem ent_cert_certify (vs : Array Value) (w : World) : (callFunc 36 vs).run Try.prog w = .ok (.enter 36 vs) w := by kernel_rfl
set_option maxRecDepth 100000 in
set_option maxHeartbeats 4000000 in
theorem cCertify (cs : List (Int × Int × Int)) (sl : Option Addr) (gb go cap : Nat) (w : World) (hcs : cs.length ≤ 300) (hin : Hid (∀ j, j < cs.length → In (cat cs j).1 ∧ In (cat cs j).2.1 ∧ In (cat cs j).2.2)) (hix : Hid (∀ j, j < cs.length → ∀ W, (Instr.indexAt 31 (.slice sl cs.length cap) (.int .i64 j)).run Try.prog W = .ok (.pointer (some ⟨gb, go + 12 * j, none⟩)) W)) (hg : cs.length = 0 ∨ gb < w.heap.size) (hS : Hid (SCt w gb go cs)) :
    Calls Try.prog 36 #[.slice sl cs.length cap] w fun e w' => e = .returned (.bool (cfB cs)) ∧ Below w.heap.size w w' := by
  go_enter Try.func36, Try.ntmps36
  have HB0 : Below w.heap.size w w := Below.refl _ _
  have K0_1 := Bk.nil (w.heap.size) w
  go_upto_region 1 with fail
  refine rgP K0_1 HB0 HB0.size [] [] [(0, 6, .slice sl cs.length cap), (1, 7, .int .i64 (cs.length : Int)), (2, 8, (Go.Value.int Go.IntKind.i64 0))] [] [] [] ?_ ?_
  · refine oc g_mv ?_
    refine oc (g_ln Try.underlying31) ?_
    exact oc g_mv on
  intro u1 HB1 sz1 K1
  simp only [fX, nK, nP, Wr.f, aK, pM] at K1
  simp only [setG, setN, List.set_cons_zero, List.set_cons_succ]
  clear HB0
  go_wp2_with fail
  go_loopw [8] (fun s8 wr => ∃ (k : Nat), k ≤ cs.length ∧ s8 = .int .i64 (k : Int) ∧ Hid (crB cs k = true) ∧ Below w.heap.size w wr) (fun s8 _ => cs.length - (intOf s8).toNat)
  case atStart => exact ⟨0, by omega, rfl, rfl, HB1⟩
  case round =>
    obtain ⟨k, hk, rfl, hA, HBr⟩ := hrel
    clear HB1
    by_cases hj : k < cs.length
    · have hl1 : decide ((k : Int) < (cs.length : Int)) = true := by simp; omega
      obtain ⟨n, f, a, hc⟩ : ∃ n f a, cat cs k = (n, f, a) := ⟨_, _, _, rfl⟩
      have hR := hS.out.at k hj
      have hI := hin.out k hj
      have hF := @cfB_f cs k hj
      have hT : crB cs (k + 1) = (crB cs k && (knB cs k && stB (cat cs k).1 (cat cs k).2.1 (cat cs k).2.2)) := rfl
      rw [hc] at hR hI hF hT
      rw [hA.out] at hT
      obtain ⟨hn, hf, ha⟩ := hI
      have hg := hg.resolve_left (by omega)
      have hX := hix.out k hj
      have hX : Hid _ := hX
      have hR : Hid _ := hR
      have K1_2 := Bk.nil (w.heap.size) wr
      go_upto_region 2 with fail
      refine rgP K1_2 HBr HBr.size [] [] [(0, 9, .bool true)] [] [] [] ?_ ?_
      · exact oc (g_bn (fun uZ => lss_i _ _ (k : Int) (cs.length : Int) _ uZ hl1)) on
      intro u2 HB2 sz2 K2
      simp only [fX, nK, nP, Wr.f, aK, pM] at K2
      simp only [setG, setN, List.set_cons_zero, List.set_cons_succ]
      go_upto_region 3 with fail
      refine rgP K2 HB2 HB2.size [] [(3, 4, L0c, some (5, CE (n) (f) (a)))] [(0, 10, .int .i64 (k : Int)), (1, 11, .pointer (some ⟨gb, go + 12 * k, none⟩)), (2, 12, CX (n) (f) (a)), (4, 3, .int .i64 (k : Int))] [(5, 3)] [] [] ?_ ?_
      · refine oc g_mv ?_
        refine oc (g_ix (fun uZ => hX.out uZ)) ?_
        refine oc (g_lf hR.out hg Try.underlying26 info_api_Cert) ?_
        refine oc (g_al 0 al_api_Cert) ?_
        refine oc g_as ?_
        exact oc (g_sn 0 info_api_Cert) on
      intro u3 b3_3 HB3 sz3 K3
      simp only [fX, nK, nP, Wr.f, aK, pM] at K3
      simp only [setG, setN, List.set_cons_zero, List.set_cons_succ]
      clear K2 HB2
      by_cases hz : k = 0
      · have hz1 : ((k : Int) == 0) = true := by simp; omega
        have hz2 : decide (0 < (k : Int)) = false := by simp; omega
        have hke : knB cs k = smB f := by subst hz; rw [knB, hc]
        obtain ⟨b, hkn⟩ : ∃ b, knB cs k = b := ⟨_, rfl⟩
        have hsm : Hid (∀ u, Calls Try.prog 9 #[NV f] u fun e u' => e = .returned (.bool b) ∧ Below u.heap.size u u') := fun u => by
          rw [← hkn, hke]; exact cSmall f u hf
        cases b
        · skip
          go_upto_region 4 with fail
          refine rgD K3 HB3 HB3.size [] [] [(0, 13, .int .i64 (k : Int)), (1, 14, .bool true), (2, 15, .bool true), (3, 16, .pointer (some ⟨b3_3, 4, none⟩)), (4, 17, NV f), (5, 18, .bool false), (6, 19, .bool false), (7, 20, .bool false), (8, 21, .int .i64 (k : Int)), (9, 22, .bool false), (10, 23, .bool false), (11, 24, undef), (12, 25, undef), (13, 26, undef), (14, 27, undef), (15, 28, undef), (16, 29, undef), (17, 30, undef), (18, 31, undef), (19, 32, undef), (20, 33, (Go.Value.bool Bool.false)), (21, 34, (Go.Value.bool Bool.false)), (22, 5, (Go.Value.bool Bool.false))] [] [] [false] ?_ ?_
          · refine oc g_mv ?_
            refine oc (g_bn (fun uZ => eql_i _ _ _ (k : Int) 0 _ uZ hz1)) ?_
            refine oc g_mv ?_
            refine oc (g_fd (fun uZ => fdC1 _ uZ)) ?_
            refine oc (g_lo 0 4 uN iN) ?_
            refine oc (g_cl ent_cert_Small (fun uZ => hsm.out uZ)) ?_
            refine oc g_pk ?_
            refine oc g_mv ?_
            refine oc g_mv ?_
            refine oc (g_bn (fun uZ => gtr_i _ _ (k : Int) 0 _ uZ hz2)) ?_
            refine oc g_mv ?_
            refine oc g_sk ?_
            refine oc g_sk ?_
            refine oc g_sk ?_
            refine oc g_sk ?_
            refine oc g_sk ?_
            refine oc g_sk ?_
            refine oc g_sk ?_
            refine oc g_sk ?_
            refine oc g_sk ?_
            refine oc g_pk ?_
            refine oc g_pk ?_
            exact oc g_as on
          intro u4 HB4 sz4 K4
          simp only [fX, nK, nP, Wr.f, aK, pM] at K4
          simp only [setG, setN, List.set_cons_zero, List.set_cons_succ]
          clear K3 HB3
          have hFF : cfB cs = false := hF (by rw [hkn]; rfl)
          go_upto_region 5 with fail
          refine rgP K4 HB4 HB4.size [] [] [(0, 35, (Go.Value.bool Bool.false)), (1, 36, .bool true), (2, 37, .bool true), (3, 38, undef), (4, 39, undef), (5, 40, undef), (6, 41, (Go.Value.bool Bool.true))] [] [] [] ?_ ?_
          · refine oc g_mv ?_
            refine oc (g_un (fun uZ => rfl)) ?_
            refine oc g_mv ?_
            refine oc g_sk ?_
            refine oc g_sk ?_
            refine oc g_sk ?_
            exact oc g_pk on
          intro u5 HB5 sz5 K5
          simp only [fX, nK, nP, Wr.f, aK, pM] at K5
          simp only [setG, setN, List.set_cons_zero, List.set_cons_succ]
          clear K4 HB4
          go_upto_region 6 with fail
          refine rgP K5 HB5 HB5.size [] [] [(0, 2, (Go.Value.bool Bool.false))] [] [] [] ?_ ?_
          · exact oc g_as on
          intro u6 HB6 sz6 K6
          simp only [fX, nK, nP, Wr.f, aK, pM] at K6
          simp only [setG, setN, List.set_cons_zero, List.set_cons_succ]
          clear K5 HB5
          go_wp2
          refine bodyPost_ret (v := .bool false) (by simp [results, Try.results36, go_sem, ]) rfl ⟨by first | rfl | rw [hFF], HB6⟩
        · skip
          go_upto_region 4 with fail
          refine rgD K3 HB3 HB3.size [] [] [(0, 13, .int .i64 (k : Int)), (1, 14, .bool true), (2, 15, .bool true), (3, 16, .pointer (some ⟨b3_3, 4, none⟩)), (4, 17, NV f), (5, 18, .bool true), (6, 19, .bool true), (7, 20, .bool true), (8, 21, undef), (9, 22, undef), (10, 23, undef), (11, 24, undef), (12, 25, undef), (13, 26, undef), (14, 27, undef), (15, 28, undef), (16, 29, undef), (17, 30, undef), (18, 31, undef), (19, 32, undef), (20, 33, undef), (21, 34, (Go.Value.bool Bool.true)), (22, 5, (Go.Value.bool Bool.true))] [] [] [] ?_ ?_
          · refine oc g_mv ?_
            refine oc (g_bn (fun uZ => eql_i _ _ _ (k : Int) 0 _ uZ hz1)) ?_
            refine oc g_mv ?_
            refine oc (g_fd (fun uZ => fdC1 _ uZ)) ?_
            refine oc (g_lo 0 4 uN iN) ?_
            refine oc (g_cl ent_cert_Small (fun uZ => hsm.out uZ)) ?_
            refine oc g_pk ?_
            refine oc g_mv ?_
            refine oc g_sk ?_
            refine oc g_sk ?_
            refine oc g_sk ?_
            refine oc g_sk ?_
            refine oc g_sk ?_
            refine oc g_sk ?_
            refine oc g_sk ?_
            refine oc g_sk ?_
            refine oc g_sk ?_
            refine oc g_sk ?_
            refine oc g_sk ?_
            refine oc g_sk ?_
            refine oc g_sk ?_
            refine oc g_pk ?_
            exact oc g_as on
          intro u4 HB4 sz4 K4
          simp only [fX, nK, nP, Wr.f, aK, pM] at K4
          simp only [setG, setN, List.set_cons_zero, List.set_cons_succ]
          clear K3 HB3
          obtain ⟨s, hs⟩ : ∃ s, stB n f a = s := ⟨_, rfl⟩
          have hst : Hid (∀ u, Calls Try.prog 11 #[CX n f a] u fun e u' => e = .returned (.bool s) ∧ Below u.heap.size u u') := fun u => by rw [← hs]; exact cStep n f a u hn hf ha
          cases s
          · skip
            have hFF : cfB cs = false := hF (by rw [hs, Bool.and_false])
            go_upto_region 5 with fail
            refine rgP K4 HB4 HB4.size [] [] [(0, 35, (Go.Value.bool Bool.true)), (1, 36, .bool false), (2, 37, .bool false), (3, 38, CX (n) (f) (a)), (4, 39, .bool false), (5, 40, .bool true), (6, 41, .bool true)] [] [] [false] ?_ ?_
            · refine oc g_mv ?_
              refine oc (g_un (fun uZ => rfl)) ?_
              refine oc g_mv ?_
              refine oc (g_ld 0 Try.underlying26 info_api_Cert) ?_
              refine oc (g_cl ent_cert_Step (fun uZ => hst.out uZ)) ?_
              refine oc (g_un (fun uZ => rfl)) ?_
              exact oc g_pk on
            intro u5 HB5 sz5 K5
            simp only [fX, nK, nP, Wr.f, aK, pM] at K5
            simp only [setG, setN, List.set_cons_zero, List.set_cons_succ]
            clear K4 HB4
            go_upto_region 6 with fail
            refine rgP K5 HB5 HB5.size [] [] [(0, 2, (Go.Value.bool Bool.false))] [] [] [] ?_ ?_
            · exact oc g_as on
            intro u6 HB6 sz6 K6
            simp only [fX, nK, nP, Wr.f, aK, pM] at K6
            simp only [setG, setN, List.set_cons_zero, List.set_cons_succ]
            clear K5 HB5
            go_wp2
            refine bodyPost_ret (v := .bool false) (by simp [results, Try.results36, go_sem, ]) rfl ⟨by first | rfl | rw [hFF], HB6⟩
          · skip
            go_upto_region 5 with fail
            refine rgP K4 HB4 HB4.size [] [] [(0, 35, (Go.Value.bool Bool.true)), (1, 36, .bool false), (2, 37, .bool false), (3, 38, CX (n) (f) (a)), (4, 39, .bool true), (5, 40, .bool false), (6, 41, .bool false)] [] [] [false] ?_ ?_
            · refine oc g_mv ?_
              refine oc (g_un (fun uZ => rfl)) ?_
              refine oc g_mv ?_
              refine oc (g_ld 0 Try.underlying26 info_api_Cert) ?_
              refine oc (g_cl ent_cert_Step (fun uZ => hst.out uZ)) ?_
              refine oc (g_un (fun uZ => rfl)) ?_
              exact oc g_pk on
            intro u5 HB5 sz5 K5
            simp only [fX, nK, nP, Wr.f, aK, pM] at K5
            simp only [setG, setN, List.set_cons_zero, List.set_cons_succ]
            clear K4 HB4
            go_upto_region 7 with fail
            refine rgP K5 HB5 HB5.size [] [] [(0, 42, .int .i64 ((k + 1 : Nat) : Int)), (1, 8, .int .i64 ((k + 1 : Nat) : Int))] [(1, 0)] [(1, 8)] [] ?_ ?_
            · refine oc (g_bn (fun uZ => add_i _ _ (k : Int) 1 ((k + 1 : Nat) : Int) uZ (by omega) (by omega) (by omega))) ?_
              exact oc g_mv on
            intro u6 HB6 sz6 K6
            simp only [fX, nK, nP, Wr.f, aK, pM] at K6
            simp only [setG, setN, List.set_cons_zero, List.set_cons_succ]
            clear K5 HB5
            go_wp2
            refine ⟨⟨k + 1, by omega, rfl, (by rw [hT, hkn, hs]; rfl), HB6⟩, ?_⟩
            simp [intOf] <;> omega
      · obtain ⟨n', f', a', hc'⟩ : ∃ n f a, cat cs (k - 1) = (n, f, a) := ⟨_, _, _, rfl⟩
        have hR2 := hS.out.at (k - 1) (by omega)
        have hI2 := hin.out (k - 1) (by omega)
        rw [hc'] at hR2 hI2
        have hR2 : Hid _ := range_N hR2
        have hn' : In n' := hI2.1
        clear hI2
        have hX2 := hix.out (k - 1) (by omega)
        have hX2 : Hid _ := hX2
        have hz1 : ((k : Int) == 0) = false := by simp; omega
        have hz2 : decide (0 < (k : Int)) = true := by simp; omega
        have hz3 : (k : Int) - 1 = ((k - 1 : Nat) : Int) := by omega
        have hke : knB cs k = decide (f = n') := by
          obtain ⟨j, rfl⟩ : ∃ j, k = j + 1 := ⟨k - 1, by omega⟩
          rw [Nat.add_sub_cancel] at hc'
          rw [knB, hc, hc']
        obtain ⟨b, hkn⟩ : ∃ b, knB cs k = b := ⟨_, rfl⟩
        have hkd : decide (f = n') = b := by rw [← hke]; exact hkn
        cases b
        · skip
          go_upto_region 4 with fail
          refine rgD K3 HB3 HB3.size [] [] [(0, 13, .int .i64 (k : Int)), (1, 14, .bool false), (2, 15, .bool false), (3, 16, undef), (4, 17, undef), (5, 18, undef), (6, 19, (Go.Value.bool Bool.false)), (7, 20, (Go.Value.bool Bool.false)), (8, 21, .int .i64 (k : Int)), (9, 22, .bool true), (10, 23, .bool true), (11, 24, .pointer (some ⟨b3_3, 4, none⟩)), (12, 25, NV f), (13, 26, .slice sl cs.length cap), (14, 27, .int .i64 (k : Int)), (15, 28, .int .i64 ((k - 1 : Nat) : Int)), (16, 29, .pointer (some ⟨gb, go + 12 * (k - 1), none⟩)), (17, 30, .pointer (some ⟨gb, go + 12 * (k - 1), none⟩)), (18, 31, NV (n')), (19, 32, .bool false), (20, 33, .bool false), (21, 34, .bool false), (22, 5, .bool false)] [] [] [false] ?_ ?_
          · refine oc g_mv ?_
            refine oc (g_bn (fun uZ => eql_i _ _ _ (k : Int) 0 _ uZ hz1)) ?_
            refine oc g_mv ?_
            refine oc g_sk ?_
            refine oc g_sk ?_
            refine oc g_sk ?_
            refine oc g_pk ?_
            refine oc g_mv ?_
            refine oc g_mv ?_
            refine oc (g_bn (fun uZ => gtr_i _ _ (k : Int) 0 _ uZ hz2)) ?_
            refine oc g_mv ?_
            refine oc (g_fd (fun uZ => fdC1 _ uZ)) ?_
            refine oc (g_lo 0 4 uN iN) ?_
            refine oc g_mv ?_
            refine oc g_mv ?_
            refine oc (g_bn (fun uZ => sub_i _ _ (k : Int) 1 ((k - 1 : Nat) : Int) uZ hz3 (by omega) (by omega))) ?_
            refine oc (g_ix (fun uZ => hX2.out uZ)) ?_
            refine oc (g_fd (fun uZ => fdCx _ _ uZ)) ?_
            refine oc (g_lf hR2.out hg uN iN) ?_
            refine oc (g_bn (fun uZ => eql_n _ _ hf hn' _ hkd uZ)) ?_
            refine oc g_pk ?_
            refine oc g_pk ?_
            exact oc g_as on
          intro u4 HB4 sz4 K4
          simp only [fX, nK, nP, Wr.f, aK, pM] at K4
          simp only [setG, setN, List.set_cons_zero, List.set_cons_succ]
          clear K3 HB3
          have hFF : cfB cs = false := hF (by rw [hkn]; rfl)
          go_upto_region 5 with fail
          refine rgP K4 HB4 HB4.size [] [] [(0, 35, .bool false), (1, 36, .bool true), (2, 37, .bool true), (3, 38, undef), (4, 39, undef), (5, 40, undef), (6, 41, (Go.Value.bool Bool.true))] [] [] [] ?_ ?_
          · refine oc g_mv ?_
            refine oc (g_un (fun uZ => rfl)) ?_
            refine oc g_mv ?_
            refine oc g_sk ?_
            refine oc g_sk ?_
            refine oc g_sk ?_
            exact oc g_pk on
          intro u5 HB5 sz5 K5
          simp only [fX, nK, nP, Wr.f, aK, pM] at K5
          simp only [setG, setN, List.set_cons_zero, List.set_cons_succ]
          clear K4 HB4
          go_upto_region 6 with fail
          refine rgP K5 HB5 HB5.size [] [] [(0, 2, (Go.Value.bool Bool.false))] [] [] [] ?_ ?_
          · exact oc g_as on
          intro u6 HB6 sz6 K6
          simp only [fX, nK, nP, Wr.f, aK, pM] at K6
          simp only [setG, setN, List.set_cons_zero, List.set_cons_succ]
          clear K5 HB5
          go_wp2
          refine bodyPost_ret (v := .bool false) (by simp [results, Try.results36, go_sem, ]) rfl ⟨by first | rfl | rw [hFF], HB6⟩
        · skip
          go_upto_region 4 with fail
          refine rgD K3 HB3 HB3.size [] [] [(0, 13, .int .i64 (k : Int)), (1, 14, .bool false), (2, 15, .bool false), (3, 16, undef), (4, 17, undef), (5, 18, undef), (6, 19, (Go.Value.bool Bool.false)), (7, 20, (Go.Value.bool Bool.false)), (8, 21, .int .i64 (k : Int)), (9, 22, .bool true), (10, 23, .bool true), (11, 24, .pointer (some ⟨b3_3, 4, none⟩)), (12, 25, NV f), (13, 26, .slice sl cs.length cap), (14, 27, .int .i64 (k : Int)), (15, 28, .int .i64 ((k - 1 : Nat) : Int)), (16, 29, .pointer (some ⟨gb, go + 12 * (k - 1), none⟩)), (17, 30, .pointer (some ⟨gb, go + 12 * (k - 1), none⟩)), (18, 31, NV (n')), (19, 32, .bool true), (20, 33, .bool true), (21, 34, .bool true), (22, 5, .bool true)] [] [] [] ?_ ?_
          · refine oc g_mv ?_
            refine oc (g_bn (fun uZ => eql_i _ _ _ (k : Int) 0 _ uZ hz1)) ?_
            refine oc g_mv ?_
            refine oc g_sk ?_
            refine oc g_sk ?_
            refine oc g_sk ?_
            refine oc g_pk ?_
            refine oc g_mv ?_
            refine oc g_mv ?_
            refine oc (g_bn (fun uZ => gtr_i _ _ (k : Int) 0 _ uZ hz2)) ?_
            refine oc g_mv ?_
            refine oc (g_fd (fun uZ => fdC1 _ uZ)) ?_
            refine oc (g_lo 0 4 uN iN) ?_
            refine oc g_mv ?_
            refine oc g_mv ?_
            refine oc (g_bn (fun uZ => sub_i _ _ (k : Int) 1 ((k - 1 : Nat) : Int) uZ hz3 (by omega) (by omega))) ?_
            refine oc (g_ix (fun uZ => hX2.out uZ)) ?_
            refine oc (g_fd (fun uZ => fdCx _ _ uZ)) ?_
            refine oc (g_lf hR2.out hg uN iN) ?_
            refine oc (g_bn (fun uZ => eql_n _ _ hf hn' _ hkd uZ)) ?_
            refine oc g_pk ?_
            refine oc g_pk ?_
            exact oc g_as on
          intro u4 HB4 sz4 K4
          simp only [fX, nK, nP, Wr.f, aK, pM] at K4
          simp only [setG, setN, List.set_cons_zero, List.set_cons_succ]
          clear K3 HB3
          obtain ⟨s, hs⟩ : ∃ s, stB n f a = s := ⟨_, rfl⟩
          have hst : Hid (∀ u, Calls Try.prog 11 #[CX n f a] u fun e u' => e = .returned (.bool s) ∧ Below u.heap.size u u') := fun u => by rw [← hs]; exact cStep n f a u hn hf ha
          cases s
          · skip
            have hFF : cfB cs = false := hF (by rw [hs, Bool.and_false])
            go_upto_region 5 with fail
            refine rgP K4 HB4 HB4.size [] [] [(0, 35, .bool true), (1, 36, .bool false), (2, 37, .bool false), (3, 38, CX (n) (f) (a)), (4, 39, .bool false), (5, 40, .bool true), (6, 41, .bool true)] [] [] [false] ?_ ?_
            · refine oc g_mv ?_
              refine oc (g_un (fun uZ => rfl)) ?_
              refine oc g_mv ?_
              refine oc (g_ld 0 Try.underlying26 info_api_Cert) ?_
              refine oc (g_cl ent_cert_Step (fun uZ => hst.out uZ)) ?_
              refine oc (g_un (fun uZ => rfl)) ?_
              exact oc g_pk on
            intro u5 HB5 sz5 K5
            simp only [fX, nK, nP, Wr.f, aK, pM] at K5
            simp only [setG, setN, List.set_cons_zero, List.set_cons_succ]
            clear K4 HB4
            go_upto_region 6 with fail
            refine rgP K5 HB5 HB5.size [] [] [(0, 2, (Go.Value.bool Bool.false))] [] [] [] ?_ ?_
            · exact oc g_as on
            intro u6 HB6 sz6 K6
            simp only [fX, nK, nP, Wr.f, aK, pM] at K6
            simp only [setG, setN, List.set_cons_zero, List.set_cons_succ]
            clear K5 HB5
            go_wp2
            refine bodyPost_ret (v := .bool false) (by simp [results, Try.results36, go_sem, ]) rfl ⟨by first | rfl | rw [hFF], HB6⟩
          · skip
            go_upto_region 5 with fail
            refine rgP K4 HB4 HB4.size [] [] [(0, 35, .bool true), (1, 36, .bool false), (2, 37, .bool false), (3, 38, CX (n) (f) (a)), (4, 39, .bool true), (5, 40, .bool false), (6, 41, .bool false)] [] [] [false] ?_ ?_
            · refine oc g_mv ?_
              refine oc (g_un (fun uZ => rfl)) ?_
              refine oc g_mv ?_
              refine oc (g_ld 0 Try.underlying26 info_api_Cert) ?_
              refine oc (g_cl ent_cert_Step (fun uZ => hst.out uZ)) ?_
              refine oc (g_un (fun uZ => rfl)) ?_
              exact oc g_pk on
            intro u5 HB5 sz5 K5
            simp only [fX, nK, nP, Wr.f, aK, pM] at K5
            simp only [setG, setN, List.set_cons_zero, List.set_cons_succ]
            clear K4 HB4
            go_upto_region 7 with fail
            refine rgP K5 HB5 HB5.size [] [] [(0, 42, .int .i64 ((k + 1 : Nat) : Int)), (1, 8, .int .i64 ((k + 1 : Nat) : Int))] [(1, 0)] [(1, 8)] [] ?_ ?_
            · refine oc (g_bn (fun uZ => add_i _ _ (k : Int) 1 ((k + 1 : Nat) : Int) uZ (by omega) (by omega) (by omega))) ?_
              exact oc g_mv on
            intro u6 HB6 sz6 K6
            simp only [fX, nK, nP, Wr.f, aK, pM] at K6
            simp only [setG, setN, List.set_cons_zero, List.set_cons_succ]
            clear K5 HB5
            go_wp2
            refine ⟨⟨k + 1, by omega, rfl, (by rw [hT, hkn, hs]; rfl), HB6⟩, ?_⟩
            simp [intOf] <;> omega
    · have hl1 : decide ((k : Int) < (cs.length : Int)) = false := by simp; omega
      have hkn : k = cs.length := by omega
      obtain ⟨b, hb⟩ : ∃ b, decide (0 < (cs.length : Int)) = b := ⟨_, rfl⟩
      have hE : cfB cs = b := by rw [cfB, ← hkn, hA.out, Bool.true_and, ← hb, hkn]; simp
      have K1_2 := Bk.nil (w.heap.size) wr
      go_upto_region 2 with fail
      refine rgP K1_2 HBr HBr.size [] [] [(0, 9, .bool false)] [] [] [] ?_ ?_
      · exact oc (g_bn (fun uZ => lss_i _ _ (k : Int) (cs.length : Int) _ uZ hl1)) on
      intro u2 HB2 sz2 K2
      simp only [fX, nK, nP, Wr.f, aK, pM] at K2
      simp only [setG, setN, List.set_cons_zero, List.set_cons_succ]
      go_upto_region 8 with fail
      refine rgP K2 HB2 HB2.size [] [] [(0, 43, .slice sl cs.length cap), (1, 44, .int .i64 (cs.length : Int)), (2, 45, .bool b), (3, 2, .bool b)] [] [] [] ?_ ?_
      · refine oc g_mv ?_
        refine oc (g_ln Try.underlying31) ?_
        refine oc (g_bn (fun uZ => gtr_i _ _ (cs.length : Int) 0 _ uZ hb)) ?_
        exact oc g_as on
      intro u3 HB3 sz3 K3
      simp only [fX, nK, nP, Wr.f, aK, pM] at K3
      simp only [setG, setN, List.set_cons_zero, List.set_cons_succ]
      clear K2 HB2
      go_wp2
      refine bodyPost_ret (v := .bool b) (by simp [results, Try.results36, go_sem, ]) rfl ⟨by rw [hE], HB3⟩
end Go.Proofs.Ytgfggkinmhhdnaa
