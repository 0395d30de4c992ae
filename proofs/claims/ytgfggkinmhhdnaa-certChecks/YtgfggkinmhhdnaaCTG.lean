import Derived.Test.YtgfggkinmhhdnaaRC
import Derived.Test.YtgfggkinmhhdnaaCTD
import Derived.Test.YtgfggkinmhhdnaaCT8
import Derived.Test.YtgfggkinmhhdnaaOC
/- Primes that are certified: groups. -/
namespace Go.Proofs.Ytgfggkinmhhdnaa
open Go.RowKit
set_option linter.unusedVariables false
set_option linter.unusedSimpArgs false
theorem info_api_Group : (Try.prog.info? 33).map (·.size) = some 16 := by kernel_rfl
theorem fdG0 (b : Nat) (w : World) : (Instr.fieldAt 33 (.pointer (some ⟨b, 0, none⟩)) 0).run Try.prog w = .ok (.pointer (some ⟨b, 0, none⟩)) w := by go_simp
theorem fdG1 (b : Nat) (w : World) : (Instr.fieldAt 33 (.pointer (some ⟨b, 0, none⟩)) 1).run Try.prog w = .ok (.pointer (some ⟨b, 4, none⟩)) w := by go_simp
theorem fdG2 (b : Nat) (w : World) : (Instr.fieldAt 33 (.pointer (some ⟨b, 0, none⟩)) 2).run Try.prog w = .ok (.pointer (some ⟨b, 8, none⟩)) w := by go_simp
theorem fdG3 (b : Nat) (w : World) : (Instr.fieldAt 33 (.pointer (some ⟨b, 0, none⟩)) 3).run Try.prog w = .ok (.pointer (some ⟨b, 12, none⟩)) w := by go_simp
set_option maxRecDepth 100000 in
set_option maxHeartbeats 1000000 in
theorem eql_w8 (p q : Operand) (a b c d e f g h a' b' c' d' e' f' g' h' : Int) (w : World) : (do eqGuard .eql 45 p q (A8 a b c d e f g h) (A8 a' b' c' d' e' f' g' h'); binOp .eql 45 (A8 a b c d e f g h) (A8 a' b' c' d' e' f' g' h') : Sem Value).run Try.prog w = .ok (.bool (eq8 a b c d e f g h a' b' c' d' e' f' g' h')) w := by
  go_simp
theorem eql_ww (p q : Operand) {n m : Int} (hn : In n) (hm : In m) (b : Bool) (hb : decide (n = m) = b) (w : World) : (do eqGuard .eql 45 p q (WV n) (WV m); binOp .eql 45 (WV n) (WV m) : Sem Value).run Try.prog w = .ok (.bool b) w := by
  have e1 : D4 n = 0 := by unfold D4; exact Int.ediv_eq_zero_of_lt hn.1 hn.2
  have e2 : D4 m = 0 := by unfold D4; exact Int.ediv_eq_zero_of_lt hm.1 hm.2
  rw [eql_w8, ← hb, ← eq4_N hn hm, e1, e2]
  simp [eq8, eq4]
/-- P is 2 Q and 1. -/
def twB (p q : Int) : Bool := decide (p = 2 * q + 1)
theorem tw_iff (p q : Int) : (decide (p / 2 = q) && decide (p % 2 = 1)) = twB p q := by
  unfold twB; rw [Bool.eq_iff_iff]; simp; omega
set_option maxRecDepth 100000 in
set_option maxHeartbeats 4000000 in
theorem ctwice_false (p q : Int) (b2 : Bool) (w : World) (hp : In p) (hq : In q) (ih : In (p / 2)) (h1 : decide (p / 2 = q) = false) (h2 : decide (p % 2 = 1) = b2) :
    Calls Try.prog 37 #[NV p, NV q] w fun e w' => e = .returned (.bool false) ∧ Below w.heap.size w w' := by
  go_enter Try.func37, Try.ntmps37
  go_upto_region 1 with fail
  generalize hC : ((w.alloc (.cells (LN p : List Value).toArray 24)).alloc (.cells (LN q : List Value).toArray 24)) = v0 at *
  have HB0 : Below w.heap.size w v0 := by rw [← hC]; exact balloc (balloc (bself w) _) _
  have K0 : Bk w.heap.size v0 [(true, w.heap.size, LN p), (true, w.heap.size + 1, LN q)] := by rw [← hC]; exact (Bk.nil _ w).ad.ad
  clear hC
  refine rgP K0 HB0 HB0.size [] [(8, 5, L0w, some (10, LW (p / 2))), (9, 6, L0s, some (11, LN (p % 2)))] [(0, 9, NV p), (1, 10, WV p), (2, 11, NV 2), (3, 12, .tuple #[WV (p / 2), NV (p % 2), .int .i64 0]), (4, 8, .tuple #[WV (p / 2), NV (p % 2), .int .i64 0]), (5, 13, WV (p / 2)), (6, 14, NV (p % 2)), (7, 15, .int .i64 0), (12, 7, .int .i64 0)] [(10, 8), (11, 9)] [] [false, true, true, false] ?_ ?_
  · refine oc (g_ld 0 uN iN) ?_
    refine oc (g_cl ent_limb_Widen (fun uZ => nWiden p uZ hp)) ?_
    refine oc (g_cl ent_limb_Of (fun uZ => nOf 2 uZ (by omega) (by omega))) ?_
    refine oc (g_cl ent_limb_Divide (fun uZ => nDivide p 2 uZ hp.wide In_2 (by omega))) ?_
    refine oc g_mv ?_
    refine oc g_ex ?_
    refine oc g_ex ?_
    refine oc g_ex ?_
    refine oc (g_al 0 aW) ?_
    refine oc (g_al 1 aN) ?_
    refine oc (g_sn 0 iW) ?_
    refine oc (g_sn 1 iN) ?_
    exact oc g_as on
  intro u1 b1_8 b1_9 HB1 sz1 K1
  simp only [fX, nK, nP, Wr.f, aK, pM] at K1
  simp only [setG, setN, List.set_cons_zero, List.set_cons_succ]
  clear K0 HB0
  go_upto_region 2 with fail
  refine rgD K1 HB1 HB1.size [] [] [(0, 16, WV (p / 2)), (1, 17, NV q), (2, 18, WV q), (3, 19, .bool false), (4, 20, .bool false), (5, 21, undef), (6, 22, undef), (7, 23, undef), (8, 24, (Go.Value.bool Bool.false)), (9, 4, (Go.Value.bool Bool.false))] [] [] [false, false] ?_ ?_
  · refine oc (g_ld 1 uW iW) ?_
    refine oc (g_ld 0 uN iN) ?_
    refine oc (g_cl ent_limb_Widen (fun uZ => nWiden q uZ hq)) ?_
    refine oc (g_bn (fun uZ => eql_ww _ _ ih hq _ h1 uZ)) ?_
    refine oc g_mv ?_
    refine oc g_sk ?_
    refine oc g_sk ?_
    refine oc g_sk ?_
    refine oc g_pk ?_
    exact oc g_as on
  intro u2 HB2 sz2 K2
  simp only [fX, nK, nP, Wr.f, aK, pM] at K2
  simp only [setG, setN, List.set_cons_zero, List.set_cons_succ]
  clear K1 HB1
  go_wp2
  refine bodyPost_ret (v := .bool false) (by simp [results, Try.results37, go_sem, ]) rfl ⟨by first | rfl | rw [← hE], HB2⟩
set_option maxRecDepth 100000 in
set_option maxHeartbeats 4000000 in
theorem ctwice_true (p q : Int) (b2 : Bool) (w : World) (hp : In p) (hq : In q) (ih : In (p / 2)) (h1 : decide (p / 2 = q) = true) (h2 : decide (p % 2 = 1) = b2) :
    Calls Try.prog 37 #[NV p, NV q] w fun e w' => e = .returned (.bool b2) ∧ Below w.heap.size w w' := by
  go_enter Try.func37, Try.ntmps37
  go_upto_region 1 with fail
  generalize hC : ((w.alloc (.cells (LN p : List Value).toArray 24)).alloc (.cells (LN q : List Value).toArray 24)) = v0 at *
  have HB0 : Below w.heap.size w v0 := by rw [← hC]; exact balloc (balloc (bself w) _) _
  have K0 : Bk w.heap.size v0 [(true, w.heap.size, LN p), (true, w.heap.size + 1, LN q)] := by rw [← hC]; exact (Bk.nil _ w).ad.ad
  clear hC
  refine rgP K0 HB0 HB0.size [] [(8, 5, L0w, some (10, LW (p / 2))), (9, 6, L0s, some (11, LN (p % 2)))] [(0, 9, NV p), (1, 10, WV p), (2, 11, NV 2), (3, 12, .tuple #[WV (p / 2), NV (p % 2), .int .i64 0]), (4, 8, .tuple #[WV (p / 2), NV (p % 2), .int .i64 0]), (5, 13, WV (p / 2)), (6, 14, NV (p % 2)), (7, 15, .int .i64 0), (12, 7, .int .i64 0)] [(10, 8), (11, 9)] [] [false] ?_ ?_
  · refine oc (g_ld 0 uN iN) ?_
    refine oc (g_cl ent_limb_Widen (fun uZ => nWiden p uZ hp)) ?_
    refine oc (g_cl ent_limb_Of (fun uZ => nOf 2 uZ (by omega) (by omega))) ?_
    refine oc (g_cl ent_limb_Divide (fun uZ => nDivide p 2 uZ hp.wide In_2 (by omega))) ?_
    refine oc g_mv ?_
    refine oc g_ex ?_
    refine oc g_ex ?_
    refine oc g_ex ?_
    refine oc (g_al 0 aW) ?_
    refine oc (g_al 1 aN) ?_
    refine oc (g_sn 0 iW) ?_
    refine oc (g_sn 1 iN) ?_
    exact oc g_as on
  intro u1 b1_8 b1_9 HB1 sz1 K1
  simp only [fX, nK, nP, Wr.f, aK, pM] at K1
  simp only [setG, setN, List.set_cons_zero, List.set_cons_succ]
  clear K0 HB0
  go_upto_region 2 with fail
  refine rgD K1 HB1 HB1.size [] [] [(0, 16, WV (p / 2)), (1, 17, NV q), (2, 18, WV q), (3, 19, .bool true), (4, 20, .bool true), (5, 21, NV (p % 2)), (6, 22, NV 1), (7, 23, .bool b2), (8, 24, .bool b2), (9, 4, .bool b2)] [] [] [false, false, false] ?_ ?_
  · refine oc (g_ld 1 uW iW) ?_
    refine oc (g_ld 0 uN iN) ?_
    refine oc (g_cl ent_limb_Widen (fun uZ => nWiden q uZ hq)) ?_
    refine oc (g_bn (fun uZ => eql_ww _ _ ih hq _ h1 uZ)) ?_
    refine oc g_mv ?_
    refine oc (g_ld 2 uN iN) ?_
    refine oc (g_cl ent_limb_Of (fun uZ => nOf 1 uZ (by omega) (by omega))) ?_
    refine oc (g_bn (fun uZ => eql_n _ _ (In_mod In_2 (by omega)) In_1 _ h2 uZ)) ?_
    refine oc g_pk ?_
    exact oc g_as on
  intro u2 HB2 sz2 K2
  simp only [fX, nK, nP, Wr.f, aK, pM] at K2
  simp only [setG, setN, List.set_cons_zero, List.set_cons_succ]
  clear K1 HB1
  go_wp2
  refine bodyPost_ret (v := .bool b2) (by simp [results, Try.results37, go_sem, ]) rfl ⟨by first | rfl | rw [← hE], HB2⟩
theorem cTwice (p q : Int) (w : World) (hp : In p) (hq : In q) : Calls Try.prog 37 #[NV p, NV q] w fun e w' => e = .returned (.bool (twB p q)) ∧ Below w.heap.size w w' := by
  have ih : In (p / 2) := ⟨by have := hp.1; omega, by have := hp.2; have := hp.1; omega⟩
  rw [← tw_iff]
  cases h1 : decide (p / 2 = q) with
  | false => exact ctwice_false p q _ w hp hq ih h1 rfl
  | true => rw [Bool.true_and]; exact ctwice_true p q _ w hp hq ih h1 rfl
/-- May a be one of the two members? -/
def gnB (a p q : Int) : Bool := decide (1 < a ∧ a < p - 1 ∧ a ^ q.toNat % p = 1)
set_option maxRecDepth 100000 in
set_option maxHeartbeats 4000000 in
theorem cgen_0 (a p q g h : Int) (w : World) (hp : In p) (hq : In q) (ip : In (p - 1)) (ha : In a) (h0 : decide (a = 0) = true) :
    Calls Try.prog 38 #[NV a, GX p q g h] w fun e w' => e = .returned (.bool false) ∧ Below w.heap.size w w' := by
  go_enter Try.func38, Try.ntmps38
  go_upto_region 1 with fail
  generalize hC : ((w.alloc (.cells (LN a : List Value).toArray 24)).alloc (.cells (GE (p) (q) (g) (h) : List Value).toArray 33)) = v0 at *
  have HB0 : Below w.heap.size w v0 := by rw [← hC]; exact balloc (balloc (bself w) _) _
  have K0 : Bk w.heap.size v0 [(true, w.heap.size, LN a), (true, w.heap.size + 1, GE (p) (q) (g) (h))] := by rw [← hC]; exact (Bk.nil _ w).ad.ad
  clear hC
  refine rgP K0 HB0 HB0.size [] [(1, 5, L0s, some (2, LN 1))] [(0, 10, NV 1)] [(2, 1)] [] [] ?_ ?_
  · refine oc (g_cl ent_limb_Of (fun uZ => nOf 1 uZ (by omega) (by omega))) ?_
    refine oc (g_al 0 aN) ?_
    exact oc (g_sn 0 iN) on
  intro u1 b1_1 HB1 sz1 K1
  simp only [fX, nK, nP, Wr.f, aK, pM] at K1
  simp only [setG, setN, List.set_cons_zero, List.set_cons_succ]
  clear K0 HB0
  go_upto_region 2 with fail
  refine rgP K1 HB1 HB1.size [] [(7, 6, L0s, some (8, LN (p - 1)))] [(0, 12, .pointer (some ⟨w.heap.size + 1, 0, none⟩)), (1, 13, NV p), (2, 14, NV 1), (3, 15, .tuple #[NV (p - 1), .bool (ltB p 1)]), (4, 11, .tuple #[NV (p - 1), .bool (ltB p 1)]), (5, 16, NV (p - 1)), (6, 17, .bool (ltB p 1)), (9, 7, .bool (ltB p 1))] [(8, 7)] [] [true, false, false, false] ?_ ?_
  · refine oc (g_fd (fun uZ => fdG0 _ uZ)) ?_
    refine oc (g_lo 1 0 uN iN) ?_
    refine oc (g_ld 2 uN iN) ?_
    refine oc (g_cl ent_limb_Sub (fun uZ => nSub p 1 uZ hp In_1)) ?_
    refine oc g_mv ?_
    refine oc g_ex ?_
    refine oc g_ex ?_
    refine oc (g_al 0 aN) ?_
    refine oc (g_sn 0 iN) ?_
    exact oc g_as on
  intro u2 b2_7 HB2 sz2 K2
  simp only [fX, nK, nP, Wr.f, aK, pM] at K2
  simp only [setG, setN, List.set_cons_zero, List.set_cons_succ]
  clear K1 HB1
  go_upto_region 3 with fail
  refine rgP K2 HB2 HB2.size [] [] [(0, 18, NV a), (1, 19, A4 (0) (0) (0) (0)), (2, 20, .bool true), (3, 21, .bool true), (4, 22, undef), (5, 23, undef), (6, 24, undef), (7, 25, (Go.Value.bool Bool.true)), (8, 26, (Go.Value.bool Bool.true)), (9, 27, undef), (10, 28, undef), (11, 29, undef), (12, 30, undef), (13, 31, (Go.Value.bool Bool.true))] [] [] [false] ?_ ?_
  · refine oc (g_ld 0 uN iN) ?_
    refine oc (g_bd zN) ?_
    refine oc (g_bn (fun uZ => eql_0 _ _ ha _ h0 uZ)) ?_
    refine oc g_mv ?_
    refine oc g_sk ?_
    refine oc g_sk ?_
    refine oc g_sk ?_
    refine oc g_pk ?_
    refine oc g_mv ?_
    refine oc g_sk ?_
    refine oc g_sk ?_
    refine oc g_sk ?_
    refine oc g_sk ?_
    exact oc g_pk on
  intro u3 HB3 sz3 K3
  simp only [fX, nK, nP, Wr.f, aK, pM] at K3
  simp only [setG, setN, List.set_cons_zero, List.set_cons_succ]
  clear K2 HB2
  go_upto_region 4 with fail
  refine rgP K3 HB3 HB3.size [] [] [(0, 4, (Go.Value.bool Bool.false))] [] [] [] ?_ ?_
  · exact oc g_as on
  intro u4 HB4 sz4 K4
  simp only [fX, nK, nP, Wr.f, aK, pM] at K4
  simp only [setG, setN, List.set_cons_zero, List.set_cons_succ]
  clear K3 HB3
  go_wp2
  refine bodyPost_ret (v := .bool false) (by simp [results, Try.results38, go_sem, ]) rfl ⟨rfl, HB4⟩
set_option maxRecDepth 100000 in
set_option maxHeartbeats 4000000 in
theorem cgen_1 (a p q g h : Int) (w : World) (hp : In p) (hq : In q) (ip : In (p - 1)) (ha : In a) (h0 : decide (a = 0) = false)(h1 : decide (a = 1) = true) :
    Calls Try.prog 38 #[NV a, GX p q g h] w fun e w' => e = .returned (.bool false) ∧ Below w.heap.size w w' := by
  go_enter Try.func38, Try.ntmps38
  go_upto_region 1 with fail
  generalize hC : ((w.alloc (.cells (LN a : List Value).toArray 24)).alloc (.cells (GE (p) (q) (g) (h) : List Value).toArray 33)) = v0 at *
  have HB0 : Below w.heap.size w v0 := by rw [← hC]; exact balloc (balloc (bself w) _) _
  have K0 : Bk w.heap.size v0 [(true, w.heap.size, LN a), (true, w.heap.size + 1, GE (p) (q) (g) (h))] := by rw [← hC]; exact (Bk.nil _ w).ad.ad
  clear hC
  refine rgP K0 HB0 HB0.size [] [(1, 5, L0s, some (2, LN 1))] [(0, 10, NV 1)] [(2, 1)] [] [] ?_ ?_
  · refine oc (g_cl ent_limb_Of (fun uZ => nOf 1 uZ (by omega) (by omega))) ?_
    refine oc (g_al 0 aN) ?_
    exact oc (g_sn 0 iN) on
  intro u1 b1_1 HB1 sz1 K1
  simp only [fX, nK, nP, Wr.f, aK, pM] at K1
  simp only [setG, setN, List.set_cons_zero, List.set_cons_succ]
  clear K0 HB0
  go_upto_region 2 with fail
  refine rgP K1 HB1 HB1.size [] [(7, 6, L0s, some (8, LN (p - 1)))] [(0, 12, .pointer (some ⟨w.heap.size + 1, 0, none⟩)), (1, 13, NV p), (2, 14, NV 1), (3, 15, .tuple #[NV (p - 1), .bool (ltB p 1)]), (4, 11, .tuple #[NV (p - 1), .bool (ltB p 1)]), (5, 16, NV (p - 1)), (6, 17, .bool (ltB p 1)), (9, 7, .bool (ltB p 1))] [(8, 7)] [] [true, false, true, false] ?_ ?_
  · refine oc (g_fd (fun uZ => fdG0 _ uZ)) ?_
    refine oc (g_lo 1 0 uN iN) ?_
    refine oc (g_ld 2 uN iN) ?_
    refine oc (g_cl ent_limb_Sub (fun uZ => nSub p 1 uZ hp In_1)) ?_
    refine oc g_mv ?_
    refine oc g_ex ?_
    refine oc g_ex ?_
    refine oc (g_al 0 aN) ?_
    refine oc (g_sn 0 iN) ?_
    exact oc g_as on
  intro u2 b2_7 HB2 sz2 K2
  simp only [fX, nK, nP, Wr.f, aK, pM] at K2
  simp only [setG, setN, List.set_cons_zero, List.set_cons_succ]
  clear K1 HB1
  go_upto_region 3 with fail
  refine rgP K2 HB2 HB2.size [] [] [(0, 18, NV a), (1, 19, A4 (0) (0) (0) (0)), (2, 20, .bool false), (3, 21, .bool false), (4, 22, NV a), (5, 23, NV 1), (6, 24, .bool true), (7, 25, .bool true), (8, 26, .bool true), (9, 27, undef), (10, 28, undef), (11, 29, undef), (12, 30, undef), (13, 31, (Go.Value.bool Bool.true))] [] [] [false, false] ?_ ?_
  · refine oc (g_ld 0 uN iN) ?_
    refine oc (g_bd zN) ?_
    refine oc (g_bn (fun uZ => eql_0 _ _ ha _ h0 uZ)) ?_
    refine oc g_mv ?_
    refine oc (g_ld 0 uN iN) ?_
    refine oc (g_ld 1 uN iN) ?_
    refine oc (g_bn (fun uZ => eql_n _ _ ha In_1 _ h1 uZ)) ?_
    refine oc g_pk ?_
    refine oc g_mv ?_
    refine oc g_sk ?_
    refine oc g_sk ?_
    refine oc g_sk ?_
    refine oc g_sk ?_
    exact oc g_pk on
  intro u3 HB3 sz3 K3
  simp only [fX, nK, nP, Wr.f, aK, pM] at K3
  simp only [setG, setN, List.set_cons_zero, List.set_cons_succ]
  clear K2 HB2
  go_upto_region 4 with fail
  refine rgP K3 HB3 HB3.size [] [] [(0, 4, (Go.Value.bool Bool.false))] [] [] [] ?_ ?_
  · exact oc g_as on
  intro u4 HB4 sz4 K4
  simp only [fX, nK, nP, Wr.f, aK, pM] at K4
  simp only [setG, setN, List.set_cons_zero, List.set_cons_succ]
  clear K3 HB3
  go_wp2
  refine bodyPost_ret (v := .bool false) (by simp [results, Try.results38, go_sem, ]) rfl ⟨rfl, HB4⟩
set_option maxRecDepth 100000 in
set_option maxHeartbeats 4000000 in
theorem cgen_hi (a p q g h : Int) (w : World) (hp : In p) (hq : In q) (ip : In (p - 1)) (ha : In a) (h0 : decide (a = 0) = false)(h1 : decide (a = 1) = false)(h2 : decide (0 ≤ cmpI a (p - 1)) = true) :
    Calls Try.prog 38 #[NV a, GX p q g h] w fun e w' => e = .returned (.bool false) ∧ Below w.heap.size w w' := by
  go_enter Try.func38, Try.ntmps38
  go_upto_region 1 with fail
  generalize hC : ((w.alloc (.cells (LN a : List Value).toArray 24)).alloc (.cells (GE (p) (q) (g) (h) : List Value).toArray 33)) = v0 at *
  have HB0 : Below w.heap.size w v0 := by rw [← hC]; exact balloc (balloc (bself w) _) _
  have K0 : Bk w.heap.size v0 [(true, w.heap.size, LN a), (true, w.heap.size + 1, GE (p) (q) (g) (h))] := by rw [← hC]; exact (Bk.nil _ w).ad.ad
  clear hC
  refine rgP K0 HB0 HB0.size [] [(1, 5, L0s, some (2, LN 1))] [(0, 10, NV 1)] [(2, 1)] [] [] ?_ ?_
  · refine oc (g_cl ent_limb_Of (fun uZ => nOf 1 uZ (by omega) (by omega))) ?_
    refine oc (g_al 0 aN) ?_
    exact oc (g_sn 0 iN) on
  intro u1 b1_1 HB1 sz1 K1
  simp only [fX, nK, nP, Wr.f, aK, pM] at K1
  simp only [setG, setN, List.set_cons_zero, List.set_cons_succ]
  clear K0 HB0
  go_upto_region 2 with fail
  refine rgP K1 HB1 HB1.size [] [(7, 6, L0s, some (8, LN (p - 1)))] [(0, 12, .pointer (some ⟨w.heap.size + 1, 0, none⟩)), (1, 13, NV p), (2, 14, NV 1), (3, 15, .tuple #[NV (p - 1), .bool (ltB p 1)]), (4, 11, .tuple #[NV (p - 1), .bool (ltB p 1)]), (5, 16, NV (p - 1)), (6, 17, .bool (ltB p 1)), (9, 7, .bool (ltB p 1))] [(8, 7)] [] [true, false] ?_ ?_
  · refine oc (g_fd (fun uZ => fdG0 _ uZ)) ?_
    refine oc (g_lo 1 0 uN iN) ?_
    refine oc (g_ld 2 uN iN) ?_
    refine oc (g_cl ent_limb_Sub (fun uZ => nSub p 1 uZ hp In_1)) ?_
    refine oc g_mv ?_
    refine oc g_ex ?_
    refine oc g_ex ?_
    refine oc (g_al 0 aN) ?_
    refine oc (g_sn 0 iN) ?_
    exact oc g_as on
  intro u2 b2_7 HB2 sz2 K2
  simp only [fX, nK, nP, Wr.f, aK, pM] at K2
  simp only [setG, setN, List.set_cons_zero, List.set_cons_succ]
  clear K1 HB1
  go_upto_region 3 with fail
  refine rgP K2 HB2 HB2.size [] [] [(0, 18, NV a), (1, 19, A4 (0) (0) (0) (0)), (2, 20, .bool false), (3, 21, .bool false), (4, 22, NV a), (5, 23, NV 1), (6, 24, .bool false), (7, 25, .bool false), (8, 26, .bool false), (9, 27, NV a), (10, 28, NV (p - 1)), (11, 29, .int .i64 (cmpI a (p - 1))), (12, 30, .bool true), (13, 31, .bool true)] [] [] [false, false, false] ?_ ?_
  · refine oc (g_ld 0 uN iN) ?_
    refine oc (g_bd zN) ?_
    refine oc (g_bn (fun uZ => eql_0 _ _ ha _ h0 uZ)) ?_
    refine oc g_mv ?_
    refine oc (g_ld 0 uN iN) ?_
    refine oc (g_ld 1 uN iN) ?_
    refine oc (g_bn (fun uZ => eql_n _ _ ha In_1 _ h1 uZ)) ?_
    refine oc g_pk ?_
    refine oc g_mv ?_
    refine oc (g_ld 0 uN iN) ?_
    refine oc (g_ld 2 uN iN) ?_
    refine oc (g_cl ent_limb_Compare (fun uZ => nCompare a (p - 1) uZ ha ip)) ?_
    refine oc (g_bn (fun uZ => geq_i _ _ (cmpI a (p - 1)) 0 _ uZ h2)) ?_
    exact oc g_pk on
  intro u3 HB3 sz3 K3
  simp only [fX, nK, nP, Wr.f, aK, pM] at K3
  simp only [setG, setN, List.set_cons_zero, List.set_cons_succ]
  clear K2 HB2
  go_upto_region 4 with fail
  refine rgP K3 HB3 HB3.size [] [] [(0, 4, (Go.Value.bool Bool.false))] [] [] [] ?_ ?_
  · exact oc g_as on
  intro u4 HB4 sz4 K4
  simp only [fX, nK, nP, Wr.f, aK, pM] at K4
  simp only [setG, setN, List.set_cons_zero, List.set_cons_succ]
  clear K3 HB3
  go_wp2
  refine bodyPost_ret (v := .bool false) (by simp [results, Try.results38, go_sem, ]) rfl ⟨rfl, HB4⟩
set_option maxRecDepth 100000 in
set_option maxHeartbeats 4000000 in
theorem cgen_go (a p q g h : Int) (w : World) (hp : In p) (hq : In q) (ip : In (p - 1)) (ha : In a) (b : Bool)(h0 : decide (a = 0) = false)(h1 : decide (a = 1) = false)(h2 : decide (0 ≤ cmpI a (p - 1)) = false)(hp0 : p ≠ 0) (h3 : decide (a ^ q.toNat % p = 1) = b) :
    Calls Try.prog 38 #[NV a, GX p q g h] w fun e w' => e = .returned (.bool b) ∧ Below w.heap.size w w' := by
  go_enter Try.func38, Try.ntmps38
  go_upto_region 1 with fail
  generalize hC : ((w.alloc (.cells (LN a : List Value).toArray 24)).alloc (.cells (GE (p) (q) (g) (h) : List Value).toArray 33)) = v0 at *
  have HB0 : Below w.heap.size w v0 := by rw [← hC]; exact balloc (balloc (bself w) _) _
  have K0 : Bk w.heap.size v0 [(true, w.heap.size, LN a), (true, w.heap.size + 1, GE (p) (q) (g) (h))] := by rw [← hC]; exact (Bk.nil _ w).ad.ad
  clear hC
  refine rgP K0 HB0 HB0.size [] [(1, 5, L0s, some (2, LN 1))] [(0, 10, NV 1)] [(2, 1)] [] [] ?_ ?_
  · refine oc (g_cl ent_limb_Of (fun uZ => nOf 1 uZ (by omega) (by omega))) ?_
    refine oc (g_al 0 aN) ?_
    exact oc (g_sn 0 iN) on
  intro u1 b1_1 HB1 sz1 K1
  simp only [fX, nK, nP, Wr.f, aK, pM] at K1
  simp only [setG, setN, List.set_cons_zero, List.set_cons_succ]
  clear K0 HB0
  go_upto_region 2 with fail
  refine rgP K1 HB1 HB1.size [] [(7, 6, L0s, some (8, LN (p - 1)))] [(0, 12, .pointer (some ⟨w.heap.size + 1, 0, none⟩)), (1, 13, NV p), (2, 14, NV 1), (3, 15, .tuple #[NV (p - 1), .bool (ltB p 1)]), (4, 11, .tuple #[NV (p - 1), .bool (ltB p 1)]), (5, 16, NV (p - 1)), (6, 17, .bool (ltB p 1)), (9, 7, .bool (ltB p 1))] [(8, 7)] [] [] ?_ ?_
  · refine oc (g_fd (fun uZ => fdG0 _ uZ)) ?_
    refine oc (g_lo 1 0 uN iN) ?_
    refine oc (g_ld 2 uN iN) ?_
    refine oc (g_cl ent_limb_Sub (fun uZ => nSub p 1 uZ hp In_1)) ?_
    refine oc g_mv ?_
    refine oc g_ex ?_
    refine oc g_ex ?_
    refine oc (g_al 0 aN) ?_
    refine oc (g_sn 0 iN) ?_
    exact oc g_as on
  intro u2 b2_7 HB2 sz2 K2
  simp only [fX, nK, nP, Wr.f, aK, pM] at K2
  simp only [setG, setN, List.set_cons_zero, List.set_cons_succ]
  clear K1 HB1
  go_upto_region 3 with fail
  refine rgP K2 HB2 HB2.size [] [] [(0, 18, NV a), (1, 19, A4 (0) (0) (0) (0)), (2, 20, .bool false), (3, 21, .bool false), (4, 22, NV a), (5, 23, NV 1), (6, 24, .bool false), (7, 25, .bool false), (8, 26, .bool false), (9, 27, NV a), (10, 28, NV (p - 1)), (11, 29, .int .i64 (cmpI a (p - 1))), (12, 30, .bool false), (13, 31, .bool false)] [] [] [true, true, true, false] ?_ ?_
  · refine oc (g_ld 0 uN iN) ?_
    refine oc (g_bd zN) ?_
    refine oc (g_bn (fun uZ => eql_0 _ _ ha _ h0 uZ)) ?_
    refine oc g_mv ?_
    refine oc (g_ld 0 uN iN) ?_
    refine oc (g_ld 2 uN iN) ?_
    refine oc (g_bn (fun uZ => eql_n _ _ ha In_1 _ h1 uZ)) ?_
    refine oc g_pk ?_
    refine oc g_mv ?_
    refine oc (g_ld 0 uN iN) ?_
    refine oc (g_ld 3 uN iN) ?_
    refine oc (g_cl ent_limb_Compare (fun uZ => nCompare a (p - 1) uZ ha ip)) ?_
    refine oc (g_bn (fun uZ => geq_i _ _ (cmpI a (p - 1)) 0 _ uZ h2)) ?_
    exact oc g_pk on
  intro u3 HB3 sz3 K3
  simp only [fX, nK, nP, Wr.f, aK, pM] at K3
  simp only [setG, setN, List.set_cons_zero, List.set_cons_succ]
  clear K2 HB2
  go_upto_region 5 with fail
  refine rgP K3 HB3 HB3.size [] [(9, 8, L0s, some (10, LN (a ^ q.toNat % p)))] [(0, 33, NV a), (1, 34, .pointer (some ⟨w.heap.size + 1, 4, none⟩)), (2, 35, NV q), (3, 36, .pointer (some ⟨w.heap.size + 1, 0, none⟩)), (4, 37, NV p), (5, 38, .tuple #[NV (a ^ q.toNat % p), .int .i64 0]), (6, 32, .tuple #[NV (a ^ q.toNat % p), .int .i64 0]), (7, 39, NV (a ^ q.toNat % p)), (8, 40, .int .i64 0), (11, 9, .int .i64 0)] [(10, 9)] [] [false, false] ?_ ?_
  · refine oc (g_ld 0 uN iN) ?_
    refine oc (g_fd (fun uZ => fdG1 _ uZ)) ?_
    refine oc (g_lo 1 4 uN iN) ?_
    refine oc (g_fd (fun uZ => fdG0 _ uZ)) ?_
    refine oc (g_lo 1 0 uN iN) ?_
    refine oc (g_cl ent_mod_Exp (fun uZ => mExp a q p uZ ha hq hp hp0)) ?_
    refine oc g_mv ?_
    refine oc g_ex ?_
    refine oc g_ex ?_
    refine oc (g_al 0 aN) ?_
    refine oc (g_sn 0 iN) ?_
    exact oc g_as on
  intro u4 b4_9 HB4 sz4 K4
  simp only [fX, nK, nP, Wr.f, aK, pM] at K4
  simp only [setG, setN, List.set_cons_zero, List.set_cons_succ]
  clear K3 HB3
  go_upto_region 6 with fail
  refine rgP K4 HB4 HB4.size [] [] [(0, 41, NV (a ^ q.toNat % p)), (1, 42, NV 1), (2, 43, .bool b), (3, 4, .bool b)] [] [] [false, false] ?_ ?_
  · refine oc (g_ld 1 uN iN) ?_
    refine oc (g_ld 0 uN iN) ?_
    refine oc (g_bn (fun uZ => eql_n _ _ (In_mod hp hp0) In_1 _ h3 uZ)) ?_
    exact oc g_as on
  intro u5 HB5 sz5 K5
  simp only [fX, nK, nP, Wr.f, aK, pM] at K5
  simp only [setG, setN, List.set_cons_zero, List.set_cons_succ]
  clear K4 HB4
  go_wp2
  refine bodyPost_ret (v := .bool b) (by simp [results, Try.results38, go_sem, ]) rfl ⟨rfl, HB5⟩
theorem cGen (a p q g h : Int) (w : World) (hp : In p) (hq : In q) (ha : In a) (hp0 : 1 ≤ p) : Calls Try.prog 38 #[NV a, GX p q g h] w fun e w' => e = .returned (.bool (gnB a p q)) ∧ Below w.heap.size w w' := by
  have ip : In (p - 1) := ⟨by omega, by have := hp.2; omega⟩
  by_cases h0 : a = 0
  · rw [show gnB a p q = false by unfold gnB; simp; omega]
    exact cgen_0 a p q g h w hp hq ip ha (by simp [h0])
  have h0' : decide (a = 0) = false := by simp [h0]
  by_cases h1 : a = 1
  · rw [show gnB a p q = false by unfold gnB; simp; omega]
    exact cgen_1 a p q g h w hp hq ip ha h0' (by simp [h1])
  have h1' : decide (a = 1) = false := by simp [h1]
  have := ha.1
  by_cases h2 : p - 1 ≤ a
  · rw [show gnB a p q = false by unfold gnB; simp; omega]
    exact cgen_hi a p q g h w hp hq ip ha h0' h1' (by rw [cmp_ge]; simp only [h2, decide_true])
  have h2' : decide (0 ≤ cmpI a (p - 1)) = false := by rw [cmp_ge]; simp only [h2, decide_false]
  rw [show gnB a p q = decide (a ^ q.toNat % p = 1) by unfold gnB; rw [Bool.eq_iff_iff]; simp; omega]
  exact cgen_go a p q g h w hp hq ip ha _ h0' h1' h2' (by omega) rfl
theorem ent_cert_isTwiceAndOne (vs : Array Value) (w : World) : (callFunc 37 vs).run Try.prog w = .ok (.enter 37 vs) w := by kernel_rfl
theorem ent_cert_generates (vs : Array Value) (w : World) : (callFunc 38 vs).run Try.prog w = .ok (.enter 38 vs) w := by kernel_rfl
theorem ent_cert_Group (vs : Array Value) (w : World) : (callFunc 17 vs).run Try.prog w = .ok (.enter 17 vs) w := by kernel_rfl
theorem fdC1x (b x : Nat) (w : World) : (Instr.fieldAt 26 (.pointer (some ⟨b, x, none⟩)) 1).run Try.prog w = .ok (.pointer (some ⟨b, x + 4, none⟩)) w := by go_simp
theorem flC_F (cs : List (Int × Int × Int)) (j : Nat) (hj : j < cs.length) : ∀ c v, (LN (cat cs j).2.1)[c]? = some v → (flC cs)[12 * j + 4 + c]? = some v := fun c v hv => by
  have hl : c < 4 := by have := (List.getElem?_eq_some_iff.1 hv).1; simpa using this
  have := flC_get cs j (4 + c) v hj (by rcases (by omega : c = 0 ∨ c = 1 ∨ c = 2 ∨ c = 3) with rfl | rfl | rfl | rfl <;> simpa using hv)
  rwa [← Nat.add_assoc] at this
set_option maxRecDepth 100000 in
set_option maxHeartbeats 4000000 in
theorem cgroup_f (p q g h n f : Int) (b0 cap : Nat) (cs : List (Int × Int × Int)) (w : World) (hp : In p) (hq : In q) (hg : In g) (hh : In h) (hcs : cs.length ≤ 256) (hin : Hid (∀ j, j < cs.length → In (cat cs j).1 ∧ In (cat cs j).2.1 ∧ In (cat cs j).2.2)) (hlt : b0 < w.heap.size) (hcv : Hid (CV w b0 (flC cs))) (hcap : cs.length ≤ cap) (hb : cfB cs = false) :
    Calls Try.prog 17 #[GX p q g h, .slice (some ⟨b0, 0, none⟩) cs.length cap] w fun e w' => e = .returned (.int .i64 30) ∧ Below w.heap.size w w' := by
  go_enter Try.func17, Try.ntmps17
  go_upto_region 1 with fail
  generalize hC : (w.alloc (.cells (GE (p) (q) (g) (h) : List Value).toArray 33)) = v0 at *
  have HB0 : Below w.heap.size w v0 := by rw [← hC]; exact balloc (bself w) _
  have K0 : Bk w.heap.size v0 [(true, w.heap.size, GE (p) (q) (g) (h))] := by rw [← hC]; exact (Bk.nil _ w).ad
  clear hC
  refine rgP K0 HB0 HB0.size [] [(5, 5, L0s, some (6, [.int .u64 (0), .int .u64 (0), .int .u64 (0), .int .u64 (0)]))] [(0, 8, .slice (some ⟨b0, 0, none⟩) cs.length cap), (1, 9, .tuple #[A4 (0) (0) (0) (0), .int .i64 30]), (2, 7, .tuple #[A4 (0) (0) (0) (0), .int .i64 30]), (3, 10, A4 (0) (0) (0) (0)), (4, 11, .int .i64 30), (7, 6, .int .i64 30)] [(6, 5)] [] [false, false] ?_ ?_
  · refine oc g_mv ?_
    refine oc (g_cb ent_cert_Check (fun uZ bZ => cCheck_own_f cs uZ _ 0 hb hcs hin ⟨b0, cap, rfl, Nat.zero_le _, Nat.lt_of_lt_of_le hlt bZ.size, hcap, hcv.out.below bZ hlt⟩)) ?_
    refine oc g_mv ?_
    refine oc g_ex ?_
    refine oc g_ex ?_
    refine oc (g_al 0 aN) ?_
    refine oc (g_sn 0 iN) ?_
    exact oc g_as on
  intro u1 b1_5 HB1 sz1 K1
  simp only [fX, nK, nP, Wr.f, aK, pM] at K1
  simp only [setG, setN, List.set_cons_zero, List.set_cons_succ]
  clear K0 HB0
  go_upto_region 2 with fail
  refine rgP K1 HB1 HB1.size [] [] [(0, 13, .int .i64 30), (1, 14, .bool true), (2, 12, .bool true)] [] [] [] ?_ ?_
  · refine oc g_mv ?_
    refine oc (g_bn (fun uZ => neq_i _ _ _ 30 0 _ uZ rfl)) ?_
    exact oc g_as on
  intro u2 HB2 sz2 K2
  simp only [fX, nK, nP, Wr.f, aK, pM] at K2
  simp only [setG, setN, List.set_cons_zero, List.set_cons_succ]
  clear K1 HB1
  go_upto_region 3 with fail
  refine rgP K2 HB2 HB2.size [] [] [(0, 15, .int .i64 30), (1, 4, .int .i64 30)] [] [] [] ?_ ?_
  · refine oc g_mv ?_
    exact oc g_as on
  intro u3 HB3 sz3 K3
  simp only [fX, nK, nP, Wr.f, aK, pM] at K3
  simp only [setG, setN, List.set_cons_zero, List.set_cons_succ]
  clear K2 HB2
  go_wp2
  refine bodyPost_ret (v := .int .i64 30) (by simp [results, Try.results17, go_sem, ]) rfl ⟨rfl, HB3⟩
set_option maxRecDepth 100000 in
set_option maxHeartbeats 4000000 in
theorem cgroup_n (p q g h n f : Int) (b0 cap : Nat) (cs : List (Int × Int × Int)) (w : World) (hp : In p) (hq : In q) (hg : In g) (hh : In h) (hcs : cs.length ≤ 256) (hin : Hid (∀ j, j < cs.length → In (cat cs j).1 ∧ In (cat cs j).2.1 ∧ In (cat cs j).2.2)) (hlt : b0 < w.heap.size) (hcv : Hid (CV w b0 (flC cs))) (hcap : cs.length ≤ cap) (hb : cfB cs = true) (h0 : 0 < cs.length) (hlast : (cat cs (cs.length - 1)).1 = n) (hlf : Hid ((cat cs (cs.length - 1)).2.1 = f)) (hn : In n) (hf : In f)(h1 : decide (n = p) = !true) :
    Calls Try.prog 17 #[GX p q g h, .slice (some ⟨b0, 0, none⟩) cs.length cap] w fun e w' => e = .returned (.int .i64 30) ∧ Below w.heap.size w w' := by
  go_enter Try.func17, Try.ntmps17
  go_upto_region 1 with fail
  generalize hC : (w.alloc (.cells (GE (p) (q) (g) (h) : List Value).toArray 33)) = v0 at *
  have HB0 : Below w.heap.size w v0 := by rw [← hC]; exact balloc (bself w) _
  have K0 : Bk w.heap.size v0 [(true, w.heap.size, GE (p) (q) (g) (h))] := by rw [← hC]; exact (Bk.nil _ w).ad
  clear hC
  refine rgP K0 HB0 HB0.size [] [(5, 5, L0s, some (6, LN n))] [(0, 8, .slice (some ⟨b0, 0, none⟩) cs.length cap), (1, 9, .tuple #[NV n, .int .i64 0]), (2, 7, .tuple #[NV n, .int .i64 0]), (3, 10, NV n), (4, 11, .int .i64 0), (7, 6, .int .i64 0)] [(6, 5)] [] [] ?_ ?_
  · refine oc g_mv ?_
    refine oc (g_cb ent_cert_Check (fun uZ bZ => cCheck_own_p cs n uZ _ 0 hb hlast hcs hin ⟨b0, cap, rfl, Nat.zero_le _, Nat.lt_of_lt_of_le hlt bZ.size, hcap, hcv.out.below bZ hlt⟩)) ?_
    refine oc g_mv ?_
    refine oc g_ex ?_
    refine oc g_ex ?_
    refine oc (g_al 0 aN) ?_
    refine oc (g_sn 0 iN) ?_
    exact oc g_as on
  intro u1 b1_5 HB1 sz1 K1
  simp only [fX, nK, nP, Wr.f, aK, pM] at K1
  simp only [setG, setN, List.set_cons_zero, List.set_cons_succ]
  clear K0 HB0
  have hz3 : (cs.length : Int) - 1 = ((cs.length - 1 : Nat) : Int) := by omega
  have hR : w.rangeAt b0 (0 + 12 * (cs.length - 1) + 4) (LN f) := fun c v hc => by
    rw [Nat.zero_add]; exact (hcv.out _ v (flC_F cs (cs.length - 1) (by omega) c v (by rw [hlf.out]; exact hc))).1
  have hR : Hid _ := hR
  go_upto_region 2 with fail
  refine rgP K1 HB1 HB1.size [] [] [(0, 13, .int .i64 0), (1, 14, .bool false), (2, 12, .bool false)] [] [] [] ?_ ?_
  · refine oc g_mv ?_
    refine oc (g_bn (fun uZ => neq_i _ _ _ 0 0 _ uZ rfl)) ?_
    exact oc g_as on
  intro u2 HB2 sz2 K2
  simp only [fX, nK, nP, Wr.f, aK, pM] at K2
  simp only [setG, setN, List.set_cons_zero, List.set_cons_succ]
  clear K1 HB1
  go_upto_region 4 with fail
  refine rgD K2 HB2 HB2.size [] [] [(0, 17, NV n), (1, 18, .pointer (some ⟨w.heap.size, 0, none⟩)), (2, 19, NV p), (3, 20, .bool true), (4, 21, .bool true), (5, 22, undef), (6, 23, undef), (7, 24, undef), (8, 25, undef), (9, 26, undef), (10, 27, undef), (11, 28, undef), (12, 29, undef), (13, 30, undef), (14, 31, undef), (15, 32, (Go.Value.bool Bool.true)), (16, 33, (Go.Value.bool Bool.true)), (17, 34, undef), (18, 35, undef), (19, 36, undef), (20, 37, undef), (21, 38, undef), (22, 39, undef), (23, 40, (Go.Value.bool Bool.true)), (24, 16, (Go.Value.bool Bool.true))] [] [] [false, false] ?_ ?_
  · refine oc (g_ld 1 uN iN) ?_
    refine oc (g_fd (fun uZ => fdG0 _ uZ)) ?_
    refine oc (g_lo 0 0 uN iN) ?_
    refine oc (g_bn (fun uZ => neq_n _ _ hn hp _ h1 uZ)) ?_
    refine oc g_mv ?_
    refine oc g_sk ?_
    refine oc g_sk ?_
    refine oc g_sk ?_
    refine oc g_sk ?_
    refine oc g_sk ?_
    refine oc g_sk ?_
    refine oc g_sk ?_
    refine oc g_sk ?_
    refine oc g_sk ?_
    refine oc g_sk ?_
    refine oc g_pk ?_
    refine oc g_mv ?_
    refine oc g_sk ?_
    refine oc g_sk ?_
    refine oc g_sk ?_
    refine oc g_sk ?_
    refine oc g_sk ?_
    refine oc g_sk ?_
    refine oc g_pk ?_
    exact oc g_as on
  intro u3 HB3 sz3 K3
  simp only [fX, nK, nP, Wr.f, aK, pM] at K3
  simp only [setG, setN, List.set_cons_zero, List.set_cons_succ]
  clear K2 HB2
  go_upto_region 5 with fail
  refine rgP K3 HB3 HB3.size [] [] [(0, 4, (Go.Value.int Go.IntKind.i64 30))] [] [] [] ?_ ?_
  · exact oc g_as on
  intro u4 HB4 sz4 K4
  simp only [fX, nK, nP, Wr.f, aK, pM] at K4
  simp only [setG, setN, List.set_cons_zero, List.set_cons_succ]
  clear K3 HB3
  go_wp2
  refine bodyPost_ret (v := .int .i64 30) (by simp [results, Try.results17, go_sem, ]) rfl ⟨rfl, HB4⟩
set_option maxRecDepth 100000 in
set_option maxHeartbeats 4000000 in
theorem cgroup_q (p q g h n f : Int) (b0 cap : Nat) (cs : List (Int × Int × Int)) (w : World) (hp : In p) (hq : In q) (hg : In g) (hh : In h) (hcs : cs.length ≤ 256) (hin : Hid (∀ j, j < cs.length → In (cat cs j).1 ∧ In (cat cs j).2.1 ∧ In (cat cs j).2.2)) (hlt : b0 < w.heap.size) (hcv : Hid (CV w b0 (flC cs))) (hcap : cs.length ≤ cap) (hb : cfB cs = true) (h0 : 0 < cs.length) (hlast : (cat cs (cs.length - 1)).1 = n) (hlf : Hid ((cat cs (cs.length - 1)).2.1 = f)) (hn : In n) (hf : In f)(h1 : decide (n = p) = !false)(h2 : decide (f = q) = !true) :
    Calls Try.prog 17 #[GX p q g h, .slice (some ⟨b0, 0, none⟩) cs.length cap] w fun e w' => e = .returned (.int .i64 30) ∧ Below w.heap.size w w' := by
  go_enter Try.func17, Try.ntmps17
  go_upto_region 1 with fail
  generalize hC : (w.alloc (.cells (GE (p) (q) (g) (h) : List Value).toArray 33)) = v0 at *
  have HB0 : Below w.heap.size w v0 := by rw [← hC]; exact balloc (bself w) _
  have K0 : Bk w.heap.size v0 [(true, w.heap.size, GE (p) (q) (g) (h))] := by rw [← hC]; exact (Bk.nil _ w).ad
  clear hC
  refine rgP K0 HB0 HB0.size [] [(5, 5, L0s, some (6, LN n))] [(0, 8, .slice (some ⟨b0, 0, none⟩) cs.length cap), (1, 9, .tuple #[NV n, .int .i64 0]), (2, 7, .tuple #[NV n, .int .i64 0]), (3, 10, NV n), (4, 11, .int .i64 0), (7, 6, .int .i64 0)] [(6, 5)] [] [] ?_ ?_
  · refine oc g_mv ?_
    refine oc (g_cb ent_cert_Check (fun uZ bZ => cCheck_own_p cs n uZ _ 0 hb hlast hcs hin ⟨b0, cap, rfl, Nat.zero_le _, Nat.lt_of_lt_of_le hlt bZ.size, hcap, hcv.out.below bZ hlt⟩)) ?_
    refine oc g_mv ?_
    refine oc g_ex ?_
    refine oc g_ex ?_
    refine oc (g_al 0 aN) ?_
    refine oc (g_sn 0 iN) ?_
    exact oc g_as on
  intro u1 b1_5 HB1 sz1 K1
  simp only [fX, nK, nP, Wr.f, aK, pM] at K1
  simp only [setG, setN, List.set_cons_zero, List.set_cons_succ]
  clear K0 HB0
  have hz3 : (cs.length : Int) - 1 = ((cs.length - 1 : Nat) : Int) := by omega
  have hR : w.rangeAt b0 (0 + 12 * (cs.length - 1) + 4) (LN f) := fun c v hc => by
    rw [Nat.zero_add]; exact (hcv.out _ v (flC_F cs (cs.length - 1) (by omega) c v (by rw [hlf.out]; exact hc))).1
  have hR : Hid _ := hR
  go_upto_region 2 with fail
  refine rgP K1 HB1 HB1.size [] [] [(0, 13, .int .i64 0), (1, 14, .bool false), (2, 12, .bool false)] [] [] [] ?_ ?_
  · refine oc g_mv ?_
    refine oc (g_bn (fun uZ => neq_i _ _ _ 0 0 _ uZ rfl)) ?_
    exact oc g_as on
  intro u2 HB2 sz2 K2
  simp only [fX, nK, nP, Wr.f, aK, pM] at K2
  simp only [setG, setN, List.set_cons_zero, List.set_cons_succ]
  clear K1 HB1
  go_upto_region 4 with fail
  refine rgD K2 HB2 HB2.size [] [] [(0, 17, NV n), (1, 18, .pointer (some ⟨w.heap.size, 0, none⟩)), (2, 19, NV p), (3, 20, .bool false), (4, 21, .bool false), (5, 22, .slice (some ⟨b0, 0, none⟩) cs.length cap), (6, 23, .slice (some ⟨b0, 0, none⟩) cs.length cap), (7, 24, .int .i64 (cs.length : Int)), (8, 25, .int .i64 ((cs.length - 1 : Nat) : Int)), (9, 26, .pointer (some ⟨b0, 0 + 12 * (cs.length - 1), none⟩)), (10, 27, .pointer (some ⟨b0, 0 + 12 * (cs.length - 1) + 4, none⟩)), (11, 28, NV f), (12, 29, .pointer (some ⟨w.heap.size, 4, none⟩)), (13, 30, NV q), (14, 31, .bool true), (15, 32, .bool true), (16, 33, .bool true), (17, 34, undef), (18, 35, undef), (19, 36, undef), (20, 37, undef), (21, 38, undef), (22, 39, undef), (23, 40, (Go.Value.bool Bool.true)), (24, 16, (Go.Value.bool Bool.true))] [] [] [false, false] ?_ ?_
  · refine oc (g_ld 1 uN iN) ?_
    refine oc (g_fd (fun uZ => fdG0 _ uZ)) ?_
    refine oc (g_lo 0 0 uN iN) ?_
    refine oc (g_bn (fun uZ => neq_n _ _ hn hp _ h1 uZ)) ?_
    refine oc g_mv ?_
    refine oc g_mv ?_
    refine oc g_mv ?_
    refine oc (g_ln Try.underlying31) ?_
    refine oc (g_bn (fun uZ => sub_i _ _ (cs.length : Int) 1 ((cs.length - 1 : Nat) : Int) uZ hz3 (by omega) (by omega))) ?_
    refine oc (g_ix (fun uZ => ixC b0 0 cs.length cap (cs.length - 1) (by omega) uZ)) ?_
    refine oc (g_fd (fun uZ => fdC1x _ _ uZ)) ?_
    refine oc (g_lf hR.out hlt uN iN) ?_
    refine oc (g_fd (fun uZ => fdG1 _ uZ)) ?_
    refine oc (g_lo 0 4 uN iN) ?_
    refine oc (g_bn (fun uZ => neq_n _ _ hf hq _ h2 uZ)) ?_
    refine oc g_pk ?_
    refine oc g_mv ?_
    refine oc g_sk ?_
    refine oc g_sk ?_
    refine oc g_sk ?_
    refine oc g_sk ?_
    refine oc g_sk ?_
    refine oc g_sk ?_
    refine oc g_pk ?_
    exact oc g_as on
  intro u3 HB3 sz3 K3
  simp only [fX, nK, nP, Wr.f, aK, pM] at K3
  simp only [setG, setN, List.set_cons_zero, List.set_cons_succ]
  clear K2 HB2
  go_upto_region 5 with fail
  refine rgP K3 HB3 HB3.size [] [] [(0, 4, (Go.Value.int Go.IntKind.i64 30))] [] [] [] ?_ ?_
  · exact oc g_as on
  intro u4 HB4 sz4 K4
  simp only [fX, nK, nP, Wr.f, aK, pM] at K4
  simp only [setG, setN, List.set_cons_zero, List.set_cons_succ]
  clear K3 HB3
  go_wp2
  refine bodyPost_ret (v := .int .i64 30) (by simp [results, Try.results17, go_sem, ]) rfl ⟨rfl, HB4⟩
set_option maxRecDepth 100000 in
set_option maxHeartbeats 4000000 in
theorem cgroup_t (p q g h n f : Int) (b0 cap : Nat) (cs : List (Int × Int × Int)) (w : World) (hp : In p) (hq : In q) (hg : In g) (hh : In h) (hcs : cs.length ≤ 256) (hin : Hid (∀ j, j < cs.length → In (cat cs j).1 ∧ In (cat cs j).2.1 ∧ In (cat cs j).2.2)) (hlt : b0 < w.heap.size) (hcv : Hid (CV w b0 (flC cs))) (hcap : cs.length ≤ cap) (hb : cfB cs = true) (h0 : 0 < cs.length) (hlast : (cat cs (cs.length - 1)).1 = n) (hlf : Hid ((cat cs (cs.length - 1)).2.1 = f)) (hn : In n) (hf : In f)(h1 : decide (n = p) = !false)(h2 : decide (f = q) = !false)(hT : Hid (∀ u, Calls Try.prog 37 #[NV p, NV q] u fun e u' => e = .returned (.bool false) ∧ Below u.heap.size u u')) :
    Calls Try.prog 17 #[GX p q g h, .slice (some ⟨b0, 0, none⟩) cs.length cap] w fun e w' => e = .returned (.int .i64 30) ∧ Below w.heap.size w w' := by
  go_enter Try.func17, Try.ntmps17
  go_upto_region 1 with fail
  generalize hC : (w.alloc (.cells (GE (p) (q) (g) (h) : List Value).toArray 33)) = v0 at *
  have HB0 : Below w.heap.size w v0 := by rw [← hC]; exact balloc (bself w) _
  have K0 : Bk w.heap.size v0 [(true, w.heap.size, GE (p) (q) (g) (h))] := by rw [← hC]; exact (Bk.nil _ w).ad
  clear hC
  refine rgP K0 HB0 HB0.size [] [(5, 5, L0s, some (6, LN n))] [(0, 8, .slice (some ⟨b0, 0, none⟩) cs.length cap), (1, 9, .tuple #[NV n, .int .i64 0]), (2, 7, .tuple #[NV n, .int .i64 0]), (3, 10, NV n), (4, 11, .int .i64 0), (7, 6, .int .i64 0)] [(6, 5)] [] [] ?_ ?_
  · refine oc g_mv ?_
    refine oc (g_cb ent_cert_Check (fun uZ bZ => cCheck_own_p cs n uZ _ 0 hb hlast hcs hin ⟨b0, cap, rfl, Nat.zero_le _, Nat.lt_of_lt_of_le hlt bZ.size, hcap, hcv.out.below bZ hlt⟩)) ?_
    refine oc g_mv ?_
    refine oc g_ex ?_
    refine oc g_ex ?_
    refine oc (g_al 0 aN) ?_
    refine oc (g_sn 0 iN) ?_
    exact oc g_as on
  intro u1 b1_5 HB1 sz1 K1
  simp only [fX, nK, nP, Wr.f, aK, pM] at K1
  simp only [setG, setN, List.set_cons_zero, List.set_cons_succ]
  clear K0 HB0
  have hz3 : (cs.length : Int) - 1 = ((cs.length - 1 : Nat) : Int) := by omega
  have hR : w.rangeAt b0 (0 + 12 * (cs.length - 1) + 4) (LN f) := fun c v hc => by
    rw [Nat.zero_add]; exact (hcv.out _ v (flC_F cs (cs.length - 1) (by omega) c v (by rw [hlf.out]; exact hc))).1
  have hR : Hid _ := hR
  go_upto_region 2 with fail
  refine rgP K1 HB1 HB1.size [] [] [(0, 13, .int .i64 0), (1, 14, .bool false), (2, 12, .bool false)] [] [] [] ?_ ?_
  · refine oc g_mv ?_
    refine oc (g_bn (fun uZ => neq_i _ _ _ 0 0 _ uZ rfl)) ?_
    exact oc g_as on
  intro u2 HB2 sz2 K2
  simp only [fX, nK, nP, Wr.f, aK, pM] at K2
  simp only [setG, setN, List.set_cons_zero, List.set_cons_succ]
  clear K1 HB1
  go_upto_region 4 with fail
  refine rgD K2 HB2 HB2.size [] [] [(0, 17, NV n), (1, 18, .pointer (some ⟨w.heap.size, 0, none⟩)), (2, 19, NV p), (3, 20, .bool false), (4, 21, .bool false), (5, 22, .slice (some ⟨b0, 0, none⟩) cs.length cap), (6, 23, .slice (some ⟨b0, 0, none⟩) cs.length cap), (7, 24, .int .i64 (cs.length : Int)), (8, 25, .int .i64 ((cs.length - 1 : Nat) : Int)), (9, 26, .pointer (some ⟨b0, 0 + 12 * (cs.length - 1), none⟩)), (10, 27, .pointer (some ⟨b0, 0 + 12 * (cs.length - 1) + 4, none⟩)), (11, 28, NV f), (12, 29, .pointer (some ⟨w.heap.size, 4, none⟩)), (13, 30, NV q), (14, 31, .bool false), (15, 32, .bool false), (16, 33, .bool false), (17, 34, .pointer (some ⟨w.heap.size, 0, none⟩)), (18, 35, NV p), (19, 36, .pointer (some ⟨w.heap.size, 4, none⟩)), (20, 37, NV q), (21, 38, .bool false), (22, 39, .bool true), (23, 40, .bool true), (24, 16, .bool true)] [] [] [false, false] ?_ ?_
  · refine oc (g_ld 1 uN iN) ?_
    refine oc (g_fd (fun uZ => fdG0 _ uZ)) ?_
    refine oc (g_lo 0 0 uN iN) ?_
    refine oc (g_bn (fun uZ => neq_n _ _ hn hp _ h1 uZ)) ?_
    refine oc g_mv ?_
    refine oc g_mv ?_
    refine oc g_mv ?_
    refine oc (g_ln Try.underlying31) ?_
    refine oc (g_bn (fun uZ => sub_i _ _ (cs.length : Int) 1 ((cs.length - 1 : Nat) : Int) uZ hz3 (by omega) (by omega))) ?_
    refine oc (g_ix (fun uZ => ixC b0 0 cs.length cap (cs.length - 1) (by omega) uZ)) ?_
    refine oc (g_fd (fun uZ => fdC1x _ _ uZ)) ?_
    refine oc (g_lf hR.out hlt uN iN) ?_
    refine oc (g_fd (fun uZ => fdG1 _ uZ)) ?_
    refine oc (g_lo 0 4 uN iN) ?_
    refine oc (g_bn (fun uZ => neq_n _ _ hf hq _ h2 uZ)) ?_
    refine oc g_pk ?_
    refine oc g_mv ?_
    refine oc (g_fd (fun uZ => fdG0 _ uZ)) ?_
    refine oc (g_lo 0 0 uN iN) ?_
    refine oc (g_fd (fun uZ => fdG1 _ uZ)) ?_
    refine oc (g_lo 0 4 uN iN) ?_
    refine oc (g_cl ent_cert_isTwiceAndOne (fun uZ => hT.out uZ)) ?_
    refine oc (g_un (fun uZ => rfl)) ?_
    refine oc g_pk ?_
    exact oc g_as on
  intro u3 HB3 sz3 K3
  simp only [fX, nK, nP, Wr.f, aK, pM] at K3
  simp only [setG, setN, List.set_cons_zero, List.set_cons_succ]
  clear K2 HB2
  go_upto_region 5 with fail
  refine rgP K3 HB3 HB3.size [] [] [(0, 4, (Go.Value.int Go.IntKind.i64 30))] [] [] [] ?_ ?_
  · exact oc g_as on
  intro u4 HB4 sz4 K4
  simp only [fX, nK, nP, Wr.f, aK, pM] at K4
  simp only [setG, setN, List.set_cons_zero, List.set_cons_succ]
  clear K3 HB3
  go_wp2
  refine bodyPost_ret (v := .int .i64 30) (by simp [results, Try.results17, go_sem, ]) rfl ⟨rfl, HB4⟩
set_option maxRecDepth 100000 in
set_option maxHeartbeats 4000000 in
theorem cgroup_g (p q g h n f : Int) (b0 cap : Nat) (cs : List (Int × Int × Int)) (w : World) (hp : In p) (hq : In q) (hg : In g) (hh : In h) (hcs : cs.length ≤ 256) (hin : Hid (∀ j, j < cs.length → In (cat cs j).1 ∧ In (cat cs j).2.1 ∧ In (cat cs j).2.2)) (hlt : b0 < w.heap.size) (hcv : Hid (CV w b0 (flC cs))) (hcap : cs.length ≤ cap) (hb : cfB cs = true) (h0 : 0 < cs.length) (hlast : (cat cs (cs.length - 1)).1 = n) (hlf : Hid ((cat cs (cs.length - 1)).2.1 = f)) (hn : In n) (hf : In f)(h1 : decide (n = p) = !false)(h2 : decide (f = q) = !false)(hT : Hid (∀ u, Calls Try.prog 37 #[NV p, NV q] u fun e u' => e = .returned (.bool true) ∧ Below u.heap.size u u'))(hG1 : Hid (∀ u, Calls Try.prog 38 #[NV g, GX p q g h] u fun e u' => e = .returned (.bool false) ∧ Below u.heap.size u u')) :
    Calls Try.prog 17 #[GX p q g h, .slice (some ⟨b0, 0, none⟩) cs.length cap] w fun e w' => e = .returned (.int .i64 30) ∧ Below w.heap.size w w' := by
  go_enter Try.func17, Try.ntmps17
  go_upto_region 1 with fail
  generalize hC : (w.alloc (.cells (GE (p) (q) (g) (h) : List Value).toArray 33)) = v0 at *
  have HB0 : Below w.heap.size w v0 := by rw [← hC]; exact balloc (bself w) _
  have K0 : Bk w.heap.size v0 [(true, w.heap.size, GE (p) (q) (g) (h))] := by rw [← hC]; exact (Bk.nil _ w).ad
  clear hC
  refine rgP K0 HB0 HB0.size [] [(5, 5, L0s, some (6, LN n))] [(0, 8, .slice (some ⟨b0, 0, none⟩) cs.length cap), (1, 9, .tuple #[NV n, .int .i64 0]), (2, 7, .tuple #[NV n, .int .i64 0]), (3, 10, NV n), (4, 11, .int .i64 0), (7, 6, .int .i64 0)] [(6, 5)] [] [] ?_ ?_
  · refine oc g_mv ?_
    refine oc (g_cb ent_cert_Check (fun uZ bZ => cCheck_own_p cs n uZ _ 0 hb hlast hcs hin ⟨b0, cap, rfl, Nat.zero_le _, Nat.lt_of_lt_of_le hlt bZ.size, hcap, hcv.out.below bZ hlt⟩)) ?_
    refine oc g_mv ?_
    refine oc g_ex ?_
    refine oc g_ex ?_
    refine oc (g_al 0 aN) ?_
    refine oc (g_sn 0 iN) ?_
    exact oc g_as on
  intro u1 b1_5 HB1 sz1 K1
  simp only [fX, nK, nP, Wr.f, aK, pM] at K1
  simp only [setG, setN, List.set_cons_zero, List.set_cons_succ]
  clear K0 HB0
  have hz3 : (cs.length : Int) - 1 = ((cs.length - 1 : Nat) : Int) := by omega
  have hR : w.rangeAt b0 (0 + 12 * (cs.length - 1) + 4) (LN f) := fun c v hc => by
    rw [Nat.zero_add]; exact (hcv.out _ v (flC_F cs (cs.length - 1) (by omega) c v (by rw [hlf.out]; exact hc))).1
  have hR : Hid _ := hR
  go_upto_region 2 with fail
  refine rgP K1 HB1 HB1.size [] [] [(0, 13, .int .i64 0), (1, 14, .bool false), (2, 12, .bool false)] [] [] [] ?_ ?_
  · refine oc g_mv ?_
    refine oc (g_bn (fun uZ => neq_i _ _ _ 0 0 _ uZ rfl)) ?_
    exact oc g_as on
  intro u2 HB2 sz2 K2
  simp only [fX, nK, nP, Wr.f, aK, pM] at K2
  simp only [setG, setN, List.set_cons_zero, List.set_cons_succ]
  clear K1 HB1
  go_upto_region 4 with fail
  refine rgD K2 HB2 HB2.size [] [] [(0, 17, NV n), (1, 18, .pointer (some ⟨w.heap.size, 0, none⟩)), (2, 19, NV p), (3, 20, .bool false), (4, 21, .bool false), (5, 22, .slice (some ⟨b0, 0, none⟩) cs.length cap), (6, 23, .slice (some ⟨b0, 0, none⟩) cs.length cap), (7, 24, .int .i64 (cs.length : Int)), (8, 25, .int .i64 ((cs.length - 1 : Nat) : Int)), (9, 26, .pointer (some ⟨b0, 0 + 12 * (cs.length - 1), none⟩)), (10, 27, .pointer (some ⟨b0, 0 + 12 * (cs.length - 1) + 4, none⟩)), (11, 28, NV f), (12, 29, .pointer (some ⟨w.heap.size, 4, none⟩)), (13, 30, NV q), (14, 31, .bool false), (15, 32, .bool false), (16, 33, .bool false), (17, 34, .pointer (some ⟨w.heap.size, 0, none⟩)), (18, 35, NV p), (19, 36, .pointer (some ⟨w.heap.size, 4, none⟩)), (20, 37, NV q), (21, 38, .bool true), (22, 39, .bool false), (23, 40, .bool false), (24, 16, .bool false)] [] [] [true, false] ?_ ?_
  · refine oc (g_ld 1 uN iN) ?_
    refine oc (g_fd (fun uZ => fdG0 _ uZ)) ?_
    refine oc (g_lo 0 0 uN iN) ?_
    refine oc (g_bn (fun uZ => neq_n _ _ hn hp _ h1 uZ)) ?_
    refine oc g_mv ?_
    refine oc g_mv ?_
    refine oc g_mv ?_
    refine oc (g_ln Try.underlying31) ?_
    refine oc (g_bn (fun uZ => sub_i _ _ (cs.length : Int) 1 ((cs.length - 1 : Nat) : Int) uZ hz3 (by omega) (by omega))) ?_
    refine oc (g_ix (fun uZ => ixC b0 0 cs.length cap (cs.length - 1) (by omega) uZ)) ?_
    refine oc (g_fd (fun uZ => fdC1x _ _ uZ)) ?_
    refine oc (g_lf hR.out hlt uN iN) ?_
    refine oc (g_fd (fun uZ => fdG1 _ uZ)) ?_
    refine oc (g_lo 0 4 uN iN) ?_
    refine oc (g_bn (fun uZ => neq_n _ _ hf hq _ h2 uZ)) ?_
    refine oc g_pk ?_
    refine oc g_mv ?_
    refine oc (g_fd (fun uZ => fdG0 _ uZ)) ?_
    refine oc (g_lo 0 0 uN iN) ?_
    refine oc (g_fd (fun uZ => fdG1 _ uZ)) ?_
    refine oc (g_lo 0 4 uN iN) ?_
    refine oc (g_cl ent_cert_isTwiceAndOne (fun uZ => hT.out uZ)) ?_
    refine oc (g_un (fun uZ => rfl)) ?_
    refine oc g_pk ?_
    exact oc g_as on
  intro u3 HB3 sz3 K3
  simp only [fX, nK, nP, Wr.f, aK, pM] at K3
  simp only [setG, setN, List.set_cons_zero, List.set_cons_succ]
  clear K2 HB2
  go_upto_region 6 with fail
  refine rgP K3 HB3 HB3.size [] [] [(0, 42, .pointer (some ⟨w.heap.size, 8, none⟩)), (1, 43, NV g), (2, 44, GX (p) (q) (g) (h)), (3, 45, .bool false), (4, 46, .bool true), (5, 47, .bool true), (6, 48, undef), (7, 49, undef), (8, 50, undef), (9, 51, undef), (10, 52, undef), (11, 53, (Go.Value.bool Bool.true)), (12, 54, (Go.Value.bool Bool.true)), (13, 55, undef), (14, 56, undef), (15, 57, undef), (16, 58, undef), (17, 59, undef), (18, 60, (Go.Value.bool Bool.true)), (19, 41, (Go.Value.bool Bool.true))] [] [] [false] ?_ ?_
  · refine oc (g_fd (fun uZ => fdG2 _ uZ)) ?_
    refine oc (g_lo 0 8 uN iN) ?_
    refine oc (g_ld 0 Try.underlying33 info_api_Group) ?_
    refine oc (g_cl ent_cert_generates (fun uZ => hG1.out uZ)) ?_
    refine oc (g_un (fun uZ => rfl)) ?_
    refine oc g_mv ?_
    refine oc g_sk ?_
    refine oc g_sk ?_
    refine oc g_sk ?_
    refine oc g_sk ?_
    refine oc g_sk ?_
    refine oc g_pk ?_
    refine oc g_mv ?_
    refine oc g_sk ?_
    refine oc g_sk ?_
    refine oc g_sk ?_
    refine oc g_sk ?_
    refine oc g_sk ?_
    refine oc g_pk ?_
    exact oc g_as on
  intro u4 HB4 sz4 K4
  simp only [fX, nK, nP, Wr.f, aK, pM] at K4
  simp only [setG, setN, List.set_cons_zero, List.set_cons_succ]
  clear K3 HB3
  go_upto_region 7 with fail
  refine rgP K4 HB4 HB4.size [] [] [(0, 4, (Go.Value.int Go.IntKind.i64 30))] [] [] [] ?_ ?_
  · exact oc g_as on
  intro u5 HB5 sz5 K5
  simp only [fX, nK, nP, Wr.f, aK, pM] at K5
  simp only [setG, setN, List.set_cons_zero, List.set_cons_succ]
  clear K4 HB4
  go_wp2
  refine bodyPost_ret (v := .int .i64 30) (by simp [results, Try.results17, go_sem, ]) rfl ⟨rfl, HB5⟩
set_option maxRecDepth 100000 in
set_option maxHeartbeats 4000000 in
theorem cgroup_h (p q g h n f : Int) (b0 cap : Nat) (cs : List (Int × Int × Int)) (w : World) (hp : In p) (hq : In q) (hg : In g) (hh : In h) (hcs : cs.length ≤ 256) (hin : Hid (∀ j, j < cs.length → In (cat cs j).1 ∧ In (cat cs j).2.1 ∧ In (cat cs j).2.2)) (hlt : b0 < w.heap.size) (hcv : Hid (CV w b0 (flC cs))) (hcap : cs.length ≤ cap) (hb : cfB cs = true) (h0 : 0 < cs.length) (hlast : (cat cs (cs.length - 1)).1 = n) (hlf : Hid ((cat cs (cs.length - 1)).2.1 = f)) (hn : In n) (hf : In f)(h1 : decide (n = p) = !false)(h2 : decide (f = q) = !false)(hT : Hid (∀ u, Calls Try.prog 37 #[NV p, NV q] u fun e u' => e = .returned (.bool true) ∧ Below u.heap.size u u'))(hG1 : Hid (∀ u, Calls Try.prog 38 #[NV g, GX p q g h] u fun e u' => e = .returned (.bool true) ∧ Below u.heap.size u u'))(hG2 : Hid (∀ u, Calls Try.prog 38 #[NV h, GX p q g h] u fun e u' => e = .returned (.bool false) ∧ Below u.heap.size u u')) :
    Calls Try.prog 17 #[GX p q g h, .slice (some ⟨b0, 0, none⟩) cs.length cap] w fun e w' => e = .returned (.int .i64 30) ∧ Below w.heap.size w w' := by
  go_enter Try.func17, Try.ntmps17
  go_upto_region 1 with fail
  generalize hC : (w.alloc (.cells (GE (p) (q) (g) (h) : List Value).toArray 33)) = v0 at *
  have HB0 : Below w.heap.size w v0 := by rw [← hC]; exact balloc (bself w) _
  have K0 : Bk w.heap.size v0 [(true, w.heap.size, GE (p) (q) (g) (h))] := by rw [← hC]; exact (Bk.nil _ w).ad
  clear hC
  refine rgP K0 HB0 HB0.size [] [(5, 5, L0s, some (6, LN n))] [(0, 8, .slice (some ⟨b0, 0, none⟩) cs.length cap), (1, 9, .tuple #[NV n, .int .i64 0]), (2, 7, .tuple #[NV n, .int .i64 0]), (3, 10, NV n), (4, 11, .int .i64 0), (7, 6, .int .i64 0)] [(6, 5)] [] [] ?_ ?_
  · refine oc g_mv ?_
    refine oc (g_cb ent_cert_Check (fun uZ bZ => cCheck_own_p cs n uZ _ 0 hb hlast hcs hin ⟨b0, cap, rfl, Nat.zero_le _, Nat.lt_of_lt_of_le hlt bZ.size, hcap, hcv.out.below bZ hlt⟩)) ?_
    refine oc g_mv ?_
    refine oc g_ex ?_
    refine oc g_ex ?_
    refine oc (g_al 0 aN) ?_
    refine oc (g_sn 0 iN) ?_
    exact oc g_as on
  intro u1 b1_5 HB1 sz1 K1
  simp only [fX, nK, nP, Wr.f, aK, pM] at K1
  simp only [setG, setN, List.set_cons_zero, List.set_cons_succ]
  clear K0 HB0
  have hz3 : (cs.length : Int) - 1 = ((cs.length - 1 : Nat) : Int) := by omega
  have hR : w.rangeAt b0 (0 + 12 * (cs.length - 1) + 4) (LN f) := fun c v hc => by
    rw [Nat.zero_add]; exact (hcv.out _ v (flC_F cs (cs.length - 1) (by omega) c v (by rw [hlf.out]; exact hc))).1
  have hR : Hid _ := hR
  go_upto_region 2 with fail
  refine rgP K1 HB1 HB1.size [] [] [(0, 13, .int .i64 0), (1, 14, .bool false), (2, 12, .bool false)] [] [] [] ?_ ?_
  · refine oc g_mv ?_
    refine oc (g_bn (fun uZ => neq_i _ _ _ 0 0 _ uZ rfl)) ?_
    exact oc g_as on
  intro u2 HB2 sz2 K2
  simp only [fX, nK, nP, Wr.f, aK, pM] at K2
  simp only [setG, setN, List.set_cons_zero, List.set_cons_succ]
  clear K1 HB1
  go_upto_region 4 with fail
  refine rgD K2 HB2 HB2.size [] [] [(0, 17, NV n), (1, 18, .pointer (some ⟨w.heap.size, 0, none⟩)), (2, 19, NV p), (3, 20, .bool false), (4, 21, .bool false), (5, 22, .slice (some ⟨b0, 0, none⟩) cs.length cap), (6, 23, .slice (some ⟨b0, 0, none⟩) cs.length cap), (7, 24, .int .i64 (cs.length : Int)), (8, 25, .int .i64 ((cs.length - 1 : Nat) : Int)), (9, 26, .pointer (some ⟨b0, 0 + 12 * (cs.length - 1), none⟩)), (10, 27, .pointer (some ⟨b0, 0 + 12 * (cs.length - 1) + 4, none⟩)), (11, 28, NV f), (12, 29, .pointer (some ⟨w.heap.size, 4, none⟩)), (13, 30, NV q), (14, 31, .bool false), (15, 32, .bool false), (16, 33, .bool false), (17, 34, .pointer (some ⟨w.heap.size, 0, none⟩)), (18, 35, NV p), (19, 36, .pointer (some ⟨w.heap.size, 4, none⟩)), (20, 37, NV q), (21, 38, .bool true), (22, 39, .bool false), (23, 40, .bool false), (24, 16, .bool false)] [] [] [true, false] ?_ ?_
  · refine oc (g_ld 1 uN iN) ?_
    refine oc (g_fd (fun uZ => fdG0 _ uZ)) ?_
    refine oc (g_lo 0 0 uN iN) ?_
    refine oc (g_bn (fun uZ => neq_n _ _ hn hp _ h1 uZ)) ?_
    refine oc g_mv ?_
    refine oc g_mv ?_
    refine oc g_mv ?_
    refine oc (g_ln Try.underlying31) ?_
    refine oc (g_bn (fun uZ => sub_i _ _ (cs.length : Int) 1 ((cs.length - 1 : Nat) : Int) uZ hz3 (by omega) (by omega))) ?_
    refine oc (g_ix (fun uZ => ixC b0 0 cs.length cap (cs.length - 1) (by omega) uZ)) ?_
    refine oc (g_fd (fun uZ => fdC1x _ _ uZ)) ?_
    refine oc (g_lf hR.out hlt uN iN) ?_
    refine oc (g_fd (fun uZ => fdG1 _ uZ)) ?_
    refine oc (g_lo 0 4 uN iN) ?_
    refine oc (g_bn (fun uZ => neq_n _ _ hf hq _ h2 uZ)) ?_
    refine oc g_pk ?_
    refine oc g_mv ?_
    refine oc (g_fd (fun uZ => fdG0 _ uZ)) ?_
    refine oc (g_lo 0 0 uN iN) ?_
    refine oc (g_fd (fun uZ => fdG1 _ uZ)) ?_
    refine oc (g_lo 0 4 uN iN) ?_
    refine oc (g_cl ent_cert_isTwiceAndOne (fun uZ => hT.out uZ)) ?_
    refine oc (g_un (fun uZ => rfl)) ?_
    refine oc g_pk ?_
    exact oc g_as on
  intro u3 HB3 sz3 K3
  simp only [fX, nK, nP, Wr.f, aK, pM] at K3
  simp only [setG, setN, List.set_cons_zero, List.set_cons_succ]
  clear K2 HB2
  go_upto_region 6 with fail
  refine rgP K3 HB3 HB3.size [] [] [(0, 42, .pointer (some ⟨w.heap.size, 8, none⟩)), (1, 43, NV g), (2, 44, GX (p) (q) (g) (h)), (3, 45, .bool true), (4, 46, .bool false), (5, 47, .bool false), (6, 48, .pointer (some ⟨w.heap.size, 12, none⟩)), (7, 49, NV h), (8, 50, GX (p) (q) (g) (h)), (9, 51, .bool false), (10, 52, .bool true), (11, 53, .bool true), (12, 54, .bool true), (13, 55, undef), (14, 56, undef), (15, 57, undef), (16, 58, undef), (17, 59, undef), (18, 60, (Go.Value.bool Bool.true)), (19, 41, (Go.Value.bool Bool.true))] [] [] [false] ?_ ?_
  · refine oc (g_fd (fun uZ => fdG2 _ uZ)) ?_
    refine oc (g_lo 0 8 uN iN) ?_
    refine oc (g_ld 0 Try.underlying33 info_api_Group) ?_
    refine oc (g_cl ent_cert_generates (fun uZ => hG1.out uZ)) ?_
    refine oc (g_un (fun uZ => rfl)) ?_
    refine oc g_mv ?_
    refine oc (g_fd (fun uZ => fdG3 _ uZ)) ?_
    refine oc (g_lo 0 12 uN iN) ?_
    refine oc (g_ld 0 Try.underlying33 info_api_Group) ?_
    refine oc (g_cl ent_cert_generates (fun uZ => hG2.out uZ)) ?_
    refine oc (g_un (fun uZ => rfl)) ?_
    refine oc g_pk ?_
    refine oc g_mv ?_
    refine oc g_sk ?_
    refine oc g_sk ?_
    refine oc g_sk ?_
    refine oc g_sk ?_
    refine oc g_sk ?_
    refine oc g_pk ?_
    exact oc g_as on
  intro u4 HB4 sz4 K4
  simp only [fX, nK, nP, Wr.f, aK, pM] at K4
  simp only [setG, setN, List.set_cons_zero, List.set_cons_succ]
  clear K3 HB3
  go_upto_region 7 with fail
  refine rgP K4 HB4 HB4.size [] [] [(0, 4, (Go.Value.int Go.IntKind.i64 30))] [] [] [] ?_ ?_
  · exact oc g_as on
  intro u5 HB5 sz5 K5
  simp only [fX, nK, nP, Wr.f, aK, pM] at K5
  simp only [setG, setN, List.set_cons_zero, List.set_cons_succ]
  clear K4 HB4
  go_wp2
  refine bodyPost_ret (v := .int .i64 30) (by simp [results, Try.results17, go_sem, ]) rfl ⟨rfl, HB5⟩
set_option maxRecDepth 100000 in
set_option maxHeartbeats 4000000 in
theorem cgroup_e (p q g h n f : Int) (b0 cap : Nat) (cs : List (Int × Int × Int)) (w : World) (hp : In p) (hq : In q) (hg : In g) (hh : In h) (hcs : cs.length ≤ 256) (hin : Hid (∀ j, j < cs.length → In (cat cs j).1 ∧ In (cat cs j).2.1 ∧ In (cat cs j).2.2)) (hlt : b0 < w.heap.size) (hcv : Hid (CV w b0 (flC cs))) (hcap : cs.length ≤ cap) (hb : cfB cs = true) (h0 : 0 < cs.length) (hlast : (cat cs (cs.length - 1)).1 = n) (hlf : Hid ((cat cs (cs.length - 1)).2.1 = f)) (hn : In n) (hf : In f)(h1 : decide (n = p) = !false)(h2 : decide (f = q) = !false)(hT : Hid (∀ u, Calls Try.prog 37 #[NV p, NV q] u fun e u' => e = .returned (.bool true) ∧ Below u.heap.size u u'))(hG1 : Hid (∀ u, Calls Try.prog 38 #[NV g, GX p q g h] u fun e u' => e = .returned (.bool true) ∧ Below u.heap.size u u'))(hG2 : Hid (∀ u, Calls Try.prog 38 #[NV h, GX p q g h] u fun e u' => e = .returned (.bool true) ∧ Below u.heap.size u u'))(h3 : decide (g = h) = true) :
    Calls Try.prog 17 #[GX p q g h, .slice (some ⟨b0, 0, none⟩) cs.length cap] w fun e w' => e = .returned (.int .i64 30) ∧ Below w.heap.size w w' := by
  go_enter Try.func17, Try.ntmps17
  go_upto_region 1 with fail
  generalize hC : (w.alloc (.cells (GE (p) (q) (g) (h) : List Value).toArray 33)) = v0 at *
  have HB0 : Below w.heap.size w v0 := by rw [← hC]; exact balloc (bself w) _
  have K0 : Bk w.heap.size v0 [(true, w.heap.size, GE (p) (q) (g) (h))] := by rw [← hC]; exact (Bk.nil _ w).ad
  clear hC
  refine rgP K0 HB0 HB0.size [] [(5, 5, L0s, some (6, LN n))] [(0, 8, .slice (some ⟨b0, 0, none⟩) cs.length cap), (1, 9, .tuple #[NV n, .int .i64 0]), (2, 7, .tuple #[NV n, .int .i64 0]), (3, 10, NV n), (4, 11, .int .i64 0), (7, 6, .int .i64 0)] [(6, 5)] [] [] ?_ ?_
  · refine oc g_mv ?_
    refine oc (g_cb ent_cert_Check (fun uZ bZ => cCheck_own_p cs n uZ _ 0 hb hlast hcs hin ⟨b0, cap, rfl, Nat.zero_le _, Nat.lt_of_lt_of_le hlt bZ.size, hcap, hcv.out.below bZ hlt⟩)) ?_
    refine oc g_mv ?_
    refine oc g_ex ?_
    refine oc g_ex ?_
    refine oc (g_al 0 aN) ?_
    refine oc (g_sn 0 iN) ?_
    exact oc g_as on
  intro u1 b1_5 HB1 sz1 K1
  simp only [fX, nK, nP, Wr.f, aK, pM] at K1
  simp only [setG, setN, List.set_cons_zero, List.set_cons_succ]
  clear K0 HB0
  have hz3 : (cs.length : Int) - 1 = ((cs.length - 1 : Nat) : Int) := by omega
  have hR : w.rangeAt b0 (0 + 12 * (cs.length - 1) + 4) (LN f) := fun c v hc => by
    rw [Nat.zero_add]; exact (hcv.out _ v (flC_F cs (cs.length - 1) (by omega) c v (by rw [hlf.out]; exact hc))).1
  have hR : Hid _ := hR
  go_upto_region 2 with fail
  refine rgP K1 HB1 HB1.size [] [] [(0, 13, .int .i64 0), (1, 14, .bool false), (2, 12, .bool false)] [] [] [] ?_ ?_
  · refine oc g_mv ?_
    refine oc (g_bn (fun uZ => neq_i _ _ _ 0 0 _ uZ rfl)) ?_
    exact oc g_as on
  intro u2 HB2 sz2 K2
  simp only [fX, nK, nP, Wr.f, aK, pM] at K2
  simp only [setG, setN, List.set_cons_zero, List.set_cons_succ]
  clear K1 HB1
  go_upto_region 4 with fail
  refine rgD K2 HB2 HB2.size [] [] [(0, 17, NV n), (1, 18, .pointer (some ⟨w.heap.size, 0, none⟩)), (2, 19, NV p), (3, 20, .bool false), (4, 21, .bool false), (5, 22, .slice (some ⟨b0, 0, none⟩) cs.length cap), (6, 23, .slice (some ⟨b0, 0, none⟩) cs.length cap), (7, 24, .int .i64 (cs.length : Int)), (8, 25, .int .i64 ((cs.length - 1 : Nat) : Int)), (9, 26, .pointer (some ⟨b0, 0 + 12 * (cs.length - 1), none⟩)), (10, 27, .pointer (some ⟨b0, 0 + 12 * (cs.length - 1) + 4, none⟩)), (11, 28, NV f), (12, 29, .pointer (some ⟨w.heap.size, 4, none⟩)), (13, 30, NV q), (14, 31, .bool false), (15, 32, .bool false), (16, 33, .bool false), (17, 34, .pointer (some ⟨w.heap.size, 0, none⟩)), (18, 35, NV p), (19, 36, .pointer (some ⟨w.heap.size, 4, none⟩)), (20, 37, NV q), (21, 38, .bool true), (22, 39, .bool false), (23, 40, .bool false), (24, 16, .bool false)] [] [] [true, false] ?_ ?_
  · refine oc (g_ld 1 uN iN) ?_
    refine oc (g_fd (fun uZ => fdG0 _ uZ)) ?_
    refine oc (g_lo 0 0 uN iN) ?_
    refine oc (g_bn (fun uZ => neq_n _ _ hn hp _ h1 uZ)) ?_
    refine oc g_mv ?_
    refine oc g_mv ?_
    refine oc g_mv ?_
    refine oc (g_ln Try.underlying31) ?_
    refine oc (g_bn (fun uZ => sub_i _ _ (cs.length : Int) 1 ((cs.length - 1 : Nat) : Int) uZ hz3 (by omega) (by omega))) ?_
    refine oc (g_ix (fun uZ => ixC b0 0 cs.length cap (cs.length - 1) (by omega) uZ)) ?_
    refine oc (g_fd (fun uZ => fdC1x _ _ uZ)) ?_
    refine oc (g_lf hR.out hlt uN iN) ?_
    refine oc (g_fd (fun uZ => fdG1 _ uZ)) ?_
    refine oc (g_lo 0 4 uN iN) ?_
    refine oc (g_bn (fun uZ => neq_n _ _ hf hq _ h2 uZ)) ?_
    refine oc g_pk ?_
    refine oc g_mv ?_
    refine oc (g_fd (fun uZ => fdG0 _ uZ)) ?_
    refine oc (g_lo 0 0 uN iN) ?_
    refine oc (g_fd (fun uZ => fdG1 _ uZ)) ?_
    refine oc (g_lo 0 4 uN iN) ?_
    refine oc (g_cl ent_cert_isTwiceAndOne (fun uZ => hT.out uZ)) ?_
    refine oc (g_un (fun uZ => rfl)) ?_
    refine oc g_pk ?_
    exact oc g_as on
  intro u3 HB3 sz3 K3
  simp only [fX, nK, nP, Wr.f, aK, pM] at K3
  simp only [setG, setN, List.set_cons_zero, List.set_cons_succ]
  clear K2 HB2
  go_upto_region 6 with fail
  refine rgP K3 HB3 HB3.size [] [] [(0, 42, .pointer (some ⟨w.heap.size, 8, none⟩)), (1, 43, NV g), (2, 44, GX (p) (q) (g) (h)), (3, 45, .bool true), (4, 46, .bool false), (5, 47, .bool false), (6, 48, .pointer (some ⟨w.heap.size, 12, none⟩)), (7, 49, NV h), (8, 50, GX (p) (q) (g) (h)), (9, 51, .bool true), (10, 52, .bool false), (11, 53, .bool false), (12, 54, .bool false), (13, 55, .pointer (some ⟨w.heap.size, 8, none⟩)), (14, 56, NV g), (15, 57, .pointer (some ⟨w.heap.size, 12, none⟩)), (16, 58, NV h), (17, 59, .bool true), (18, 60, .bool true), (19, 41, .bool true)] [] [] [false] ?_ ?_
  · refine oc (g_fd (fun uZ => fdG2 _ uZ)) ?_
    refine oc (g_lo 0 8 uN iN) ?_
    refine oc (g_ld 0 Try.underlying33 info_api_Group) ?_
    refine oc (g_cl ent_cert_generates (fun uZ => hG1.out uZ)) ?_
    refine oc (g_un (fun uZ => rfl)) ?_
    refine oc g_mv ?_
    refine oc (g_fd (fun uZ => fdG3 _ uZ)) ?_
    refine oc (g_lo 0 12 uN iN) ?_
    refine oc (g_ld 0 Try.underlying33 info_api_Group) ?_
    refine oc (g_cl ent_cert_generates (fun uZ => hG2.out uZ)) ?_
    refine oc (g_un (fun uZ => rfl)) ?_
    refine oc g_pk ?_
    refine oc g_mv ?_
    refine oc (g_fd (fun uZ => fdG2 _ uZ)) ?_
    refine oc (g_lo 0 8 uN iN) ?_
    refine oc (g_fd (fun uZ => fdG3 _ uZ)) ?_
    refine oc (g_lo 0 12 uN iN) ?_
    refine oc (g_bn (fun uZ => eql_n _ _ hg hh _ h3 uZ)) ?_
    refine oc g_pk ?_
    exact oc g_as on
  intro u4 HB4 sz4 K4
  simp only [fX, nK, nP, Wr.f, aK, pM] at K4
  simp only [setG, setN, List.set_cons_zero, List.set_cons_succ]
  clear K3 HB3
  go_upto_region 7 with fail
  refine rgP K4 HB4 HB4.size [] [] [(0, 4, (Go.Value.int Go.IntKind.i64 30))] [] [] [] ?_ ?_
  · exact oc g_as on
  intro u5 HB5 sz5 K5
  simp only [fX, nK, nP, Wr.f, aK, pM] at K5
  simp only [setG, setN, List.set_cons_zero, List.set_cons_succ]
  clear K4 HB4
  go_wp2
  refine bodyPost_ret (v := .int .i64 30) (by simp [results, Try.results17, go_sem, ]) rfl ⟨rfl, HB5⟩
set_option maxRecDepth 100000 in
set_option maxHeartbeats 4000000 in
theorem cgroup_ok (p q g h n f : Int) (b0 cap : Nat) (cs : List (Int × Int × Int)) (w : World) (hp : In p) (hq : In q) (hg : In g) (hh : In h) (hcs : cs.length ≤ 256) (hin : Hid (∀ j, j < cs.length → In (cat cs j).1 ∧ In (cat cs j).2.1 ∧ In (cat cs j).2.2)) (hlt : b0 < w.heap.size) (hcv : Hid (CV w b0 (flC cs))) (hcap : cs.length ≤ cap) (hb : cfB cs = true) (h0 : 0 < cs.length) (hlast : (cat cs (cs.length - 1)).1 = n) (hlf : Hid ((cat cs (cs.length - 1)).2.1 = f)) (hn : In n) (hf : In f)(h1 : decide (n = p) = !false)(h2 : decide (f = q) = !false)(hT : Hid (∀ u, Calls Try.prog 37 #[NV p, NV q] u fun e u' => e = .returned (.bool true) ∧ Below u.heap.size u u'))(hG1 : Hid (∀ u, Calls Try.prog 38 #[NV g, GX p q g h] u fun e u' => e = .returned (.bool true) ∧ Below u.heap.size u u'))(hG2 : Hid (∀ u, Calls Try.prog 38 #[NV h, GX p q g h] u fun e u' => e = .returned (.bool true) ∧ Below u.heap.size u u'))(h3 : decide (g = h) = false) :
    Calls Try.prog 17 #[GX p q g h, .slice (some ⟨b0, 0, none⟩) cs.length cap] w fun e w' => e = .returned (.int .i64 0) ∧ Below w.heap.size w w' := by
  go_enter Try.func17, Try.ntmps17
  go_upto_region 1 with fail
  generalize hC : (w.alloc (.cells (GE (p) (q) (g) (h) : List Value).toArray 33)) = v0 at *
  have HB0 : Below w.heap.size w v0 := by rw [← hC]; exact balloc (bself w) _
  have K0 : Bk w.heap.size v0 [(true, w.heap.size, GE (p) (q) (g) (h))] := by rw [← hC]; exact (Bk.nil _ w).ad
  clear hC
  refine rgP K0 HB0 HB0.size [] [(5, 5, L0s, some (6, LN n))] [(0, 8, .slice (some ⟨b0, 0, none⟩) cs.length cap), (1, 9, .tuple #[NV n, .int .i64 0]), (2, 7, .tuple #[NV n, .int .i64 0]), (3, 10, NV n), (4, 11, .int .i64 0), (7, 6, .int .i64 0)] [(6, 5)] [] [] ?_ ?_
  · refine oc g_mv ?_
    refine oc (g_cb ent_cert_Check (fun uZ bZ => cCheck_own_p cs n uZ _ 0 hb hlast hcs hin ⟨b0, cap, rfl, Nat.zero_le _, Nat.lt_of_lt_of_le hlt bZ.size, hcap, hcv.out.below bZ hlt⟩)) ?_
    refine oc g_mv ?_
    refine oc g_ex ?_
    refine oc g_ex ?_
    refine oc (g_al 0 aN) ?_
    refine oc (g_sn 0 iN) ?_
    exact oc g_as on
  intro u1 b1_5 HB1 sz1 K1
  simp only [fX, nK, nP, Wr.f, aK, pM] at K1
  simp only [setG, setN, List.set_cons_zero, List.set_cons_succ]
  clear K0 HB0
  have hz3 : (cs.length : Int) - 1 = ((cs.length - 1 : Nat) : Int) := by omega
  have hR : w.rangeAt b0 (0 + 12 * (cs.length - 1) + 4) (LN f) := fun c v hc => by
    rw [Nat.zero_add]; exact (hcv.out _ v (flC_F cs (cs.length - 1) (by omega) c v (by rw [hlf.out]; exact hc))).1
  have hR : Hid _ := hR
  go_upto_region 2 with fail
  refine rgP K1 HB1 HB1.size [] [] [(0, 13, .int .i64 0), (1, 14, .bool false), (2, 12, .bool false)] [] [] [] ?_ ?_
  · refine oc g_mv ?_
    refine oc (g_bn (fun uZ => neq_i _ _ _ 0 0 _ uZ rfl)) ?_
    exact oc g_as on
  intro u2 HB2 sz2 K2
  simp only [fX, nK, nP, Wr.f, aK, pM] at K2
  simp only [setG, setN, List.set_cons_zero, List.set_cons_succ]
  clear K1 HB1
  go_upto_region 4 with fail
  refine rgD K2 HB2 HB2.size [] [] [(0, 17, NV n), (1, 18, .pointer (some ⟨w.heap.size, 0, none⟩)), (2, 19, NV p), (3, 20, .bool false), (4, 21, .bool false), (5, 22, .slice (some ⟨b0, 0, none⟩) cs.length cap), (6, 23, .slice (some ⟨b0, 0, none⟩) cs.length cap), (7, 24, .int .i64 (cs.length : Int)), (8, 25, .int .i64 ((cs.length - 1 : Nat) : Int)), (9, 26, .pointer (some ⟨b0, 0 + 12 * (cs.length - 1), none⟩)), (10, 27, .pointer (some ⟨b0, 0 + 12 * (cs.length - 1) + 4, none⟩)), (11, 28, NV f), (12, 29, .pointer (some ⟨w.heap.size, 4, none⟩)), (13, 30, NV q), (14, 31, .bool false), (15, 32, .bool false), (16, 33, .bool false), (17, 34, .pointer (some ⟨w.heap.size, 0, none⟩)), (18, 35, NV p), (19, 36, .pointer (some ⟨w.heap.size, 4, none⟩)), (20, 37, NV q), (21, 38, .bool true), (22, 39, .bool false), (23, 40, .bool false), (24, 16, .bool false)] [] [] [true, false] ?_ ?_
  · refine oc (g_ld 1 uN iN) ?_
    refine oc (g_fd (fun uZ => fdG0 _ uZ)) ?_
    refine oc (g_lo 0 0 uN iN) ?_
    refine oc (g_bn (fun uZ => neq_n _ _ hn hp _ h1 uZ)) ?_
    refine oc g_mv ?_
    refine oc g_mv ?_
    refine oc g_mv ?_
    refine oc (g_ln Try.underlying31) ?_
    refine oc (g_bn (fun uZ => sub_i _ _ (cs.length : Int) 1 ((cs.length - 1 : Nat) : Int) uZ hz3 (by omega) (by omega))) ?_
    refine oc (g_ix (fun uZ => ixC b0 0 cs.length cap (cs.length - 1) (by omega) uZ)) ?_
    refine oc (g_fd (fun uZ => fdC1x _ _ uZ)) ?_
    refine oc (g_lf hR.out hlt uN iN) ?_
    refine oc (g_fd (fun uZ => fdG1 _ uZ)) ?_
    refine oc (g_lo 0 4 uN iN) ?_
    refine oc (g_bn (fun uZ => neq_n _ _ hf hq _ h2 uZ)) ?_
    refine oc g_pk ?_
    refine oc g_mv ?_
    refine oc (g_fd (fun uZ => fdG0 _ uZ)) ?_
    refine oc (g_lo 0 0 uN iN) ?_
    refine oc (g_fd (fun uZ => fdG1 _ uZ)) ?_
    refine oc (g_lo 0 4 uN iN) ?_
    refine oc (g_cl ent_cert_isTwiceAndOne (fun uZ => hT.out uZ)) ?_
    refine oc (g_un (fun uZ => rfl)) ?_
    refine oc g_pk ?_
    exact oc g_as on
  intro u3 HB3 sz3 K3
  simp only [fX, nK, nP, Wr.f, aK, pM] at K3
  simp only [setG, setN, List.set_cons_zero, List.set_cons_succ]
  clear K2 HB2
  go_upto_region 6 with fail
  refine rgP K3 HB3 HB3.size [] [] [(0, 42, .pointer (some ⟨w.heap.size, 8, none⟩)), (1, 43, NV g), (2, 44, GX (p) (q) (g) (h)), (3, 45, .bool true), (4, 46, .bool false), (5, 47, .bool false), (6, 48, .pointer (some ⟨w.heap.size, 12, none⟩)), (7, 49, NV h), (8, 50, GX (p) (q) (g) (h)), (9, 51, .bool true), (10, 52, .bool false), (11, 53, .bool false), (12, 54, .bool false), (13, 55, .pointer (some ⟨w.heap.size, 8, none⟩)), (14, 56, NV g), (15, 57, .pointer (some ⟨w.heap.size, 12, none⟩)), (16, 58, NV h), (17, 59, .bool false), (18, 60, .bool false), (19, 41, .bool false)] [] [] [false] ?_ ?_
  · refine oc (g_fd (fun uZ => fdG2 _ uZ)) ?_
    refine oc (g_lo 0 8 uN iN) ?_
    refine oc (g_ld 0 Try.underlying33 info_api_Group) ?_
    refine oc (g_cl ent_cert_generates (fun uZ => hG1.out uZ)) ?_
    refine oc (g_un (fun uZ => rfl)) ?_
    refine oc g_mv ?_
    refine oc (g_fd (fun uZ => fdG3 _ uZ)) ?_
    refine oc (g_lo 0 12 uN iN) ?_
    refine oc (g_ld 0 Try.underlying33 info_api_Group) ?_
    refine oc (g_cl ent_cert_generates (fun uZ => hG2.out uZ)) ?_
    refine oc (g_un (fun uZ => rfl)) ?_
    refine oc g_pk ?_
    refine oc g_mv ?_
    refine oc (g_fd (fun uZ => fdG2 _ uZ)) ?_
    refine oc (g_lo 0 8 uN iN) ?_
    refine oc (g_fd (fun uZ => fdG3 _ uZ)) ?_
    refine oc (g_lo 0 12 uN iN) ?_
    refine oc (g_bn (fun uZ => eql_n _ _ hg hh _ h3 uZ)) ?_
    refine oc g_pk ?_
    exact oc g_as on
  intro u4 HB4 sz4 K4
  simp only [fX, nK, nP, Wr.f, aK, pM] at K4
  simp only [setG, setN, List.set_cons_zero, List.set_cons_succ]
  clear K3 HB3
  go_upto_region 8 with fail
  refine rgP K4 HB4 HB4.size [] [] [(0, 4, (Go.Value.int Go.IntKind.i64 0))] [] [] [] ?_ ?_
  · exact oc g_as on
  intro u5 HB5 sz5 K5
  simp only [fX, nK, nP, Wr.f, aK, pM] at K5
  simp only [setG, setN, List.set_cons_zero, List.set_cons_succ]
  clear K4 HB4
  go_wp2
  refine bodyPost_ret (v := .int .i64 0) (by simp [results, Try.results17, go_sem, ]) rfl ⟨rfl, HB5⟩
/-- Is the group right by the steps? -/
noncomputable def gpB (p q g h : Int) (cs : List (Int × Int × Int)) : Bool := cfB cs && (decide ((cat cs (cs.length - 1)).1 = p) && (decide ((cat cs (cs.length - 1)).2.1 = q) && (twB p q && (gnB g p q && (gnB h p q && !decide (g = h))))))
noncomputable def gpE (p q g h : Int) (cs : List (Int × Int × Int)) : Int := if gpB p q g h cs then 0 else 30
theorem gpE_f {p q g h : Int} {cs : List (Int × Int × Int)} (e : gpB p q g h cs = false) : gpE p q g h cs = 30 := by unfold gpE; rw [e]; rfl
theorem gpE_t {p q g h : Int} {cs : List (Int × Int × Int)} (e : gpB p q g h cs = true) : gpE p q g h cs = 0 := by unfold gpE; rw [e]; rfl
theorem cGroup (p q g h : Int) (b0 cap : Nat) (cs : List (Int × Int × Int)) (w : World) (hp : In p) (hq : In q) (hg : In g) (hh : In h) (hcs : cs.length ≤ 256) (hin : Hid (∀ j, j < cs.length → In (cat cs j).1 ∧ In (cat cs j).2.1 ∧ In (cat cs j).2.2)) (hlt : b0 < w.heap.size) (hcv : Hid (CV w b0 (flC cs))) (hcap : cs.length ≤ cap) :
    Calls Try.prog 17 #[GX p q g h, .slice (some ⟨b0, 0, none⟩) cs.length cap] w fun e w' => e = .returned (.int .i64 (gpE p q g h cs)) ∧ Below w.heap.size w w' := by
  cases hb : cfB cs with
  | false =>
    rw [gpE_f (by unfold gpB; rw [hb]; rfl)]
    exact cgroup_f p q g h 0 0 b0 cap cs w hp hq hg hh hcs hin hlt hcv hcap hb
  | true =>
    obtain ⟨h0, hpr⟩ := cfB_pr hin.out hb
    obtain ⟨hn, hf, _⟩ := hin.out (cs.length - 1) (by omega)
    by_cases h1 : (cat cs (cs.length - 1)).1 = p
    rotate_left
    · rw [gpE_f (by unfold gpB; rw [hb, decide_eq_false h1]; rfl)]
      exact cgroup_n p q g h _ _ b0 cap cs w hp hq hg hh hcs hin hlt hcv hcap hb h0 rfl rfl hn hf (decide_eq_false h1)
    by_cases h2 : (cat cs (cs.length - 1)).2.1 = q
    rotate_left
    · rw [gpE_f (by unfold gpB; rw [hb, decide_eq_true h1, decide_eq_false h2]; rfl)]
      exact cgroup_q p q g h _ _ b0 cap cs w hp hq hg hh hcs hin hlt hcv hcap hb h0 rfl rfl hn hf (decide_eq_true h1) (decide_eq_false h2)
    have h1' : decide ((cat cs (cs.length - 1)).1 = p) = !false := decide_eq_true h1
    have h2' : decide ((cat cs (cs.length - 1)).2.1 = q) = !false := decide_eq_true h2
    have hT := fun u => cTwice p q u hp hq
    have p1 : 1 ≤ p := by have := hpr.1; omega
    have hG1 := fun u => cGen g p q g h u hp hq hg p1
    have hG2 := fun u => cGen h p q g h u hp hq hh p1
    have e : gpB p q g h cs = (twB p q && (gnB g p q && (gnB h p q && !decide (g = h)))) := by unfold gpB; rw [hb, h1', h2']; rfl
    cases ht : twB p q with
    | false =>
      rw [ht] at hT e
      rw [gpE_f (by rw [e]; rfl)]
      exact cgroup_t p q g h _ _ b0 cap cs w hp hq hg hh hcs hin hlt hcv hcap hb h0 rfl rfl hn hf h1' h2' hT
    | true =>
    rw [ht] at hT e
    cases hg1 : gnB g p q with
    | false =>
      rw [hg1] at hG1 e
      rw [gpE_f (by rw [e]; rfl)]
      exact cgroup_g p q g h _ _ b0 cap cs w hp hq hg hh hcs hin hlt hcv hcap hb h0 rfl rfl hn hf h1' h2' hT hG1
    | true =>
    rw [hg1] at hG1 e
    cases hg2 : gnB h p q with
    | false =>
      rw [hg2] at hG2 e
      rw [gpE_f (by rw [e]; rfl)]
      exact cgroup_h p q g h _ _ b0 cap cs w hp hq hg hh hcs hin hlt hcv hcap hb h0 rfl rfl hn hf h1' h2' hT hG1 hG2
    | true =>
    rw [hg2] at hG2 e
    cases h3 : decide (g = h) with
    | true =>
      rw [h3] at e
      rw [gpE_f (by rw [e]; rfl)]
      exact cgroup_e p q g h _ _ b0 cap cs w hp hq hg hh hcs hin hlt hcv hcap hb h0 rfl rfl hn hf h1' h2' hT hG1 hG2 h3
    | false =>
      rw [h3] at e
      rw [gpE_t (by rw [e]; rfl)]
      exact cgroup_ok p q g h _ _ b0 cap cs w hp hq hg hh hcs hin hlt hcv hcap hb h0 rfl rfl hn hf h1' h2' hT hG1 hG2 h3
end Go.Proofs.Ytgfggkinmhhdnaa
/- Primes that are certified: the reference's Check and Group. -/
namespace Go.Proofs.Ytgfggkinmhhdnaa
open Go.RowKit
set_option linter.unusedVariables false
set_option linter.unusedSimpArgs false
theorem ent_seneschalref03_Small (vs : Array Value) (w : World) : (callFunc 10 vs).run Try.prog w = .ok (.enter 10 vs) w := by kernel_rfl
theorem ent_seneschalref03_Step (vs : Array Value) (w : World) : (callFunc 12 vs).run Try.prog w = .ok (.enter 12 vs) w := by kernel_rfl
theorem ent_seneschalref03_Check (vs : Array Value) (w : World) : (callFunc 16 vs).run Try.prog w = .ok (.enter 16 vs) w := by kernel_rfl
theorem ent_seneschalref03_member (vs : Array Value) (w : World) : (callFunc 39 vs).run Try.prog w = .ok (.enter 39 vs) w := by kernel_rfl
theorem ent_seneschalref03_Group (vs : Array Value) (w : World) : (callFunc 18 vs).run Try.prog w = .ok (.enter 18 vs) w := by kernel_rfl
theorem range_F {w : World} {g o : Nat} {n f a : Int} (h : w.rangeAt g o (CE n f a)) : w.rangeAt g (o + 4) (LN f) := fun c v hc => by
  have hl : c < 4 := by have := (List.getElem?_eq_some_iff.1 hc).1; simpa using this
  have := h (4 + c) v (by rcases (by omega : c = 0 ∨ c = 1 ∨ c = 2 ∨ c = 3) with rfl | rfl | rfl | rfl <;> simpa using hc)
  rwa [← Nat.add_assoc] at this
theorem rng_at {w : World} {b : Nat} {cs : List (Int × Int × Int)} (h : CV w b (flC cs)) (j : Nat) (hj : j < cs.length) : w.rangeAt b (0 + 12 * j) (CE (cat cs j).1 (cat cs j).2.1 (cat cs j).2.2) := h.sct.at j hj
set_option maxRecDepth 100000 in
set_option maxHeartbeats 4000000 in
theorem xCheck (cs : List (Int × Int × Int)) (N : Int) (R : Value) (b0 cap : Nat) (w : World) (hcs : cs.length ≤ 256) (hin : Hid (∀ j, j < cs.length → In (cat cs j).1 ∧ In (cat cs j).2.1 ∧ In (cat cs j).2.2)) (hlt : b0 < w.heap.size) (hcv : Hid (CV w b0 (flC cs))) (hlast : Hid ((cat cs (cs.length - 1)).1 = N)) (hF : cfB cs = false → R = .tuple #[A4 0 0 0 0, .int .i64 30]) (hTr : cfB cs = true → R = .tuple #[NV N, .int .i64 0]) :
    Calls Try.prog 16 #[.slice (some ⟨b0, 0, none⟩) cs.length cap] w fun e w' => e = .returned R ∧ Below w.heap.size w w' := by
  go_enter Try.func16, Try.ntmps16
  go_upto_region 1 with fail
  generalize hC : (w.alloc (.cells (L0s : List Value).toArray 24)) = v0 at *
  have HB0 : Below w.heap.size w v0 := by rw [← hC]; exact balloc (bself w) _
  have K0 : Bk w.heap.size v0 [(true, w.heap.size, L0s)] := by rw [← hC]; exact (Bk.nil _ w).ad
  clear hC
  have hl : decide (256 < (cs.length : Int)) = false := by simp; omega
  refine rgP K0 HB0 HB0.size [] [] [(0, 5, .slice (some ⟨b0, 0, none⟩) cs.length cap), (1, 6, .int .i64 (cs.length : Int)), (2, 7, .bool false)] [] [] [] ?_ ?_
  · refine oc g_mv ?_
    refine oc (g_ln Try.underlying31) ?_
    exact oc (g_bn (fun uZ => gtr_i _ _ (cs.length : Int) 256 _ uZ hl)) on
  intro u1 HB1 sz1 K1
  simp only [fX, nK, nP, Wr.f, aK, pM] at K1
  simp only [setG, setN, List.set_cons_zero, List.set_cons_succ]
  clear K0 HB0
  by_cases h0 : cs.length = 0
  · have hz : ((cs.length : Int) == 0) = true := by rw [beq_iff_eq]; omega
    have hFF : cfB cs = false := by rw [cfB, h0]; simp
    go_upto_region 3 with fail
    refine rgP K1 HB1 HB1.size [] [] [(0, 9, .slice (some ⟨b0, 0, none⟩) cs.length cap), (1, 10, .int .i64 (cs.length : Int)), (2, 11, .bool true), (3, 12, .bool true), (4, 13, undef), (5, 14, undef), (6, 15, undef), (7, 16, undef), (8, 17, undef), (9, 18, undef), (10, 19, (Go.Value.bool Bool.true))] [] [] [] ?_ ?_
    · refine oc g_mv ?_
      refine oc (g_ln Try.underlying31) ?_
      refine oc (g_bn (fun uZ => eql_i _ _ _ (cs.length : Int) 0 _ uZ hz)) ?_
      refine oc g_mv ?_
      refine oc g_sk ?_
      refine oc g_sk ?_
      refine oc g_sk ?_
      refine oc g_sk ?_
      refine oc g_sk ?_
      refine oc g_sk ?_
      exact oc g_pk on
    intro u2 HB2 sz2 K2
    simp only [fX, nK, nP, Wr.f, aK, pM] at K2
    simp only [setG, setN, List.set_cons_zero, List.set_cons_succ]
    clear K1 HB1
    go_upto_region 4 with fail
    refine rgP K2 HB2 HB2.size [.all 1 ([.int .u64 (0), .int .u64 (0), .int .u64 (0), .int .u64 (0)])] [] [(0, 20, A4 (0) (0) (0) (0)), (2, 3, (Go.Value.int Go.IntKind.i64 30))] [] [] [] ?_ ?_
    · refine oc (g_bd zN) ?_
      refine oc (g_st 0 iN) ?_
      exact oc g_as on
    intro u3 HB3 sz3 K3
    simp only [fX, nK, nP, Wr.f, aK, pM] at K3
    simp only [setG, setN, List.set_cons_zero, List.set_cons_succ]
    clear K2 HB2
    have c2_0 := ((K3.cv 0) 0 _ rfl).1
    have c2_1 := ((K3.cv 0) 1 _ rfl).1
    have c2_2 := ((K3.cv 0) 2 _ rfl).1
    have c2_3 := ((K3.cv 0) 3 _ rfl).1
    go_wp2
    refine bodyPost_ret (v := .tuple #[A4 0 0 0 0, .int .i64 30]) (by simp [results, Try.results16, go_sem, c2_0, c2_1, c2_2, c2_3]) rfl ⟨by first | rfl | rw [hF hFF], HB3⟩
  · have hz : ((cs.length : Int) == 0) = false := by rw [beq_eq_false_iff_ne]; omega
    obtain ⟨n0, f0, a0, hc0⟩ : ∃ n f a, cat cs 0 = (n, f, a) := ⟨_, _, _, rfl⟩
    have hR0 := rng_at hcv.out 0 (by omega)
    have hI0 := (hin.out 0 (by omega)).2.1
    rw [hc0] at hR0 hI0
    have hR0 : Hid _ := range_F hR0
    have hF0 := @cfB_f cs 0 (by omega)
    rw [hc0] at hF0
    have hk0 : knB cs 0 = smB f0 := by rw [knB, hc0]
    obtain ⟨s0, hs0⟩ : ∃ s, smB f0 = s := ⟨_, rfl⟩
    have hsm : Hid (∀ u, Calls Try.prog 10 #[NV f0] u fun e u' => e = .returned (.bool s0) ∧ Below u.heap.size u u') := fun u => by rw [← hs0]; exact xSmall f0 u hI0
    cases s0
    · have hFF : cfB cs = false := hF0 (by rw [hk0, hs0]; rfl)
      go_upto_region 3 with fail
      refine rgP K1 HB1 HB1.size [] [] [(0, 9, .slice (some ⟨b0, 0, none⟩) cs.length cap), (1, 10, .int .i64 (cs.length : Int)), (2, 11, .bool false), (3, 12, .bool false), (4, 13, .slice (some ⟨b0, 0, none⟩) cs.length cap), (5, 14, .pointer (some ⟨b0, 0 + 12 * 0, none⟩)), (6, 15, .pointer (some ⟨b0, 0 + 12 * 0 + 4, none⟩)), (7, 16, NV f0), (8, 17, .bool false), (9, 18, .bool true), (10, 19, .bool true)] [] [] [] ?_ ?_
      · refine oc g_mv ?_
        refine oc (g_ln Try.underlying31) ?_
        refine oc (g_bn (fun uZ => eql_i _ _ _ (cs.length : Int) 0 _ uZ hz)) ?_
        refine oc g_mv ?_
        refine oc g_mv ?_
        refine oc (g_ix (fun uZ => ixC b0 0 cs.length cap 0 (by omega) uZ)) ?_
        refine oc (g_fd (fun uZ => fdC1x _ _ uZ)) ?_
        refine oc (g_lf hR0.out hlt uN iN) ?_
        refine oc (g_cl ent_seneschalref03_Small (fun uZ => hsm.out uZ)) ?_
        refine oc (g_un (fun uZ => rfl)) ?_
        exact oc g_pk on
      intro u2 HB2 sz2 K2
      simp only [fX, nK, nP, Wr.f, aK, pM] at K2
      simp only [setG, setN, List.set_cons_zero, List.set_cons_succ]
      clear K1 HB1
      go_upto_region 4 with fail
      refine rgP K2 HB2 HB2.size [.all 1 ([.int .u64 (0), .int .u64 (0), .int .u64 (0), .int .u64 (0)])] [] [(0, 20, A4 (0) (0) (0) (0)), (2, 3, (Go.Value.int Go.IntKind.i64 30))] [] [] [] ?_ ?_
      · refine oc (g_bd zN) ?_
        refine oc (g_st 0 iN) ?_
        exact oc g_as on
      intro u3 HB3 sz3 K3
      simp only [fX, nK, nP, Wr.f, aK, pM] at K3
      simp only [setG, setN, List.set_cons_zero, List.set_cons_succ]
      clear K2 HB2
      have c2_0 := ((K3.cv 0) 0 _ rfl).1
      have c2_1 := ((K3.cv 0) 1 _ rfl).1
      have c2_2 := ((K3.cv 0) 2 _ rfl).1
      have c2_3 := ((K3.cv 0) 3 _ rfl).1
      go_wp2
      refine bodyPost_ret (v := .tuple #[A4 0 0 0 0, .int .i64 30]) (by simp [results, Try.results16, go_sem, c2_0, c2_1, c2_2, c2_3]) rfl ⟨by first | rfl | rw [hF hFF], HB3⟩
    · skip
      go_upto_region 3 with fail
      refine rgP K1 HB1 HB1.size [] [] [(0, 9, .slice (some ⟨b0, 0, none⟩) cs.length cap), (1, 10, .int .i64 (cs.length : Int)), (2, 11, .bool false), (3, 12, .bool false), (4, 13, .slice (some ⟨b0, 0, none⟩) cs.length cap), (5, 14, .pointer (some ⟨b0, 0 + 12 * 0, none⟩)), (6, 15, .pointer (some ⟨b0, 0 + 12 * 0 + 4, none⟩)), (7, 16, NV f0), (8, 17, .bool true), (9, 18, .bool false), (10, 19, .bool false)] [] [] [] ?_ ?_
      · refine oc g_mv ?_
        refine oc (g_ln Try.underlying31) ?_
        refine oc (g_bn (fun uZ => eql_i _ _ _ (cs.length : Int) 0 _ uZ hz)) ?_
        refine oc g_mv ?_
        refine oc g_mv ?_
        refine oc (g_ix (fun uZ => ixC b0 0 cs.length cap 0 (by omega) uZ)) ?_
        refine oc (g_fd (fun uZ => fdC1x _ _ uZ)) ?_
        refine oc (g_lf hR0.out hlt uN iN) ?_
        refine oc (g_cl ent_seneschalref03_Small (fun uZ => hsm.out uZ)) ?_
        refine oc (g_un (fun uZ => rfl)) ?_
        exact oc g_pk on
      intro u2 HB2 sz2 K2
      simp only [fX, nK, nP, Wr.f, aK, pM] at K2
      simp only [setG, setN, List.set_cons_zero, List.set_cons_succ]
      clear K1 HB1
      go_upto_region 5 with fail
      refine rgP K2 HB2 HB2.size [] [] [(0, 4, (Go.Value.int Go.IntKind.i64 0))] [] [] [] ?_ ?_
      · exact oc g_as on
      intro u3 HB3 sz3 K3
      simp only [fX, nK, nP, Wr.f, aK, pM] at K3
      simp only [setG, setN, List.set_cons_zero, List.set_cons_succ]
      clear K2 HB2
      go_wp2_with fail
      go_loopw [4] (fun s4 wr => ∃ (k : Nat), k ≤ cs.length ∧ s4 = .int .i64 (k : Int) ∧ Hid (crB cs k = true) ∧ Below w.heap.size w wr ∧ CV wr w.heap.size L0s ∧ w.heap.size < wr.heap.size) (fun s4 _ => cs.length - (intOf s4).toNat)
      case atStart => exact ⟨0, by omega, rfl, rfl, HB3, (K3.cv 0), (K3.lt 0)⟩
      case round =>
        obtain ⟨k, hk, rfl, hA, HBr, KR, lR⟩ := hrel
        clear HB3
        by_cases hj : k < cs.length
        · have hl1 : decide ((k : Int) < (cs.length : Int)) = true := by simp; omega
          obtain ⟨n, f, a, hc⟩ : ∃ n f a, cat cs k = (n, f, a) := ⟨_, _, _, rfl⟩
          have hR := rng_at hcv.out k hj
          have hI := hin.out k hj
          have hFk := @cfB_f cs k hj
          have hT : crB cs (k + 1) = (crB cs k && (knB cs k && stB (cat cs k).1 (cat cs k).2.1 (cat cs k).2.2)) := rfl
          rw [hc] at hR hI hFk hT
          rw [hA.out] at hT
          obtain ⟨hn, hf, ha⟩ := hI
          have hRF : Hid _ := range_F hR
          have hR : Hid _ := hR
          have hX := ixC b0 0 cs.length cap k hj
          have hX : Hid _ := hX
          obtain ⟨s, hs⟩ : ∃ s, stB n f a = s := ⟨_, rfl⟩
          have hst : Hid (∀ u, Calls Try.prog 12 #[CX n f a] u fun e u' => e = .returned (.bool s) ∧ Below u.heap.size u u') := fun u => by rw [← hs]; exact xStep n f a u hn hf ha
          have K3_1 : Bk w.heap.size wr [(true, w.heap.size, L0s)] := ⟨.o lR (K3.lo 0) KR <| trivial, by simp⟩
          go_upto_region 6 with fail
          refine rgP K3_1 HBr HBr.size [] [] [(0, 21, .int .i64 (k : Int)), (1, 22, .slice (some ⟨b0, 0, none⟩) cs.length cap), (2, 23, .int .i64 (cs.length : Int)), (3, 24, .bool true)] [] [] [] ?_ ?_
          · refine oc g_mv ?_
            refine oc g_mv ?_
            refine oc (g_ln Try.underlying31) ?_
            exact oc (g_bn (fun uZ => lss_i _ _ (k : Int) (cs.length : Int) _ uZ hl1)) on
          intro u4 HB4 sz4 K4
          simp only [fX, nK, nP, Wr.f, aK, pM] at K4
          simp only [setG, setN, List.set_cons_zero, List.set_cons_succ]
          by_cases hz0 : k = 0
          · have hz2 : decide (0 < (k : Int)) = false := by simp; omega
            have hkn : knB cs k = true := by subst hz0; rw [hk0, hs0]
            cases s
            · have hFF : cfB cs = false := hFk (by rw [hs, Bool.and_false])
              go_upto_region 8 with fail
              refine rgD K4 HB4 HB4.size [] [] [(0, 27, .int .i64 (k : Int)), (1, 28, .bool false), (2, 29, .bool false), (3, 30, undef), (4, 31, undef), (5, 32, undef), (6, 33, undef), (7, 34, undef), (8, 35, undef), (9, 36, undef), (10, 37, undef), (11, 38, undef), (12, 39, undef), (13, 40, undef), (14, 41, undef), (15, 42, (Go.Value.bool Bool.false)), (16, 43, (Go.Value.bool Bool.false)), (17, 44, .slice (some ⟨b0, 0, none⟩) cs.length cap), (18, 45, .int .i64 (k : Int)), (19, 46, .pointer (some ⟨b0, 0 + 12 * k, none⟩)), (20, 47, CX (n) (f) (a)), (21, 48, .bool false), (22, 49, .bool true), (23, 50, .bool true)] [] [] [] ?_ ?_
              · refine oc g_mv ?_
                refine oc (g_bn (fun uZ => gtr_i _ _ (k : Int) 0 _ uZ hz2)) ?_
                refine oc g_mv ?_
                refine oc g_sk ?_
                refine oc g_sk ?_
                refine oc g_sk ?_
                refine oc g_sk ?_
                refine oc g_sk ?_
                refine oc g_sk ?_
                refine oc g_sk ?_
                refine oc g_sk ?_
                refine oc g_sk ?_
                refine oc g_sk ?_
                refine oc g_sk ?_
                refine oc g_sk ?_
                refine oc g_pk ?_
                refine oc g_mv ?_
                refine oc g_mv ?_
                refine oc g_mv ?_
                refine oc (g_ix (fun uZ => hX.out uZ)) ?_
                refine oc (g_lf hR.out hlt Try.underlying26 info_api_Cert) ?_
                refine oc (g_cl ent_seneschalref03_Step (fun uZ => hst.out uZ)) ?_
                refine oc (g_un (fun uZ => rfl)) ?_
                exact oc g_pk on
              intro u5 HB5 sz5 K5
              simp only [fX, nK, nP, Wr.f, aK, pM] at K5
              simp only [setG, setN, List.set_cons_zero, List.set_cons_succ]
              clear K4 HB4
              go_upto_region 9 with fail
              refine rgP K5 HB5 HB5.size [.all 1 ([.int .u64 (0), .int .u64 (0), .int .u64 (0), .int .u64 (0)])] [] [(0, 51, A4 (0) (0) (0) (0)), (2, 3, (Go.Value.int Go.IntKind.i64 30))] [] [] [] ?_ ?_
              · refine oc (g_bd zN) ?_
                refine oc (g_st 0 iN) ?_
                exact oc g_as on
              intro u6 HB6 sz6 K6
              simp only [fX, nK, nP, Wr.f, aK, pM] at K6
              simp only [setG, setN, List.set_cons_zero, List.set_cons_succ]
              clear K5 HB5
              have c2_0 := ((K6.cv 0) 0 _ rfl).1
              have c2_1 := ((K6.cv 0) 1 _ rfl).1
              have c2_2 := ((K6.cv 0) 2 _ rfl).1
              have c2_3 := ((K6.cv 0) 3 _ rfl).1
              go_wp2
              refine bodyPost_ret (v := .tuple #[A4 0 0 0 0, .int .i64 30]) (by simp [results, Try.results16, go_sem, c2_0, c2_1, c2_2, c2_3]) rfl ⟨by first | rfl | rw [hF hFF], HB6⟩
            · skip
              go_upto_region 8 with fail
              refine rgD K4 HB4 HB4.size [] [] [(0, 27, .int .i64 (k : Int)), (1, 28, .bool false), (2, 29, .bool false), (3, 30, undef), (4, 31, undef), (5, 32, undef), (6, 33, undef), (7, 34, undef), (8, 35, undef), (9, 36, undef), (10, 37, undef), (11, 38, undef), (12, 39, undef), (13, 40, undef), (14, 41, undef), (15, 42, (Go.Value.bool Bool.false)), (16, 43, (Go.Value.bool Bool.false)), (17, 44, .slice (some ⟨b0, 0, none⟩) cs.length cap), (18, 45, .int .i64 (k : Int)), (19, 46, .pointer (some ⟨b0, 0 + 12 * k, none⟩)), (20, 47, CX (n) (f) (a)), (21, 48, .bool true), (22, 49, .bool false), (23, 50, .bool false)] [] [] [] ?_ ?_
              · refine oc g_mv ?_
                refine oc (g_bn (fun uZ => gtr_i _ _ (k : Int) 0 _ uZ hz2)) ?_
                refine oc g_mv ?_
                refine oc g_sk ?_
                refine oc g_sk ?_
                refine oc g_sk ?_
                refine oc g_sk ?_
                refine oc g_sk ?_
                refine oc g_sk ?_
                refine oc g_sk ?_
                refine oc g_sk ?_
                refine oc g_sk ?_
                refine oc g_sk ?_
                refine oc g_sk ?_
                refine oc g_sk ?_
                refine oc g_pk ?_
                refine oc g_mv ?_
                refine oc g_mv ?_
                refine oc g_mv ?_
                refine oc (g_ix (fun uZ => hX.out uZ)) ?_
                refine oc (g_lf hR.out hlt Try.underlying26 info_api_Cert) ?_
                refine oc (g_cl ent_seneschalref03_Step (fun uZ => hst.out uZ)) ?_
                refine oc (g_un (fun uZ => rfl)) ?_
                exact oc g_pk on
              intro u5 HB5 sz5 K5
              simp only [fX, nK, nP, Wr.f, aK, pM] at K5
              simp only [setG, setN, List.set_cons_zero, List.set_cons_succ]
              clear K4 HB4
              go_upto_region 7 with fail
              refine rgP K5 HB5 HB5.size [] [] [(0, 25, .int .i64 (k : Int)), (1, 26, .int .i64 ((k + 1 : Nat) : Int)), (2, 4, .int .i64 ((k + 1 : Nat) : Int))] [(2, 0)] [(2, 4)] [] ?_ ?_
              · refine oc g_mv ?_
                refine oc (g_bn (fun uZ => add_i _ _ (k : Int) 1 ((k + 1 : Nat) : Int) uZ (by omega) (by omega) (by omega))) ?_
                exact oc g_as on
              intro u6 HB6 sz6 K6
              simp only [fX, nK, nP, Wr.f, aK, pM] at K6
              simp only [setG, setN, List.set_cons_zero, List.set_cons_succ]
              clear K5 HB5
              go_wp2
              refine ⟨⟨k + 1, by omega, rfl, (by rw [hT, hkn, hs]; rfl), HB6, (K6.cv 0), (K6.lt 0)⟩, ?_⟩
              simp [intOf] <;> omega
          · obtain ⟨n', f', a', hc'⟩ : ∃ n f a, cat cs (k - 1) = (n, f, a) := ⟨_, _, _, rfl⟩
            have hR2 := rng_at hcv.out (k - 1) (by omega)
            have hI2 := hin.out (k - 1) (by omega)
            rw [hc'] at hR2 hI2
            have hR2 : Hid _ := range_N hR2
            have hn' : In n' := hI2.1
            clear hI2
            have hX2 := ixC b0 0 cs.length cap (k - 1) (by omega)
            have hX2 : Hid _ := hX2
            have hz2 : decide (0 < (k : Int)) = true := by simp; omega
            have hz3 : (k : Int) - 1 = ((k - 1 : Nat) : Int) := by omega
            have hke : knB cs k = decide (f = n') := by
              obtain ⟨j, rfl⟩ : ∃ j, k = j + 1 := ⟨k - 1, by omega⟩
              rw [Nat.add_sub_cancel] at hc'
              rw [knB, hc, hc']
            obtain ⟨b, hkn⟩ : ∃ b, knB cs k = b := ⟨_, rfl⟩
            have hkd : decide (f = n') = !!b := by rw [← hke, hkn, Bool.not_not]
            cases b
            · have hFF : cfB cs = false := hFk (by rw [hkn]; rfl)
              go_upto_region 8 with fail
              refine rgD K4 HB4 HB4.size [] [] [(0, 27, .int .i64 (k : Int)), (1, 28, .bool true), (2, 29, .bool true), (3, 30, .slice (some ⟨b0, 0, none⟩) cs.length cap), (4, 31, .int .i64 (k : Int)), (5, 32, .pointer (some ⟨b0, 0 + 12 * k, none⟩)), (6, 33, .pointer (some ⟨b0, 0 + 12 * k + 4, none⟩)), (7, 34, NV f), (8, 35, .slice (some ⟨b0, 0, none⟩) cs.length cap), (9, 36, .int .i64 (k : Int)), (10, 37, .int .i64 ((k - 1 : Nat) : Int)), (11, 38, .pointer (some ⟨b0, 0 + 12 * (k - 1), none⟩)), (12, 39, .pointer (some ⟨b0, 0 + 12 * (k - 1), none⟩)), (13, 40, NV (n')), (14, 41, .bool true), (15, 42, .bool true), (16, 43, .bool true), (17, 44, undef), (18, 45, undef), (19, 46, undef), (20, 47, undef), (21, 48, undef), (22, 49, undef), (23, 50, (Go.Value.bool Bool.true))] [] [] [] ?_ ?_
              · refine oc g_mv ?_
                refine oc (g_bn (fun uZ => gtr_i _ _ (k : Int) 0 _ uZ hz2)) ?_
                refine oc g_mv ?_
                refine oc g_mv ?_
                refine oc g_mv ?_
                refine oc (g_ix (fun uZ => hX.out uZ)) ?_
                refine oc (g_fd (fun uZ => fdC1x _ _ uZ)) ?_
                refine oc (g_lf hRF.out hlt uN iN) ?_
                refine oc g_mv ?_
                refine oc g_mv ?_
                refine oc (g_bn (fun uZ => sub_i _ _ (k : Int) 1 ((k - 1 : Nat) : Int) uZ hz3 (by omega) (by omega))) ?_
                refine oc (g_ix (fun uZ => hX2.out uZ)) ?_
                refine oc (g_fd (fun uZ => fdCx _ _ uZ)) ?_
                refine oc (g_lf hR2.out hlt uN iN) ?_
                refine oc (g_bn (fun uZ => neq_n _ _ hf hn' _ hkd uZ)) ?_
                refine oc g_pk ?_
                refine oc g_mv ?_
                refine oc g_sk ?_
                refine oc g_sk ?_
                refine oc g_sk ?_
                refine oc g_sk ?_
                refine oc g_sk ?_
                refine oc g_sk ?_
                exact oc g_pk on
              intro u5 HB5 sz5 K5
              simp only [fX, nK, nP, Wr.f, aK, pM] at K5
              simp only [setG, setN, List.set_cons_zero, List.set_cons_succ]
              clear K4 HB4
              go_upto_region 9 with fail
              refine rgP K5 HB5 HB5.size [.all 1 ([.int .u64 (0), .int .u64 (0), .int .u64 (0), .int .u64 (0)])] [] [(0, 51, A4 (0) (0) (0) (0)), (2, 3, (Go.Value.int Go.IntKind.i64 30))] [] [] [] ?_ ?_
              · refine oc (g_bd zN) ?_
                refine oc (g_st 0 iN) ?_
                exact oc g_as on
              intro u6 HB6 sz6 K6
              simp only [fX, nK, nP, Wr.f, aK, pM] at K6
              simp only [setG, setN, List.set_cons_zero, List.set_cons_succ]
              clear K5 HB5
              have c2_0 := ((K6.cv 0) 0 _ rfl).1
              have c2_1 := ((K6.cv 0) 1 _ rfl).1
              have c2_2 := ((K6.cv 0) 2 _ rfl).1
              have c2_3 := ((K6.cv 0) 3 _ rfl).1
              go_wp2
              refine bodyPost_ret (v := .tuple #[A4 0 0 0 0, .int .i64 30]) (by simp [results, Try.results16, go_sem, c2_0, c2_1, c2_2, c2_3]) rfl ⟨by first | rfl | rw [hF hFF], HB6⟩
            · cases s
              · have hFF : cfB cs = false := hFk (by rw [hs, Bool.and_false])
                go_upto_region 8 with fail
                refine rgD K4 HB4 HB4.size [] [] [(0, 27, .int .i64 (k : Int)), (1, 28, .bool true), (2, 29, .bool true), (3, 30, .slice (some ⟨b0, 0, none⟩) cs.length cap), (4, 31, .int .i64 (k : Int)), (5, 32, .pointer (some ⟨b0, 0 + 12 * k, none⟩)), (6, 33, .pointer (some ⟨b0, 0 + 12 * k + 4, none⟩)), (7, 34, NV f), (8, 35, .slice (some ⟨b0, 0, none⟩) cs.length cap), (9, 36, .int .i64 (k : Int)), (10, 37, .int .i64 ((k - 1 : Nat) : Int)), (11, 38, .pointer (some ⟨b0, 0 + 12 * (k - 1), none⟩)), (12, 39, .pointer (some ⟨b0, 0 + 12 * (k - 1), none⟩)), (13, 40, NV (n')), (14, 41, .bool false), (15, 42, .bool false), (16, 43, .bool false), (17, 44, .slice (some ⟨b0, 0, none⟩) cs.length cap), (18, 45, .int .i64 (k : Int)), (19, 46, .pointer (some ⟨b0, 0 + 12 * k, none⟩)), (20, 47, CX (n) (f) (a)), (21, 48, .bool false), (22, 49, .bool true), (23, 50, .bool true)] [] [] [] ?_ ?_
                · refine oc g_mv ?_
                  refine oc (g_bn (fun uZ => gtr_i _ _ (k : Int) 0 _ uZ hz2)) ?_
                  refine oc g_mv ?_
                  refine oc g_mv ?_
                  refine oc g_mv ?_
                  refine oc (g_ix (fun uZ => hX.out uZ)) ?_
                  refine oc (g_fd (fun uZ => fdC1x _ _ uZ)) ?_
                  refine oc (g_lf hRF.out hlt uN iN) ?_
                  refine oc g_mv ?_
                  refine oc g_mv ?_
                  refine oc (g_bn (fun uZ => sub_i _ _ (k : Int) 1 ((k - 1 : Nat) : Int) uZ hz3 (by omega) (by omega))) ?_
                  refine oc (g_ix (fun uZ => hX2.out uZ)) ?_
                  refine oc (g_fd (fun uZ => fdCx _ _ uZ)) ?_
                  refine oc (g_lf hR2.out hlt uN iN) ?_
                  refine oc (g_bn (fun uZ => neq_n _ _ hf hn' _ hkd uZ)) ?_
                  refine oc g_pk ?_
                  refine oc g_mv ?_
                  refine oc g_mv ?_
                  refine oc g_mv ?_
                  refine oc (g_ix (fun uZ => hX.out uZ)) ?_
                  refine oc (g_lf hR.out hlt Try.underlying26 info_api_Cert) ?_
                  refine oc (g_cl ent_seneschalref03_Step (fun uZ => hst.out uZ)) ?_
                  refine oc (g_un (fun uZ => rfl)) ?_
                  exact oc g_pk on
                intro u5 HB5 sz5 K5
                simp only [fX, nK, nP, Wr.f, aK, pM] at K5
                simp only [setG, setN, List.set_cons_zero, List.set_cons_succ]
                clear K4 HB4
                go_upto_region 9 with fail
                refine rgP K5 HB5 HB5.size [.all 1 ([.int .u64 (0), .int .u64 (0), .int .u64 (0), .int .u64 (0)])] [] [(0, 51, A4 (0) (0) (0) (0)), (2, 3, (Go.Value.int Go.IntKind.i64 30))] [] [] [] ?_ ?_
                · refine oc (g_bd zN) ?_
                  refine oc (g_st 0 iN) ?_
                  exact oc g_as on
                intro u6 HB6 sz6 K6
                simp only [fX, nK, nP, Wr.f, aK, pM] at K6
                simp only [setG, setN, List.set_cons_zero, List.set_cons_succ]
                clear K5 HB5
                have c2_0 := ((K6.cv 0) 0 _ rfl).1
                have c2_1 := ((K6.cv 0) 1 _ rfl).1
                have c2_2 := ((K6.cv 0) 2 _ rfl).1
                have c2_3 := ((K6.cv 0) 3 _ rfl).1
                go_wp2
                refine bodyPost_ret (v := .tuple #[A4 0 0 0 0, .int .i64 30]) (by simp [results, Try.results16, go_sem, c2_0, c2_1, c2_2, c2_3]) rfl ⟨by first | rfl | rw [hF hFF], HB6⟩
              · skip
                go_upto_region 8 with fail
                refine rgD K4 HB4 HB4.size [] [] [(0, 27, .int .i64 (k : Int)), (1, 28, .bool true), (2, 29, .bool true), (3, 30, .slice (some ⟨b0, 0, none⟩) cs.length cap), (4, 31, .int .i64 (k : Int)), (5, 32, .pointer (some ⟨b0, 0 + 12 * k, none⟩)), (6, 33, .pointer (some ⟨b0, 0 + 12 * k + 4, none⟩)), (7, 34, NV f), (8, 35, .slice (some ⟨b0, 0, none⟩) cs.length cap), (9, 36, .int .i64 (k : Int)), (10, 37, .int .i64 ((k - 1 : Nat) : Int)), (11, 38, .pointer (some ⟨b0, 0 + 12 * (k - 1), none⟩)), (12, 39, .pointer (some ⟨b0, 0 + 12 * (k - 1), none⟩)), (13, 40, NV (n')), (14, 41, .bool false), (15, 42, .bool false), (16, 43, .bool false), (17, 44, .slice (some ⟨b0, 0, none⟩) cs.length cap), (18, 45, .int .i64 (k : Int)), (19, 46, .pointer (some ⟨b0, 0 + 12 * k, none⟩)), (20, 47, CX (n) (f) (a)), (21, 48, .bool true), (22, 49, .bool false), (23, 50, .bool false)] [] [] [] ?_ ?_
                · refine oc g_mv ?_
                  refine oc (g_bn (fun uZ => gtr_i _ _ (k : Int) 0 _ uZ hz2)) ?_
                  refine oc g_mv ?_
                  refine oc g_mv ?_
                  refine oc g_mv ?_
                  refine oc (g_ix (fun uZ => hX.out uZ)) ?_
                  refine oc (g_fd (fun uZ => fdC1x _ _ uZ)) ?_
                  refine oc (g_lf hRF.out hlt uN iN) ?_
                  refine oc g_mv ?_
                  refine oc g_mv ?_
                  refine oc (g_bn (fun uZ => sub_i _ _ (k : Int) 1 ((k - 1 : Nat) : Int) uZ hz3 (by omega) (by omega))) ?_
                  refine oc (g_ix (fun uZ => hX2.out uZ)) ?_
                  refine oc (g_fd (fun uZ => fdCx _ _ uZ)) ?_
                  refine oc (g_lf hR2.out hlt uN iN) ?_
                  refine oc (g_bn (fun uZ => neq_n _ _ hf hn' _ hkd uZ)) ?_
                  refine oc g_pk ?_
                  refine oc g_mv ?_
                  refine oc g_mv ?_
                  refine oc g_mv ?_
                  refine oc (g_ix (fun uZ => hX.out uZ)) ?_
                  refine oc (g_lf hR.out hlt Try.underlying26 info_api_Cert) ?_
                  refine oc (g_cl ent_seneschalref03_Step (fun uZ => hst.out uZ)) ?_
                  refine oc (g_un (fun uZ => rfl)) ?_
                  exact oc g_pk on
                intro u5 HB5 sz5 K5
                simp only [fX, nK, nP, Wr.f, aK, pM] at K5
                simp only [setG, setN, List.set_cons_zero, List.set_cons_succ]
                clear K4 HB4
                go_upto_region 7 with fail
                refine rgP K5 HB5 HB5.size [] [] [(0, 25, .int .i64 (k : Int)), (1, 26, .int .i64 ((k + 1 : Nat) : Int)), (2, 4, .int .i64 ((k + 1 : Nat) : Int))] [(2, 0)] [(2, 4)] [] ?_ ?_
                · refine oc g_mv ?_
                  refine oc (g_bn (fun uZ => add_i _ _ (k : Int) 1 ((k + 1 : Nat) : Int) uZ (by omega) (by omega) (by omega))) ?_
                  exact oc g_as on
                intro u6 HB6 sz6 K6
                simp only [fX, nK, nP, Wr.f, aK, pM] at K6
                simp only [setG, setN, List.set_cons_zero, List.set_cons_succ]
                clear K5 HB5
                go_wp2
                refine ⟨⟨k + 1, by omega, rfl, (by rw [hT, hkn, hs]; rfl), HB6, (K6.cv 0), (K6.lt 0)⟩, ?_⟩
                simp [intOf] <;> omega
        · have hl1 : decide ((k : Int) < (cs.length : Int)) = false := by simp; omega
          have hkn : k = cs.length := by omega
          have hTT : cfB cs = true := by rw [cfB, ← hkn, hA.out, Bool.true_and]; simp; omega
          have hR := range_N (rng_at hcv.out (cs.length - 1) (by omega))
          rw [hlast.out] at hR
          have hR : Hid _ := hR
          have hX := ixC b0 0 cs.length cap (cs.length - 1) (by omega)
          have hX : Hid _ := hX
          have hz3 : (cs.length : Int) - 1 = ((cs.length - 1 : Nat) : Int) := by omega
          have K3_1 : Bk w.heap.size wr [(true, w.heap.size, L0s)] := ⟨.o lR (K3.lo 0) KR <| trivial, by simp⟩
          go_upto_region 6 with fail
          refine rgP K3_1 HBr HBr.size [] [] [(0, 21, .int .i64 (k : Int)), (1, 22, .slice (some ⟨b0, 0, none⟩) cs.length cap), (2, 23, .int .i64 (cs.length : Int)), (3, 24, .bool false)] [] [] [] ?_ ?_
          · refine oc g_mv ?_
            refine oc g_mv ?_
            refine oc (g_ln Try.underlying31) ?_
            exact oc (g_bn (fun uZ => lss_i _ _ (k : Int) (cs.length : Int) _ uZ hl1)) on
          intro u4 HB4 sz4 K4
          simp only [fX, nK, nP, Wr.f, aK, pM] at K4
          simp only [setG, setN, List.set_cons_zero, List.set_cons_succ]
          go_upto_region 10 with fail
          refine rgP K4 HB4 HB4.size [.all 7 (LN N)] [] [(0, 52, .slice (some ⟨b0, 0, none⟩) cs.length cap), (1, 53, .slice (some ⟨b0, 0, none⟩) cs.length cap), (2, 54, .int .i64 (cs.length : Int)), (3, 55, .int .i64 ((cs.length - 1 : Nat) : Int)), (4, 56, .pointer (some ⟨b0, 0 + 12 * (cs.length - 1), none⟩)), (5, 57, .pointer (some ⟨b0, 0 + 12 * (cs.length - 1), none⟩)), (6, 58, NV N), (8, 3, (Go.Value.int Go.IntKind.i64 0))] [] [] [] ?_ ?_
          · refine oc g_mv ?_
            refine oc g_mv ?_
            refine oc (g_ln Try.underlying31) ?_
            refine oc (g_bn (fun uZ => sub_i _ _ (cs.length : Int) 1 ((cs.length - 1 : Nat) : Int) uZ hz3 (by omega) (by omega))) ?_
            refine oc (g_ix (fun uZ => hX.out uZ)) ?_
            refine oc (g_fd (fun uZ => fdCx _ _ uZ)) ?_
            refine oc (g_lf hR.out hlt uN iN) ?_
            refine oc (g_st 0 iN) ?_
            exact oc g_as on
          intro u5 HB5 sz5 K5
          simp only [fX, nK, nP, Wr.f, aK, pM] at K5
          simp only [setG, setN, List.set_cons_zero, List.set_cons_succ]
          clear K4 HB4
          have c2_0 := ((K5.cv 0) 0 _ rfl).1
          have c2_1 := ((K5.cv 0) 1 _ rfl).1
          have c2_2 := ((K5.cv 0) 2 _ rfl).1
          have c2_3 := ((K5.cv 0) 3 _ rfl).1
          go_wp2
          refine bodyPost_ret (v := .tuple #[NV N, .int .i64 0]) (by simp [results, Try.results16, go_sem, c2_0, c2_1, c2_2, c2_3]) rfl ⟨by first | rfl | rw [hTr hTT], HB5⟩
set_option maxRecDepth 100000 in
set_option maxHeartbeats 4000000 in
theorem xmem_lo (x p q : Int) (w : World) (hx : In x) (hp : In p) (hq : In q) (ip : In (p - 1)) (hp0 : 1 ≤ p) (h1 : decide (cmpI x 1 ≤ 0) = true) :
    Calls Try.prog 39 #[NV x, NV p, NV q] w fun e w' => e = .returned (.bool false) ∧ Below w.heap.size w w' := by
  go_enter Try.func39, Try.ntmps39
  go_upto_region 1 with fail
  generalize hC : (((w.alloc (.cells (LN x : List Value).toArray 24)).alloc (.cells (LN p : List Value).toArray 24)).alloc (.cells (LN q : List Value).toArray 24)) = v0 at *
  have HB0 : Below w.heap.size w v0 := by rw [← hC]; exact balloc (balloc (balloc (bself w) _) _) _
  have K0 : Bk w.heap.size v0 [(true, w.heap.size, LN x), (true, w.heap.size + 1, LN p), (true, w.heap.size + 1 + 1, LN q)] := by rw [← hC]; exact (Bk.nil _ w).ad.ad.ad
  clear hC
  refine rgP K0 HB0 HB0.size [] [(6, 7, L0s, some (7, LN (p - 1)))] [(0, 12, NV p), (1, 13, NV 1), (2, 14, .tuple #[NV (p - 1), .bool false]), (3, 11, .tuple #[NV (p - 1), .bool false]), (4, 15, NV (p - 1)), (5, 16, .bool false), (8, 8, .bool false)] [(7, 6)] [] [true, false, false, false] ?_ ?_
  · refine oc (g_ld 1 uN iN) ?_
    refine oc (g_bd (fun uZ => bdX 1 (by omega) (by omega) uZ)) ?_
    refine oc (g_cl ent_seneschalref01_Sub (fun uZ => nrSub_ge p 1 uZ hp In_1 hp0)) ?_
    refine oc g_mv ?_
    refine oc g_ex ?_
    refine oc g_ex ?_
    refine oc (g_al 0 aN) ?_
    refine oc (g_sn 0 iN) ?_
    exact oc g_as on
  intro u1 b1_6 HB1 sz1 K1
  simp only [fX, nK, nP, Wr.f, aK, pM] at K1
  simp only [setG, setN, List.set_cons_zero, List.set_cons_succ]
  clear K0 HB0
  go_upto_region 2 with fail
  refine rgP K1 HB1 HB1.size [] [] [(0, 17, NV x), (1, 18, NV 1), (2, 19, .int .i64 (cmpI x 1)), (3, 20, .bool true), (4, 21, .bool true), (5, 22, undef), (6, 23, undef), (7, 24, undef), (8, 25, undef), (9, 26, (Go.Value.bool Bool.true))] [] [] [false] ?_ ?_
  · refine oc (g_ld 0 uN iN) ?_
    refine oc (g_bd (fun uZ => bdX 1 (by omega) (by omega) uZ)) ?_
    refine oc (g_cl ent_seneschalref01_Compare (fun uZ => nrCompare x 1 uZ hx In_1)) ?_
    refine oc (g_bn (fun uZ => leq_i _ _ (cmpI x 1) 0 _ uZ h1)) ?_
    refine oc g_mv ?_
    refine oc g_sk ?_
    refine oc g_sk ?_
    refine oc g_sk ?_
    refine oc g_sk ?_
    exact oc g_pk on
  intro u2 HB2 sz2 K2
  simp only [fX, nK, nP, Wr.f, aK, pM] at K2
  simp only [setG, setN, List.set_cons_zero, List.set_cons_succ]
  clear K1 HB1
  go_upto_region 3 with fail
  refine rgP K2 HB2 HB2.size [] [] [(0, 6, (Go.Value.bool Bool.false))] [] [] [] ?_ ?_
  · exact oc g_as on
  intro u3 HB3 sz3 K3
  simp only [fX, nK, nP, Wr.f, aK, pM] at K3
  simp only [setG, setN, List.set_cons_zero, List.set_cons_succ]
  clear K2 HB2
  go_wp2
  refine bodyPost_ret (v := .bool false) (by simp [results, Try.results39, go_sem, ]) rfl ⟨rfl, HB3⟩
set_option maxRecDepth 100000 in
set_option maxHeartbeats 4000000 in
theorem xmem_hi (x p q : Int) (w : World) (hx : In x) (hp : In p) (hq : In q) (ip : In (p - 1)) (hp0 : 1 ≤ p) (h1 : decide (cmpI x 1 ≤ 0) = false)(h2 : decide (0 ≤ cmpI x (p - 1)) = true) :
    Calls Try.prog 39 #[NV x, NV p, NV q] w fun e w' => e = .returned (.bool false) ∧ Below w.heap.size w w' := by
  go_enter Try.func39, Try.ntmps39
  go_upto_region 1 with fail
  generalize hC : (((w.alloc (.cells (LN x : List Value).toArray 24)).alloc (.cells (LN p : List Value).toArray 24)).alloc (.cells (LN q : List Value).toArray 24)) = v0 at *
  have HB0 : Below w.heap.size w v0 := by rw [← hC]; exact balloc (balloc (balloc (bself w) _) _) _
  have K0 : Bk w.heap.size v0 [(true, w.heap.size, LN x), (true, w.heap.size + 1, LN p), (true, w.heap.size + 1 + 1, LN q)] := by rw [← hC]; exact (Bk.nil _ w).ad.ad.ad
  clear hC
  refine rgP K0 HB0 HB0.size [] [(6, 7, L0s, some (7, LN (p - 1)))] [(0, 12, NV p), (1, 13, NV 1), (2, 14, .tuple #[NV (p - 1), .bool false]), (3, 11, .tuple #[NV (p - 1), .bool false]), (4, 15, NV (p - 1)), (5, 16, .bool false), (8, 8, .bool false)] [(7, 6)] [] [true, false, false] ?_ ?_
  · refine oc (g_ld 1 uN iN) ?_
    refine oc (g_bd (fun uZ => bdX 1 (by omega) (by omega) uZ)) ?_
    refine oc (g_cl ent_seneschalref01_Sub (fun uZ => nrSub_ge p 1 uZ hp In_1 hp0)) ?_
    refine oc g_mv ?_
    refine oc g_ex ?_
    refine oc g_ex ?_
    refine oc (g_al 0 aN) ?_
    refine oc (g_sn 0 iN) ?_
    exact oc g_as on
  intro u1 b1_6 HB1 sz1 K1
  simp only [fX, nK, nP, Wr.f, aK, pM] at K1
  simp only [setG, setN, List.set_cons_zero, List.set_cons_succ]
  clear K0 HB0
  go_upto_region 2 with fail
  refine rgP K1 HB1 HB1.size [] [] [(0, 17, NV x), (1, 18, NV 1), (2, 19, .int .i64 (cmpI x 1)), (3, 20, .bool false), (4, 21, .bool false), (5, 22, NV x), (6, 23, NV (p - 1)), (7, 24, .int .i64 (cmpI x (p - 1))), (8, 25, .bool true), (9, 26, .bool true)] [] [] [false, false] ?_ ?_
  · refine oc (g_ld 0 uN iN) ?_
    refine oc (g_bd (fun uZ => bdX 1 (by omega) (by omega) uZ)) ?_
    refine oc (g_cl ent_seneschalref01_Compare (fun uZ => nrCompare x 1 uZ hx In_1)) ?_
    refine oc (g_bn (fun uZ => leq_i _ _ (cmpI x 1) 0 _ uZ h1)) ?_
    refine oc g_mv ?_
    refine oc (g_ld 0 uN iN) ?_
    refine oc (g_ld 1 uN iN) ?_
    refine oc (g_cl ent_seneschalref01_Compare (fun uZ => nrCompare x (p - 1) uZ hx ip)) ?_
    refine oc (g_bn (fun uZ => geq_i _ _ (cmpI x (p - 1)) 0 _ uZ h2)) ?_
    exact oc g_pk on
  intro u2 HB2 sz2 K2
  simp only [fX, nK, nP, Wr.f, aK, pM] at K2
  simp only [setG, setN, List.set_cons_zero, List.set_cons_succ]
  clear K1 HB1
  go_upto_region 3 with fail
  refine rgP K2 HB2 HB2.size [] [] [(0, 6, (Go.Value.bool Bool.false))] [] [] [] ?_ ?_
  · exact oc g_as on
  intro u3 HB3 sz3 K3
  simp only [fX, nK, nP, Wr.f, aK, pM] at K3
  simp only [setG, setN, List.set_cons_zero, List.set_cons_succ]
  clear K2 HB2
  go_wp2
  refine bodyPost_ret (v := .bool false) (by simp [results, Try.results39, go_sem, ]) rfl ⟨rfl, HB3⟩
set_option maxRecDepth 100000 in
set_option maxHeartbeats 4000000 in
theorem xmem_go (x p q : Int) (w : World) (hx : In x) (hp : In p) (hq : In q) (ip : In (p - 1)) (hp0 : 1 ≤ p) (b : Bool)(h1 : decide (cmpI x 1 ≤ 0) = false)(h2 : decide (0 ≤ cmpI x (p - 1)) = false)(h3 : decide (x ^ q.toNat % p = 1) = b) :
    Calls Try.prog 39 #[NV x, NV p, NV q] w fun e w' => e = .returned (.bool b) ∧ Below w.heap.size w w' := by
  go_enter Try.func39, Try.ntmps39
  go_upto_region 1 with fail
  generalize hC : (((w.alloc (.cells (LN x : List Value).toArray 24)).alloc (.cells (LN p : List Value).toArray 24)).alloc (.cells (LN q : List Value).toArray 24)) = v0 at *
  have HB0 : Below w.heap.size w v0 := by rw [← hC]; exact balloc (balloc (balloc (bself w) _) _) _
  have K0 : Bk w.heap.size v0 [(true, w.heap.size, LN x), (true, w.heap.size + 1, LN p), (true, w.heap.size + 1 + 1, LN q)] := by rw [← hC]; exact (Bk.nil _ w).ad.ad.ad
  clear hC
  refine rgP K0 HB0 HB0.size [] [(6, 7, L0s, some (7, LN (p - 1)))] [(0, 12, NV p), (1, 13, NV 1), (2, 14, .tuple #[NV (p - 1), .bool false]), (3, 11, .tuple #[NV (p - 1), .bool false]), (4, 15, NV (p - 1)), (5, 16, .bool false), (8, 8, .bool false)] [(7, 6)] [] [] ?_ ?_
  · refine oc (g_ld 1 uN iN) ?_
    refine oc (g_bd (fun uZ => bdX 1 (by omega) (by omega) uZ)) ?_
    refine oc (g_cl ent_seneschalref01_Sub (fun uZ => nrSub_ge p 1 uZ hp In_1 hp0)) ?_
    refine oc g_mv ?_
    refine oc g_ex ?_
    refine oc g_ex ?_
    refine oc (g_al 0 aN) ?_
    refine oc (g_sn 0 iN) ?_
    exact oc g_as on
  intro u1 b1_6 HB1 sz1 K1
  simp only [fX, nK, nP, Wr.f, aK, pM] at K1
  simp only [setG, setN, List.set_cons_zero, List.set_cons_succ]
  clear K0 HB0
  go_upto_region 2 with fail
  refine rgP K1 HB1 HB1.size [] [] [(0, 17, NV x), (1, 18, NV 1), (2, 19, .int .i64 (cmpI x 1)), (3, 20, .bool false), (4, 21, .bool false), (5, 22, NV x), (6, 23, NV (p - 1)), (7, 24, .int .i64 (cmpI x (p - 1))), (8, 25, .bool false), (9, 26, .bool false)] [] [] [true, true, true, false] ?_ ?_
  · refine oc (g_ld 0 uN iN) ?_
    refine oc (g_bd (fun uZ => bdX 1 (by omega) (by omega) uZ)) ?_
    refine oc (g_cl ent_seneschalref01_Compare (fun uZ => nrCompare x 1 uZ hx In_1)) ?_
    refine oc (g_bn (fun uZ => leq_i _ _ (cmpI x 1) 0 _ uZ h1)) ?_
    refine oc g_mv ?_
    refine oc (g_ld 0 uN iN) ?_
    refine oc (g_ld 3 uN iN) ?_
    refine oc (g_cl ent_seneschalref01_Compare (fun uZ => nrCompare x (p - 1) uZ hx ip)) ?_
    refine oc (g_bn (fun uZ => geq_i _ _ (cmpI x (p - 1)) 0 _ uZ h2)) ?_
    exact oc g_pk on
  intro u2 HB2 sz2 K2
  simp only [fX, nK, nP, Wr.f, aK, pM] at K2
  simp only [setG, setN, List.set_cons_zero, List.set_cons_succ]
  clear K1 HB1
  go_upto_region 4 with fail
  refine rgP K2 HB2 HB2.size [] [(7, 9, L0s, some (8, LN (x ^ q.toNat % p)))] [(0, 28, NV x), (1, 29, NV q), (2, 30, NV p), (3, 31, .tuple #[NV (x ^ q.toNat % p), .int .i64 0]), (4, 27, .tuple #[NV (x ^ q.toNat % p), .int .i64 0]), (5, 32, NV (x ^ q.toNat % p)), (6, 33, .int .i64 0), (9, 10, .int .i64 0)] [(8, 7)] [] [false, false, false] ?_ ?_
  · refine oc (g_ld 0 uN iN) ?_
    refine oc (g_ld 2 uN iN) ?_
    refine oc (g_ld 1 uN iN) ?_
    refine oc (g_cl ent_seneschalref02_Exp (fun uZ => xExp x q p uZ hx hq hp (by omega))) ?_
    refine oc g_mv ?_
    refine oc g_ex ?_
    refine oc g_ex ?_
    refine oc (g_al 0 aN) ?_
    refine oc (g_sn 0 iN) ?_
    exact oc g_as on
  intro u3 b3_7 HB3 sz3 K3
  simp only [fX, nK, nP, Wr.f, aK, pM] at K3
  simp only [setG, setN, List.set_cons_zero, List.set_cons_succ]
  clear K2 HB2
  go_upto_region 5 with fail
  refine rgP K3 HB3 HB3.size [] [] [(0, 34, NV (x ^ q.toNat % p)), (1, 35, NV 1), (2, 36, .bool b), (3, 6, .bool b)] [] [] [false] ?_ ?_
  · refine oc (g_ld 0 uN iN) ?_
    refine oc (g_bd (fun uZ => bdX 1 (by omega) (by omega) uZ)) ?_
    refine oc (g_bn (fun uZ => eql_n _ _ (In_mod hp (by omega)) In_1 _ h3 uZ)) ?_
    exact oc g_as on
  intro u4 HB4 sz4 K4
  simp only [fX, nK, nP, Wr.f, aK, pM] at K4
  simp only [setG, setN, List.set_cons_zero, List.set_cons_succ]
  clear K3 HB3
  go_wp2
  refine bodyPost_ret (v := .bool b) (by simp [results, Try.results39, go_sem, ]) rfl ⟨rfl, HB4⟩
theorem xMember (x p q : Int) (w : World) (hx : In x) (hp : In p) (hq : In q) (hp0 : 1 ≤ p) : Calls Try.prog 39 #[NV x, NV p, NV q] w fun e w' => e = .returned (.bool (gnB x p q)) ∧ Below w.heap.size w w' := by
  have ip : In (p - 1) := ⟨by omega, by have := hp.2; omega⟩
  by_cases h1 : x ≤ 1
  · rw [show gnB x p q = false by unfold gnB; simp; omega]
    exact xmem_lo x p q w hx hp hq ip hp0 (by rw [cmp_le0]; simp only [h1, decide_true])
  have h1' : decide (cmpI x 1 ≤ 0) = false := by rw [cmp_le0]; simp only [h1, decide_false]
  by_cases h2 : p - 1 ≤ x
  · rw [show gnB x p q = false by unfold gnB; simp; omega]
    exact xmem_hi x p q w hx hp hq ip hp0 h1' (by rw [cmp_ge]; simp only [h2, decide_true])
  have h2' : decide (0 ≤ cmpI x (p - 1)) = false := by rw [cmp_ge]; simp only [h2, decide_false]
  rw [show gnB x p q = decide (x ^ q.toNat % p = 1) by unfold gnB; rw [Bool.eq_iff_iff]; simp; omega]
  exact xmem_go x p q w hx hp hq ip hp0 _ h1' h2' rfl
set_option maxRecDepth 100000 in
set_option maxHeartbeats 4000000 in
theorem xgroup_f (p q g h n f : Int) (b0 cap : Nat) (cs : List (Int × Int × Int)) (w : World) (hp : In p) (hq : In q) (hg : In g) (hh : In h) (hcs : cs.length ≤ 256) (hin : Hid (∀ j, j < cs.length → In (cat cs j).1 ∧ In (cat cs j).2.1 ∧ In (cat cs j).2.2)) (hlt : b0 < w.heap.size) (hcv : Hid (CV w b0 (flC cs))) (hChk : Hid (∀ u, b0 < u.heap.size → CV u b0 (flC cs) → Calls Try.prog 16 #[.slice (some ⟨b0, 0, none⟩) cs.length cap] u fun e u' => e = .returned (.tuple #[A4 0 0 0 0, .int .i64 30]) ∧ Below u.heap.size u u')) :
    Calls Try.prog 18 #[GX p q g h, .slice (some ⟨b0, 0, none⟩) cs.length cap] w fun e w' => e = .returned (.int .i64 30) ∧ Below w.heap.size w w' := by
  go_enter Try.func18, Try.ntmps18
  go_upto_region 1 with fail
  generalize hC : (w.alloc (.cells (GE (p) (q) (g) (h) : List Value).toArray 33)) = v0 at *
  have HB0 : Below w.heap.size w v0 := by rw [← hC]; exact balloc (bself w) _
  have K0 : Bk w.heap.size v0 [(true, w.heap.size, GE (p) (q) (g) (h))] := by rw [← hC]; exact (Bk.nil _ w).ad
  clear hC
  refine rgP K0 HB0 HB0.size [] [(5, 5, L0s, some (6, [.int .u64 (0), .int .u64 (0), .int .u64 (0), .int .u64 (0)]))] [(0, 10, .slice (some ⟨b0, 0, none⟩) cs.length cap), (1, 11, .tuple #[A4 (0) (0) (0) (0), .int .i64 30]), (2, 9, .tuple #[A4 (0) (0) (0) (0), .int .i64 30]), (3, 12, A4 (0) (0) (0) (0)), (4, 13, .int .i64 30), (7, 6, .int .i64 30)] [(6, 5)] [] [false, false] ?_ ?_
  · refine oc g_mv ?_
    refine oc (g_cb ent_seneschalref03_Check (fun uZ bZ => hChk.out uZ (Nat.lt_of_lt_of_le hlt bZ.size) (hcv.out.below bZ hlt))) ?_
    refine oc g_mv ?_
    refine oc g_ex ?_
    refine oc g_ex ?_
    refine oc (g_al 0 aN) ?_
    refine oc (g_sn 0 iN) ?_
    exact oc g_as on
  intro u1 b1_5 HB1 sz1 K1
  simp only [fX, nK, nP, Wr.f, aK, pM] at K1
  simp only [setG, setN, List.set_cons_zero, List.set_cons_succ]
  clear K0 HB0
  go_upto_region 2 with fail
  refine rgP K1 HB1 HB1.size [] [] [(0, 14, .int .i64 30), (1, 15, .bool true)] [] [] [] ?_ ?_
  · refine oc g_mv ?_
    exact oc (g_bn (fun uZ => neq_i _ _ _ 30 0 _ uZ rfl)) on
  intro u2 HB2 sz2 K2
  simp only [fX, nK, nP, Wr.f, aK, pM] at K2
  simp only [setG, setN, List.set_cons_zero, List.set_cons_succ]
  clear K1 HB1
  go_upto_region 3 with fail
  refine rgP K2 HB2 HB2.size [] [] [(0, 16, .int .i64 30), (1, 4, .int .i64 30)] [] [] [] ?_ ?_
  · refine oc g_mv ?_
    exact oc g_as on
  intro u3 HB3 sz3 K3
  simp only [fX, nK, nP, Wr.f, aK, pM] at K3
  simp only [setG, setN, List.set_cons_zero, List.set_cons_succ]
  clear K2 HB2
  go_wp2
  refine bodyPost_ret (v := .int .i64 30) (by simp [results, Try.results18, go_sem, ]) rfl ⟨rfl, HB3⟩
set_option maxRecDepth 100000 in
set_option maxHeartbeats 4000000 in
theorem xgroup_o (p q g h n f t : Int) (b0 cap : Nat) (cs : List (Int × Int × Int)) (w : World) (hp : In p) (hq : In q) (hg : In g) (hh : In h) (hcs : cs.length ≤ 256) (hin : Hid (∀ j, j < cs.length → In (cat cs j).1 ∧ In (cat cs j).2.1 ∧ In (cat cs j).2.2)) (hlt : b0 < w.heap.size) (hcv : Hid (CV w b0 (flC cs))) (h0 : 0 < cs.length) (hlf : Hid ((cat cs (cs.length - 1)).2.1 = f)) (hn : In n) (hf : In f)(hChk : Hid (∀ u, b0 < u.heap.size → CV u b0 (flC cs) → Calls Try.prog 16 #[.slice (some ⟨b0, 0, none⟩) cs.length cap] u fun e u' => e = .returned (.tuple #[NV n, .int .i64 0]) ∧ Below u.heap.size u u'))(it : In t) (hAd : Hid (∀ u, Calls Try.prog 28 #[NV q, NV q] u fun e u' => e = .returned (.tuple #[NV t, .bool true]) ∧ Below u.heap.size u u')) :
    Calls Try.prog 18 #[GX p q g h, .slice (some ⟨b0, 0, none⟩) cs.length cap] w fun e w' => e = .returned (.int .i64 30) ∧ Below w.heap.size w w' := by
  go_enter Try.func18, Try.ntmps18
  go_upto_region 1 with fail
  generalize hC : (w.alloc (.cells (GE (p) (q) (g) (h) : List Value).toArray 33)) = v0 at *
  have HB0 : Below w.heap.size w v0 := by rw [← hC]; exact balloc (bself w) _
  have K0 : Bk w.heap.size v0 [(true, w.heap.size, GE (p) (q) (g) (h))] := by rw [← hC]; exact (Bk.nil _ w).ad
  clear hC
  refine rgP K0 HB0 HB0.size [] [(5, 5, L0s, some (6, LN n))] [(0, 10, .slice (some ⟨b0, 0, none⟩) cs.length cap), (1, 11, .tuple #[NV n, .int .i64 0]), (2, 9, .tuple #[NV n, .int .i64 0]), (3, 12, NV n), (4, 13, .int .i64 0), (7, 6, .int .i64 0)] [(6, 5)] [] [true, false] ?_ ?_
  · refine oc g_mv ?_
    refine oc (g_cb ent_seneschalref03_Check (fun uZ bZ => hChk.out uZ (Nat.lt_of_lt_of_le hlt bZ.size) (hcv.out.below bZ hlt))) ?_
    refine oc g_mv ?_
    refine oc g_ex ?_
    refine oc g_ex ?_
    refine oc (g_al 0 aN) ?_
    refine oc (g_sn 0 iN) ?_
    exact oc g_as on
  intro u1 b1_5 HB1 sz1 K1
  simp only [fX, nK, nP, Wr.f, aK, pM] at K1
  simp only [setG, setN, List.set_cons_zero, List.set_cons_succ]
  clear K0 HB0
  have hz3 : (cs.length : Int) - 1 = ((cs.length - 1 : Nat) : Int) := by omega
  have hR : w.rangeAt b0 (0 + 12 * (cs.length - 1) + 4) (LN f) := by
    have := range_F (rng_at hcv.out (cs.length - 1) (by omega))
    rwa [hlf.out] at this
  have hR : Hid _ := hR
  go_upto_region 2 with fail
  refine rgP K1 HB1 HB1.size [] [] [(0, 14, .int .i64 0), (1, 15, .bool false)] [] [] [] ?_ ?_
  · refine oc g_mv ?_
    exact oc (g_bn (fun uZ => neq_i _ _ _ 0 0 _ uZ rfl)) on
  intro u2 HB2 sz2 K2
  simp only [fX, nK, nP, Wr.f, aK, pM] at K2
  simp only [setG, setN, List.set_cons_zero, List.set_cons_succ]
  clear K1 HB1
  go_upto_region 4 with fail
  refine rgP K2 HB2 HB2.size [] [(8, 7, L0s, some (9, LN t))] [(0, 18, .pointer (some ⟨w.heap.size, 4, none⟩)), (1, 19, NV q), (2, 20, .pointer (some ⟨w.heap.size, 4, none⟩)), (3, 21, NV q), (4, 22, .tuple #[NV t, .bool true]), (5, 17, .tuple #[NV t, .bool true]), (6, 23, NV t), (7, 24, .bool true), (10, 8, .bool true)] [(9, 8)] [] [false, false] ?_ ?_
  · refine oc (g_fd (fun uZ => fdG1 _ uZ)) ?_
    refine oc (g_lo 0 4 uN iN) ?_
    refine oc (g_fd (fun uZ => fdG1 _ uZ)) ?_
    refine oc (g_lo 0 4 uN iN) ?_
    refine oc (g_cl ent_seneschalref01_Add (fun uZ => hAd.out uZ)) ?_
    refine oc g_mv ?_
    refine oc g_ex ?_
    refine oc g_ex ?_
    refine oc (g_al 0 aN) ?_
    refine oc (g_sn 0 iN) ?_
    exact oc g_as on
  intro u3 b3_8 HB3 sz3 K3
  simp only [fX, nK, nP, Wr.f, aK, pM] at K3
  simp only [setG, setN, List.set_cons_zero, List.set_cons_succ]
  clear K2 HB2
  go_upto_region 5 with fail
  refine rgD K3 HB3 HB3.size [] [] [(0, 25, .bool true), (1, 26, .bool true), (2, 27, undef), (3, 28, undef), (4, 29, undef), (5, 30, undef), (6, 31, (Go.Value.bool Bool.true)), (7, 32, (Go.Value.bool Bool.true)), (8, 33, undef), (9, 34, undef), (10, 35, undef), (11, 36, undef), (12, 37, undef), (13, 38, undef), (14, 39, undef), (15, 40, undef), (16, 41, undef), (17, 42, undef), (18, 43, (Go.Value.bool Bool.true))] [] [] [] ?_ ?_
  · refine oc g_mv ?_
    refine oc g_mv ?_
    refine oc g_sk ?_
    refine oc g_sk ?_
    refine oc g_sk ?_
    refine oc g_sk ?_
    refine oc g_pk ?_
    refine oc g_mv ?_
    refine oc g_sk ?_
    refine oc g_sk ?_
    refine oc g_sk ?_
    refine oc g_sk ?_
    refine oc g_sk ?_
    refine oc g_sk ?_
    refine oc g_sk ?_
    refine oc g_sk ?_
    refine oc g_sk ?_
    refine oc g_sk ?_
    exact oc g_pk on
  intro u4 HB4 sz4 K4
  simp only [fX, nK, nP, Wr.f, aK, pM] at K4
  simp only [setG, setN, List.set_cons_zero, List.set_cons_succ]
  clear K3 HB3
  go_upto_region 6 with fail
  refine rgP K4 HB4 HB4.size [] [] [(0, 4, (Go.Value.int Go.IntKind.i64 30))] [] [] [] ?_ ?_
  · exact oc g_as on
  intro u5 HB5 sz5 K5
  simp only [fX, nK, nP, Wr.f, aK, pM] at K5
  simp only [setG, setN, List.set_cons_zero, List.set_cons_succ]
  clear K4 HB4
  go_wp2
  refine bodyPost_ret (v := .int .i64 30) (by simp [results, Try.results18, go_sem, ]) rfl ⟨rfl, HB5⟩
set_option maxRecDepth 100000 in
set_option maxHeartbeats 4000000 in
theorem xgroup_n (p q g h n f t : Int) (b0 cap : Nat) (cs : List (Int × Int × Int)) (w : World) (hp : In p) (hq : In q) (hg : In g) (hh : In h) (hcs : cs.length ≤ 256) (hin : Hid (∀ j, j < cs.length → In (cat cs j).1 ∧ In (cat cs j).2.1 ∧ In (cat cs j).2.2)) (hlt : b0 < w.heap.size) (hcv : Hid (CV w b0 (flC cs))) (h0 : 0 < cs.length) (hlf : Hid ((cat cs (cs.length - 1)).2.1 = f)) (hn : In n) (hf : In f)(hChk : Hid (∀ u, b0 < u.heap.size → CV u b0 (flC cs) → Calls Try.prog 16 #[.slice (some ⟨b0, 0, none⟩) cs.length cap] u fun e u' => e = .returned (.tuple #[NV n, .int .i64 0]) ∧ Below u.heap.size u u'))(it : In t) (hAd : Hid (∀ u, Calls Try.prog 28 #[NV q, NV q] u fun e u' => e = .returned (.tuple #[NV t, .bool false]) ∧ Below u.heap.size u u'))(h1 : decide (n = p) = !true) :
    Calls Try.prog 18 #[GX p q g h, .slice (some ⟨b0, 0, none⟩) cs.length cap] w fun e w' => e = .returned (.int .i64 30) ∧ Below w.heap.size w w' := by
  go_enter Try.func18, Try.ntmps18
  go_upto_region 1 with fail
  generalize hC : (w.alloc (.cells (GE (p) (q) (g) (h) : List Value).toArray 33)) = v0 at *
  have HB0 : Below w.heap.size w v0 := by rw [← hC]; exact balloc (bself w) _
  have K0 : Bk w.heap.size v0 [(true, w.heap.size, GE (p) (q) (g) (h))] := by rw [← hC]; exact (Bk.nil _ w).ad
  clear hC
  refine rgP K0 HB0 HB0.size [] [(5, 5, L0s, some (6, LN n))] [(0, 10, .slice (some ⟨b0, 0, none⟩) cs.length cap), (1, 11, .tuple #[NV n, .int .i64 0]), (2, 9, .tuple #[NV n, .int .i64 0]), (3, 12, NV n), (4, 13, .int .i64 0), (7, 6, .int .i64 0)] [(6, 5)] [] [] ?_ ?_
  · refine oc g_mv ?_
    refine oc (g_cb ent_seneschalref03_Check (fun uZ bZ => hChk.out uZ (Nat.lt_of_lt_of_le hlt bZ.size) (hcv.out.below bZ hlt))) ?_
    refine oc g_mv ?_
    refine oc g_ex ?_
    refine oc g_ex ?_
    refine oc (g_al 0 aN) ?_
    refine oc (g_sn 0 iN) ?_
    exact oc g_as on
  intro u1 b1_5 HB1 sz1 K1
  simp only [fX, nK, nP, Wr.f, aK, pM] at K1
  simp only [setG, setN, List.set_cons_zero, List.set_cons_succ]
  clear K0 HB0
  have hz3 : (cs.length : Int) - 1 = ((cs.length - 1 : Nat) : Int) := by omega
  have hR : w.rangeAt b0 (0 + 12 * (cs.length - 1) + 4) (LN f) := by
    have := range_F (rng_at hcv.out (cs.length - 1) (by omega))
    rwa [hlf.out] at this
  have hR : Hid _ := hR
  go_upto_region 2 with fail
  refine rgP K1 HB1 HB1.size [] [] [(0, 14, .int .i64 0), (1, 15, .bool false)] [] [] [] ?_ ?_
  · refine oc g_mv ?_
    exact oc (g_bn (fun uZ => neq_i _ _ _ 0 0 _ uZ rfl)) on
  intro u2 HB2 sz2 K2
  simp only [fX, nK, nP, Wr.f, aK, pM] at K2
  simp only [setG, setN, List.set_cons_zero, List.set_cons_succ]
  clear K1 HB1
  go_upto_region 4 with fail
  refine rgP K2 HB2 HB2.size [] [(8, 7, L0s, some (9, LN t))] [(0, 18, .pointer (some ⟨w.heap.size, 4, none⟩)), (1, 19, NV q), (2, 20, .pointer (some ⟨w.heap.size, 4, none⟩)), (3, 21, NV q), (4, 22, .tuple #[NV t, .bool false]), (5, 17, .tuple #[NV t, .bool false]), (6, 23, NV t), (7, 24, .bool false), (10, 8, .bool false)] [(9, 8)] [] [true, true, false] ?_ ?_
  · refine oc (g_fd (fun uZ => fdG1 _ uZ)) ?_
    refine oc (g_lo 0 4 uN iN) ?_
    refine oc (g_fd (fun uZ => fdG1 _ uZ)) ?_
    refine oc (g_lo 0 4 uN iN) ?_
    refine oc (g_cl ent_seneschalref01_Add (fun uZ => hAd.out uZ)) ?_
    refine oc g_mv ?_
    refine oc g_ex ?_
    refine oc g_ex ?_
    refine oc (g_al 0 aN) ?_
    refine oc (g_sn 0 iN) ?_
    exact oc g_as on
  intro u3 b3_8 HB3 sz3 K3
  simp only [fX, nK, nP, Wr.f, aK, pM] at K3
  simp only [setG, setN, List.set_cons_zero, List.set_cons_succ]
  clear K2 HB2
  go_upto_region 5 with fail
  refine rgD K3 HB3 HB3.size [] [] [(0, 25, .bool false), (1, 26, .bool false), (2, 27, NV n), (3, 28, .pointer (some ⟨w.heap.size, 0, none⟩)), (4, 29, NV p), (5, 30, .bool true), (6, 31, .bool true), (7, 32, .bool true), (8, 33, undef), (9, 34, undef), (10, 35, undef), (11, 36, undef), (12, 37, undef), (13, 38, undef), (14, 39, undef), (15, 40, undef), (16, 41, undef), (17, 42, undef), (18, 43, (Go.Value.bool Bool.true))] [] [] [false, false] ?_ ?_
  · refine oc g_mv ?_
    refine oc g_mv ?_
    refine oc (g_ld 1 uN iN) ?_
    refine oc (g_fd (fun uZ => fdG0 _ uZ)) ?_
    refine oc (g_lo 0 0 uN iN) ?_
    refine oc (g_bn (fun uZ => neq_n _ _ hn hp _ h1 uZ)) ?_
    refine oc g_pk ?_
    refine oc g_mv ?_
    refine oc g_sk ?_
    refine oc g_sk ?_
    refine oc g_sk ?_
    refine oc g_sk ?_
    refine oc g_sk ?_
    refine oc g_sk ?_
    refine oc g_sk ?_
    refine oc g_sk ?_
    refine oc g_sk ?_
    refine oc g_sk ?_
    exact oc g_pk on
  intro u4 HB4 sz4 K4
  simp only [fX, nK, nP, Wr.f, aK, pM] at K4
  simp only [setG, setN, List.set_cons_zero, List.set_cons_succ]
  clear K3 HB3
  go_upto_region 6 with fail
  refine rgP K4 HB4 HB4.size [] [] [(0, 4, (Go.Value.int Go.IntKind.i64 30))] [] [] [] ?_ ?_
  · exact oc g_as on
  intro u5 HB5 sz5 K5
  simp only [fX, nK, nP, Wr.f, aK, pM] at K5
  simp only [setG, setN, List.set_cons_zero, List.set_cons_succ]
  clear K4 HB4
  go_wp2
  refine bodyPost_ret (v := .int .i64 30) (by simp [results, Try.results18, go_sem, ]) rfl ⟨rfl, HB5⟩
set_option maxRecDepth 100000 in
set_option maxHeartbeats 4000000 in
theorem xgroup_q (p q g h n f t : Int) (b0 cap : Nat) (cs : List (Int × Int × Int)) (w : World) (hp : In p) (hq : In q) (hg : In g) (hh : In h) (hcs : cs.length ≤ 256) (hin : Hid (∀ j, j < cs.length → In (cat cs j).1 ∧ In (cat cs j).2.1 ∧ In (cat cs j).2.2)) (hlt : b0 < w.heap.size) (hcv : Hid (CV w b0 (flC cs))) (h0 : 0 < cs.length) (hlf : Hid ((cat cs (cs.length - 1)).2.1 = f)) (hn : In n) (hf : In f)(hChk : Hid (∀ u, b0 < u.heap.size → CV u b0 (flC cs) → Calls Try.prog 16 #[.slice (some ⟨b0, 0, none⟩) cs.length cap] u fun e u' => e = .returned (.tuple #[NV n, .int .i64 0]) ∧ Below u.heap.size u u'))(it : In t) (hAd : Hid (∀ u, Calls Try.prog 28 #[NV q, NV q] u fun e u' => e = .returned (.tuple #[NV t, .bool false]) ∧ Below u.heap.size u u'))(h1 : decide (n = p) = !false)(h2 : decide (f = q) = !true) :
    Calls Try.prog 18 #[GX p q g h, .slice (some ⟨b0, 0, none⟩) cs.length cap] w fun e w' => e = .returned (.int .i64 30) ∧ Below w.heap.size w w' := by
  go_enter Try.func18, Try.ntmps18
  go_upto_region 1 with fail
  generalize hC : (w.alloc (.cells (GE (p) (q) (g) (h) : List Value).toArray 33)) = v0 at *
  have HB0 : Below w.heap.size w v0 := by rw [← hC]; exact balloc (bself w) _
  have K0 : Bk w.heap.size v0 [(true, w.heap.size, GE (p) (q) (g) (h))] := by rw [← hC]; exact (Bk.nil _ w).ad
  clear hC
  refine rgP K0 HB0 HB0.size [] [(5, 5, L0s, some (6, LN n))] [(0, 10, .slice (some ⟨b0, 0, none⟩) cs.length cap), (1, 11, .tuple #[NV n, .int .i64 0]), (2, 9, .tuple #[NV n, .int .i64 0]), (3, 12, NV n), (4, 13, .int .i64 0), (7, 6, .int .i64 0)] [(6, 5)] [] [] ?_ ?_
  · refine oc g_mv ?_
    refine oc (g_cb ent_seneschalref03_Check (fun uZ bZ => hChk.out uZ (Nat.lt_of_lt_of_le hlt bZ.size) (hcv.out.below bZ hlt))) ?_
    refine oc g_mv ?_
    refine oc g_ex ?_
    refine oc g_ex ?_
    refine oc (g_al 0 aN) ?_
    refine oc (g_sn 0 iN) ?_
    exact oc g_as on
  intro u1 b1_5 HB1 sz1 K1
  simp only [fX, nK, nP, Wr.f, aK, pM] at K1
  simp only [setG, setN, List.set_cons_zero, List.set_cons_succ]
  clear K0 HB0
  have hz3 : (cs.length : Int) - 1 = ((cs.length - 1 : Nat) : Int) := by omega
  have hR : w.rangeAt b0 (0 + 12 * (cs.length - 1) + 4) (LN f) := by
    have := range_F (rng_at hcv.out (cs.length - 1) (by omega))
    rwa [hlf.out] at this
  have hR : Hid _ := hR
  go_upto_region 2 with fail
  refine rgP K1 HB1 HB1.size [] [] [(0, 14, .int .i64 0), (1, 15, .bool false)] [] [] [] ?_ ?_
  · refine oc g_mv ?_
    exact oc (g_bn (fun uZ => neq_i _ _ _ 0 0 _ uZ rfl)) on
  intro u2 HB2 sz2 K2
  simp only [fX, nK, nP, Wr.f, aK, pM] at K2
  simp only [setG, setN, List.set_cons_zero, List.set_cons_succ]
  clear K1 HB1
  go_upto_region 4 with fail
  refine rgP K2 HB2 HB2.size [] [(8, 7, L0s, some (9, LN t))] [(0, 18, .pointer (some ⟨w.heap.size, 4, none⟩)), (1, 19, NV q), (2, 20, .pointer (some ⟨w.heap.size, 4, none⟩)), (3, 21, NV q), (4, 22, .tuple #[NV t, .bool false]), (5, 17, .tuple #[NV t, .bool false]), (6, 23, NV t), (7, 24, .bool false), (10, 8, .bool false)] [(9, 8)] [] [true, true, false] ?_ ?_
  · refine oc (g_fd (fun uZ => fdG1 _ uZ)) ?_
    refine oc (g_lo 0 4 uN iN) ?_
    refine oc (g_fd (fun uZ => fdG1 _ uZ)) ?_
    refine oc (g_lo 0 4 uN iN) ?_
    refine oc (g_cl ent_seneschalref01_Add (fun uZ => hAd.out uZ)) ?_
    refine oc g_mv ?_
    refine oc g_ex ?_
    refine oc g_ex ?_
    refine oc (g_al 0 aN) ?_
    refine oc (g_sn 0 iN) ?_
    exact oc g_as on
  intro u3 b3_8 HB3 sz3 K3
  simp only [fX, nK, nP, Wr.f, aK, pM] at K3
  simp only [setG, setN, List.set_cons_zero, List.set_cons_succ]
  clear K2 HB2
  go_upto_region 5 with fail
  refine rgD K3 HB3 HB3.size [] [] [(0, 25, .bool false), (1, 26, .bool false), (2, 27, NV n), (3, 28, .pointer (some ⟨w.heap.size, 0, none⟩)), (4, 29, NV p), (5, 30, .bool false), (6, 31, .bool false), (7, 32, .bool false), (8, 33, .slice (some ⟨b0, 0, none⟩) cs.length cap), (9, 34, .slice (some ⟨b0, 0, none⟩) cs.length cap), (10, 35, .int .i64 (cs.length : Int)), (11, 36, .int .i64 ((cs.length - 1 : Nat) : Int)), (12, 37, .pointer (some ⟨b0, 0 + 12 * (cs.length - 1), none⟩)), (13, 38, .pointer (some ⟨b0, 0 + 12 * (cs.length - 1) + 4, none⟩)), (14, 39, NV f), (15, 40, .pointer (some ⟨w.heap.size, 4, none⟩)), (16, 41, NV q), (17, 42, .bool true), (18, 43, .bool true)] [] [] [false, false] ?_ ?_
  · refine oc g_mv ?_
    refine oc g_mv ?_
    refine oc (g_ld 1 uN iN) ?_
    refine oc (g_fd (fun uZ => fdG0 _ uZ)) ?_
    refine oc (g_lo 0 0 uN iN) ?_
    refine oc (g_bn (fun uZ => neq_n _ _ hn hp _ h1 uZ)) ?_
    refine oc g_pk ?_
    refine oc g_mv ?_
    refine oc g_mv ?_
    refine oc g_mv ?_
    refine oc (g_ln Try.underlying31) ?_
    refine oc (g_bn (fun uZ => sub_i _ _ (cs.length : Int) 1 ((cs.length - 1 : Nat) : Int) uZ hz3 (by omega) (by omega))) ?_
    refine oc (g_ix (fun uZ => ixC b0 0 cs.length cap (cs.length - 1) (by omega) uZ)) ?_
    refine oc (g_fd (fun uZ => fdC1x _ _ uZ)) ?_
    refine oc (g_lf hR.out hlt uN iN) ?_
    refine oc (g_fd (fun uZ => fdG1 _ uZ)) ?_
    refine oc (g_lo 0 4 uN iN) ?_
    refine oc (g_bn (fun uZ => neq_n _ _ hf hq _ h2 uZ)) ?_
    exact oc g_pk on
  intro u4 HB4 sz4 K4
  simp only [fX, nK, nP, Wr.f, aK, pM] at K4
  simp only [setG, setN, List.set_cons_zero, List.set_cons_succ]
  clear K3 HB3
  go_upto_region 6 with fail
  refine rgP K4 HB4 HB4.size [] [] [(0, 4, (Go.Value.int Go.IntKind.i64 30))] [] [] [] ?_ ?_
  · exact oc g_as on
  intro u5 HB5 sz5 K5
  simp only [fX, nK, nP, Wr.f, aK, pM] at K5
  simp only [setG, setN, List.set_cons_zero, List.set_cons_succ]
  clear K4 HB4
  go_wp2
  refine bodyPost_ret (v := .int .i64 30) (by simp [results, Try.results18, go_sem, ]) rfl ⟨rfl, HB5⟩
set_option maxRecDepth 100000 in
set_option maxHeartbeats 4000000 in
theorem xgroup_t (p q g h n f t : Int) (b0 cap : Nat) (cs : List (Int × Int × Int)) (w : World) (hp : In p) (hq : In q) (hg : In g) (hh : In h) (hcs : cs.length ≤ 256) (hin : Hid (∀ j, j < cs.length → In (cat cs j).1 ∧ In (cat cs j).2.1 ∧ In (cat cs j).2.2)) (hlt : b0 < w.heap.size) (hcv : Hid (CV w b0 (flC cs))) (h0 : 0 < cs.length) (hlf : Hid ((cat cs (cs.length - 1)).2.1 = f)) (hn : In n) (hf : In f)(hChk : Hid (∀ u, b0 < u.heap.size → CV u b0 (flC cs) → Calls Try.prog 16 #[.slice (some ⟨b0, 0, none⟩) cs.length cap] u fun e u' => e = .returned (.tuple #[NV n, .int .i64 0]) ∧ Below u.heap.size u u'))(it : In t) (hAd : Hid (∀ u, Calls Try.prog 28 #[NV q, NV q] u fun e u' => e = .returned (.tuple #[NV t, .bool false]) ∧ Below u.heap.size u u'))(h1 : decide (n = p) = !false)(h2 : decide (f = q) = !false)(ht1 : t + 1 < 115792089237316195423570985008687907853269984665640564039457584007913129639936) (it1 : In (t + 1))(h3 : decide (t + 1 = p) = !true) :
    Calls Try.prog 18 #[GX p q g h, .slice (some ⟨b0, 0, none⟩) cs.length cap] w fun e w' => e = .returned (.int .i64 30) ∧ Below w.heap.size w w' := by
  go_enter Try.func18, Try.ntmps18
  go_upto_region 1 with fail
  generalize hC : (w.alloc (.cells (GE (p) (q) (g) (h) : List Value).toArray 33)) = v0 at *
  have HB0 : Below w.heap.size w v0 := by rw [← hC]; exact balloc (bself w) _
  have K0 : Bk w.heap.size v0 [(true, w.heap.size, GE (p) (q) (g) (h))] := by rw [← hC]; exact (Bk.nil _ w).ad
  clear hC
  refine rgP K0 HB0 HB0.size [] [(5, 5, L0s, some (6, LN n))] [(0, 10, .slice (some ⟨b0, 0, none⟩) cs.length cap), (1, 11, .tuple #[NV n, .int .i64 0]), (2, 9, .tuple #[NV n, .int .i64 0]), (3, 12, NV n), (4, 13, .int .i64 0), (7, 6, .int .i64 0)] [(6, 5)] [] [] ?_ ?_
  · refine oc g_mv ?_
    refine oc (g_cb ent_seneschalref03_Check (fun uZ bZ => hChk.out uZ (Nat.lt_of_lt_of_le hlt bZ.size) (hcv.out.below bZ hlt))) ?_
    refine oc g_mv ?_
    refine oc g_ex ?_
    refine oc g_ex ?_
    refine oc (g_al 0 aN) ?_
    refine oc (g_sn 0 iN) ?_
    exact oc g_as on
  intro u1 b1_5 HB1 sz1 K1
  simp only [fX, nK, nP, Wr.f, aK, pM] at K1
  simp only [setG, setN, List.set_cons_zero, List.set_cons_succ]
  clear K0 HB0
  have hz3 : (cs.length : Int) - 1 = ((cs.length - 1 : Nat) : Int) := by omega
  have hR : w.rangeAt b0 (0 + 12 * (cs.length - 1) + 4) (LN f) := by
    have := range_F (rng_at hcv.out (cs.length - 1) (by omega))
    rwa [hlf.out] at this
  have hR : Hid _ := hR
  go_upto_region 2 with fail
  refine rgP K1 HB1 HB1.size [] [] [(0, 14, .int .i64 0), (1, 15, .bool false)] [] [] [] ?_ ?_
  · refine oc g_mv ?_
    exact oc (g_bn (fun uZ => neq_i _ _ _ 0 0 _ uZ rfl)) on
  intro u2 HB2 sz2 K2
  simp only [fX, nK, nP, Wr.f, aK, pM] at K2
  simp only [setG, setN, List.set_cons_zero, List.set_cons_succ]
  clear K1 HB1
  go_upto_region 4 with fail
  refine rgP K2 HB2 HB2.size [] [(8, 7, L0s, some (9, LN t))] [(0, 18, .pointer (some ⟨w.heap.size, 4, none⟩)), (1, 19, NV q), (2, 20, .pointer (some ⟨w.heap.size, 4, none⟩)), (3, 21, NV q), (4, 22, .tuple #[NV t, .bool false]), (5, 17, .tuple #[NV t, .bool false]), (6, 23, NV t), (7, 24, .bool false), (10, 8, .bool false)] [(9, 8)] [] [] ?_ ?_
  · refine oc (g_fd (fun uZ => fdG1 _ uZ)) ?_
    refine oc (g_lo 0 4 uN iN) ?_
    refine oc (g_fd (fun uZ => fdG1 _ uZ)) ?_
    refine oc (g_lo 0 4 uN iN) ?_
    refine oc (g_cl ent_seneschalref01_Add (fun uZ => hAd.out uZ)) ?_
    refine oc g_mv ?_
    refine oc g_ex ?_
    refine oc g_ex ?_
    refine oc (g_al 0 aN) ?_
    refine oc (g_sn 0 iN) ?_
    exact oc g_as on
  intro u3 b3_8 HB3 sz3 K3
  simp only [fX, nK, nP, Wr.f, aK, pM] at K3
  simp only [setG, setN, List.set_cons_zero, List.set_cons_succ]
  clear K2 HB2
  go_upto_region 5 with fail
  refine rgD K3 HB3 HB3.size [] [] [(0, 25, .bool false), (1, 26, .bool false), (2, 27, NV n), (3, 28, .pointer (some ⟨w.heap.size, 0, none⟩)), (4, 29, NV p), (5, 30, .bool false), (6, 31, .bool false), (7, 32, .bool false), (8, 33, .slice (some ⟨b0, 0, none⟩) cs.length cap), (9, 34, .slice (some ⟨b0, 0, none⟩) cs.length cap), (10, 35, .int .i64 (cs.length : Int)), (11, 36, .int .i64 ((cs.length - 1 : Nat) : Int)), (12, 37, .pointer (some ⟨b0, 0 + 12 * (cs.length - 1), none⟩)), (13, 38, .pointer (some ⟨b0, 0 + 12 * (cs.length - 1) + 4, none⟩)), (14, 39, NV f), (15, 40, .pointer (some ⟨w.heap.size, 4, none⟩)), (16, 41, NV q), (17, 42, .bool false), (18, 43, .bool false)] [] [] [true, false] ?_ ?_
  · refine oc g_mv ?_
    refine oc g_mv ?_
    refine oc (g_ld 1 uN iN) ?_
    refine oc (g_fd (fun uZ => fdG0 _ uZ)) ?_
    refine oc (g_lo 0 0 uN iN) ?_
    refine oc (g_bn (fun uZ => neq_n _ _ hn hp _ h1 uZ)) ?_
    refine oc g_pk ?_
    refine oc g_mv ?_
    refine oc g_mv ?_
    refine oc g_mv ?_
    refine oc (g_ln Try.underlying31) ?_
    refine oc (g_bn (fun uZ => sub_i _ _ (cs.length : Int) 1 ((cs.length - 1 : Nat) : Int) uZ hz3 (by omega) (by omega))) ?_
    refine oc (g_ix (fun uZ => ixC b0 0 cs.length cap (cs.length - 1) (by omega) uZ)) ?_
    refine oc (g_fd (fun uZ => fdC1x _ _ uZ)) ?_
    refine oc (g_lf hR.out hlt uN iN) ?_
    refine oc (g_fd (fun uZ => fdG1 _ uZ)) ?_
    refine oc (g_lo 0 4 uN iN) ?_
    refine oc (g_bn (fun uZ => neq_n _ _ hf hq _ h2 uZ)) ?_
    exact oc g_pk on
  intro u4 HB4 sz4 K4
  simp only [fX, nK, nP, Wr.f, aK, pM] at K4
  simp only [setG, setN, List.set_cons_zero, List.set_cons_succ]
  clear K3 HB3
  go_upto_region 7 with fail
  refine rgP K4 HB4 HB4.size [.no, .all 6 (LN (t + 1))] [] [(0, 45, NV t), (1, 46, NV 1), (2, 47, .tuple #[NV (t + 1), .bool false]), (3, 44, .tuple #[NV (t + 1), .bool false]), (4, 48, NV (t + 1)), (5, 49, .bool false), (7, 8, .bool false)] [(6, 0)] [] [] ?_ ?_
  · refine oc (g_ld 1 uN iN) ?_
    refine oc (g_bd (fun uZ => bdX 1 (by omega) (by omega) uZ)) ?_
    refine oc (g_cl ent_seneschalref01_Add (fun uZ => nrAdd_lt t 1 uZ it In_1 ht1)) ?_
    refine oc g_mv ?_
    refine oc g_ex ?_
    refine oc g_ex ?_
    refine oc (g_st 1 iN) ?_
    exact oc g_as on
  intro u5 HB5 sz5 K5
  simp only [fX, nK, nP, Wr.f, aK, pM] at K5
  simp only [setG, setN, List.set_cons_zero, List.set_cons_succ]
  clear K4 HB4
  go_upto_region 8 with fail
  refine rgP K5 HB5 HB5.size [] [] [(0, 50, .bool false), (1, 51, .bool false), (2, 52, NV (t + 1)), (3, 53, .pointer (some ⟨w.heap.size, 0, none⟩)), (4, 54, NV p), (5, 55, .bool true), (6, 56, .bool true), (7, 57, .bool true), (8, 58, undef), (9, 59, undef), (10, 60, undef), (11, 61, undef), (12, 62, undef), (13, 63, (Go.Value.bool Bool.true)), (14, 64, (Go.Value.bool Bool.true)), (15, 65, undef), (16, 66, undef), (17, 67, undef), (18, 68, undef), (19, 69, undef), (20, 70, undef), (21, 71, undef), (22, 72, undef), (23, 73, (Go.Value.bool Bool.true)), (24, 74, (Go.Value.bool Bool.true)), (25, 75, undef), (26, 76, undef), (27, 77, undef), (28, 78, undef), (29, 79, undef), (30, 80, undef), (31, 81, undef), (32, 82, undef), (33, 83, (Go.Value.bool Bool.true))] [] [] [false, false] ?_ ?_
  · refine oc g_mv ?_
    refine oc g_mv ?_
    refine oc (g_ld 1 uN iN) ?_
    refine oc (g_fd (fun uZ => fdG0 _ uZ)) ?_
    refine oc (g_lo 0 0 uN iN) ?_
    refine oc (g_bn (fun uZ => neq_n _ _ it1 hp _ h3 uZ)) ?_
    refine oc g_pk ?_
    refine oc g_mv ?_
    refine oc g_sk ?_
    refine oc g_sk ?_
    refine oc g_sk ?_
    refine oc g_sk ?_
    refine oc g_sk ?_
    refine oc g_pk ?_
    refine oc g_mv ?_
    refine oc g_sk ?_
    refine oc g_sk ?_
    refine oc g_sk ?_
    refine oc g_sk ?_
    refine oc g_sk ?_
    refine oc g_sk ?_
    refine oc g_sk ?_
    refine oc g_sk ?_
    refine oc g_pk ?_
    refine oc g_mv ?_
    refine oc g_sk ?_
    refine oc g_sk ?_
    refine oc g_sk ?_
    refine oc g_sk ?_
    refine oc g_sk ?_
    refine oc g_sk ?_
    refine oc g_sk ?_
    refine oc g_sk ?_
    exact oc g_pk on
  intro u6 HB6 sz6 K6
  simp only [fX, nK, nP, Wr.f, aK, pM] at K6
  simp only [setG, setN, List.set_cons_zero, List.set_cons_succ]
  clear K5 HB5
  go_upto_region 9 with fail
  refine rgP K6 HB6 HB6.size [] [] [(0, 4, (Go.Value.int Go.IntKind.i64 30))] [] [] [] ?_ ?_
  · exact oc g_as on
  intro u7 HB7 sz7 K7
  simp only [fX, nK, nP, Wr.f, aK, pM] at K7
  simp only [setG, setN, List.set_cons_zero, List.set_cons_succ]
  clear K6 HB6
  go_wp2
  refine bodyPost_ret (v := .int .i64 30) (by simp [results, Try.results18, go_sem, ]) rfl ⟨rfl, HB7⟩
set_option maxRecDepth 100000 in
set_option maxHeartbeats 4000000 in
theorem xgroup_e (p q g h n f t : Int) (b0 cap : Nat) (cs : List (Int × Int × Int)) (w : World) (hp : In p) (hq : In q) (hg : In g) (hh : In h) (hcs : cs.length ≤ 256) (hin : Hid (∀ j, j < cs.length → In (cat cs j).1 ∧ In (cat cs j).2.1 ∧ In (cat cs j).2.2)) (hlt : b0 < w.heap.size) (hcv : Hid (CV w b0 (flC cs))) (h0 : 0 < cs.length) (hlf : Hid ((cat cs (cs.length - 1)).2.1 = f)) (hn : In n) (hf : In f)(hChk : Hid (∀ u, b0 < u.heap.size → CV u b0 (flC cs) → Calls Try.prog 16 #[.slice (some ⟨b0, 0, none⟩) cs.length cap] u fun e u' => e = .returned (.tuple #[NV n, .int .i64 0]) ∧ Below u.heap.size u u'))(it : In t) (hAd : Hid (∀ u, Calls Try.prog 28 #[NV q, NV q] u fun e u' => e = .returned (.tuple #[NV t, .bool false]) ∧ Below u.heap.size u u'))(h1 : decide (n = p) = !false)(h2 : decide (f = q) = !false)(ht1 : t + 1 < 115792089237316195423570985008687907853269984665640564039457584007913129639936) (it1 : In (t + 1))(h3 : decide (t + 1 = p) = !false)(h4 : decide (g = h) = true) :
    Calls Try.prog 18 #[GX p q g h, .slice (some ⟨b0, 0, none⟩) cs.length cap] w fun e w' => e = .returned (.int .i64 30) ∧ Below w.heap.size w w' := by
  go_enter Try.func18, Try.ntmps18
  go_upto_region 1 with fail
  generalize hC : (w.alloc (.cells (GE (p) (q) (g) (h) : List Value).toArray 33)) = v0 at *
  have HB0 : Below w.heap.size w v0 := by rw [← hC]; exact balloc (bself w) _
  have K0 : Bk w.heap.size v0 [(true, w.heap.size, GE (p) (q) (g) (h))] := by rw [← hC]; exact (Bk.nil _ w).ad
  clear hC
  refine rgP K0 HB0 HB0.size [] [(5, 5, L0s, some (6, LN n))] [(0, 10, .slice (some ⟨b0, 0, none⟩) cs.length cap), (1, 11, .tuple #[NV n, .int .i64 0]), (2, 9, .tuple #[NV n, .int .i64 0]), (3, 12, NV n), (4, 13, .int .i64 0), (7, 6, .int .i64 0)] [(6, 5)] [] [] ?_ ?_
  · refine oc g_mv ?_
    refine oc (g_cb ent_seneschalref03_Check (fun uZ bZ => hChk.out uZ (Nat.lt_of_lt_of_le hlt bZ.size) (hcv.out.below bZ hlt))) ?_
    refine oc g_mv ?_
    refine oc g_ex ?_
    refine oc g_ex ?_
    refine oc (g_al 0 aN) ?_
    refine oc (g_sn 0 iN) ?_
    exact oc g_as on
  intro u1 b1_5 HB1 sz1 K1
  simp only [fX, nK, nP, Wr.f, aK, pM] at K1
  simp only [setG, setN, List.set_cons_zero, List.set_cons_succ]
  clear K0 HB0
  have hz3 : (cs.length : Int) - 1 = ((cs.length - 1 : Nat) : Int) := by omega
  have hR : w.rangeAt b0 (0 + 12 * (cs.length - 1) + 4) (LN f) := by
    have := range_F (rng_at hcv.out (cs.length - 1) (by omega))
    rwa [hlf.out] at this
  have hR : Hid _ := hR
  go_upto_region 2 with fail
  refine rgP K1 HB1 HB1.size [] [] [(0, 14, .int .i64 0), (1, 15, .bool false)] [] [] [] ?_ ?_
  · refine oc g_mv ?_
    exact oc (g_bn (fun uZ => neq_i _ _ _ 0 0 _ uZ rfl)) on
  intro u2 HB2 sz2 K2
  simp only [fX, nK, nP, Wr.f, aK, pM] at K2
  simp only [setG, setN, List.set_cons_zero, List.set_cons_succ]
  clear K1 HB1
  go_upto_region 4 with fail
  refine rgP K2 HB2 HB2.size [] [(8, 7, L0s, some (9, LN t))] [(0, 18, .pointer (some ⟨w.heap.size, 4, none⟩)), (1, 19, NV q), (2, 20, .pointer (some ⟨w.heap.size, 4, none⟩)), (3, 21, NV q), (4, 22, .tuple #[NV t, .bool false]), (5, 17, .tuple #[NV t, .bool false]), (6, 23, NV t), (7, 24, .bool false), (10, 8, .bool false)] [(9, 8)] [] [] ?_ ?_
  · refine oc (g_fd (fun uZ => fdG1 _ uZ)) ?_
    refine oc (g_lo 0 4 uN iN) ?_
    refine oc (g_fd (fun uZ => fdG1 _ uZ)) ?_
    refine oc (g_lo 0 4 uN iN) ?_
    refine oc (g_cl ent_seneschalref01_Add (fun uZ => hAd.out uZ)) ?_
    refine oc g_mv ?_
    refine oc g_ex ?_
    refine oc g_ex ?_
    refine oc (g_al 0 aN) ?_
    refine oc (g_sn 0 iN) ?_
    exact oc g_as on
  intro u3 b3_8 HB3 sz3 K3
  simp only [fX, nK, nP, Wr.f, aK, pM] at K3
  simp only [setG, setN, List.set_cons_zero, List.set_cons_succ]
  clear K2 HB2
  go_upto_region 5 with fail
  refine rgD K3 HB3 HB3.size [] [] [(0, 25, .bool false), (1, 26, .bool false), (2, 27, NV n), (3, 28, .pointer (some ⟨w.heap.size, 0, none⟩)), (4, 29, NV p), (5, 30, .bool false), (6, 31, .bool false), (7, 32, .bool false), (8, 33, .slice (some ⟨b0, 0, none⟩) cs.length cap), (9, 34, .slice (some ⟨b0, 0, none⟩) cs.length cap), (10, 35, .int .i64 (cs.length : Int)), (11, 36, .int .i64 ((cs.length - 1 : Nat) : Int)), (12, 37, .pointer (some ⟨b0, 0 + 12 * (cs.length - 1), none⟩)), (13, 38, .pointer (some ⟨b0, 0 + 12 * (cs.length - 1) + 4, none⟩)), (14, 39, NV f), (15, 40, .pointer (some ⟨w.heap.size, 4, none⟩)), (16, 41, NV q), (17, 42, .bool false), (18, 43, .bool false)] [] [] [true, false] ?_ ?_
  · refine oc g_mv ?_
    refine oc g_mv ?_
    refine oc (g_ld 1 uN iN) ?_
    refine oc (g_fd (fun uZ => fdG0 _ uZ)) ?_
    refine oc (g_lo 0 0 uN iN) ?_
    refine oc (g_bn (fun uZ => neq_n _ _ hn hp _ h1 uZ)) ?_
    refine oc g_pk ?_
    refine oc g_mv ?_
    refine oc g_mv ?_
    refine oc g_mv ?_
    refine oc (g_ln Try.underlying31) ?_
    refine oc (g_bn (fun uZ => sub_i _ _ (cs.length : Int) 1 ((cs.length - 1 : Nat) : Int) uZ hz3 (by omega) (by omega))) ?_
    refine oc (g_ix (fun uZ => ixC b0 0 cs.length cap (cs.length - 1) (by omega) uZ)) ?_
    refine oc (g_fd (fun uZ => fdC1x _ _ uZ)) ?_
    refine oc (g_lf hR.out hlt uN iN) ?_
    refine oc (g_fd (fun uZ => fdG1 _ uZ)) ?_
    refine oc (g_lo 0 4 uN iN) ?_
    refine oc (g_bn (fun uZ => neq_n _ _ hf hq _ h2 uZ)) ?_
    exact oc g_pk on
  intro u4 HB4 sz4 K4
  simp only [fX, nK, nP, Wr.f, aK, pM] at K4
  simp only [setG, setN, List.set_cons_zero, List.set_cons_succ]
  clear K3 HB3
  go_upto_region 7 with fail
  refine rgP K4 HB4 HB4.size [.no, .all 6 (LN (t + 1))] [] [(0, 45, NV t), (1, 46, NV 1), (2, 47, .tuple #[NV (t + 1), .bool false]), (3, 44, .tuple #[NV (t + 1), .bool false]), (4, 48, NV (t + 1)), (5, 49, .bool false), (7, 8, .bool false)] [(6, 0)] [] [] ?_ ?_
  · refine oc (g_ld 1 uN iN) ?_
    refine oc (g_bd (fun uZ => bdX 1 (by omega) (by omega) uZ)) ?_
    refine oc (g_cl ent_seneschalref01_Add (fun uZ => nrAdd_lt t 1 uZ it In_1 ht1)) ?_
    refine oc g_mv ?_
    refine oc g_ex ?_
    refine oc g_ex ?_
    refine oc (g_st 1 iN) ?_
    exact oc g_as on
  intro u5 HB5 sz5 K5
  simp only [fX, nK, nP, Wr.f, aK, pM] at K5
  simp only [setG, setN, List.set_cons_zero, List.set_cons_succ]
  clear K4 HB4
  go_upto_region 8 with fail
  refine rgP K5 HB5 HB5.size [] [] [(0, 50, .bool false), (1, 51, .bool false), (2, 52, NV (t + 1)), (3, 53, .pointer (some ⟨w.heap.size, 0, none⟩)), (4, 54, NV p), (5, 55, .bool false), (6, 56, .bool false), (7, 57, .bool false), (8, 58, .pointer (some ⟨w.heap.size, 8, none⟩)), (9, 59, NV g), (10, 60, .pointer (some ⟨w.heap.size, 12, none⟩)), (11, 61, NV h), (12, 62, .bool true), (13, 63, .bool true), (14, 64, .bool true), (15, 65, undef), (16, 66, undef), (17, 67, undef), (18, 68, undef), (19, 69, undef), (20, 70, undef), (21, 71, undef), (22, 72, undef), (23, 73, (Go.Value.bool Bool.true)), (24, 74, (Go.Value.bool Bool.true)), (25, 75, undef), (26, 76, undef), (27, 77, undef), (28, 78, undef), (29, 79, undef), (30, 80, undef), (31, 81, undef), (32, 82, undef), (33, 83, (Go.Value.bool Bool.true))] [] [] [false, false] ?_ ?_
  · refine oc g_mv ?_
    refine oc g_mv ?_
    refine oc (g_ld 1 uN iN) ?_
    refine oc (g_fd (fun uZ => fdG0 _ uZ)) ?_
    refine oc (g_lo 0 0 uN iN) ?_
    refine oc (g_bn (fun uZ => neq_n _ _ it1 hp _ h3 uZ)) ?_
    refine oc g_pk ?_
    refine oc g_mv ?_
    refine oc (g_fd (fun uZ => fdG2 _ uZ)) ?_
    refine oc (g_lo 0 8 uN iN) ?_
    refine oc (g_fd (fun uZ => fdG3 _ uZ)) ?_
    refine oc (g_lo 0 12 uN iN) ?_
    refine oc (g_bn (fun uZ => eql_n _ _ hg hh _ h4 uZ)) ?_
    refine oc g_pk ?_
    refine oc g_mv ?_
    refine oc g_sk ?_
    refine oc g_sk ?_
    refine oc g_sk ?_
    refine oc g_sk ?_
    refine oc g_sk ?_
    refine oc g_sk ?_
    refine oc g_sk ?_
    refine oc g_sk ?_
    refine oc g_pk ?_
    refine oc g_mv ?_
    refine oc g_sk ?_
    refine oc g_sk ?_
    refine oc g_sk ?_
    refine oc g_sk ?_
    refine oc g_sk ?_
    refine oc g_sk ?_
    refine oc g_sk ?_
    refine oc g_sk ?_
    exact oc g_pk on
  intro u6 HB6 sz6 K6
  simp only [fX, nK, nP, Wr.f, aK, pM] at K6
  simp only [setG, setN, List.set_cons_zero, List.set_cons_succ]
  clear K5 HB5
  go_upto_region 9 with fail
  refine rgP K6 HB6 HB6.size [] [] [(0, 4, (Go.Value.int Go.IntKind.i64 30))] [] [] [] ?_ ?_
  · exact oc g_as on
  intro u7 HB7 sz7 K7
  simp only [fX, nK, nP, Wr.f, aK, pM] at K7
  simp only [setG, setN, List.set_cons_zero, List.set_cons_succ]
  clear K6 HB6
  go_wp2
  refine bodyPost_ret (v := .int .i64 30) (by simp [results, Try.results18, go_sem, ]) rfl ⟨rfl, HB7⟩
set_option maxRecDepth 100000 in
set_option maxHeartbeats 4000000 in
theorem xgroup_g (p q g h n f t : Int) (b0 cap : Nat) (cs : List (Int × Int × Int)) (w : World) (hp : In p) (hq : In q) (hg : In g) (hh : In h) (hcs : cs.length ≤ 256) (hin : Hid (∀ j, j < cs.length → In (cat cs j).1 ∧ In (cat cs j).2.1 ∧ In (cat cs j).2.2)) (hlt : b0 < w.heap.size) (hcv : Hid (CV w b0 (flC cs))) (h0 : 0 < cs.length) (hlf : Hid ((cat cs (cs.length - 1)).2.1 = f)) (hn : In n) (hf : In f)(hChk : Hid (∀ u, b0 < u.heap.size → CV u b0 (flC cs) → Calls Try.prog 16 #[.slice (some ⟨b0, 0, none⟩) cs.length cap] u fun e u' => e = .returned (.tuple #[NV n, .int .i64 0]) ∧ Below u.heap.size u u'))(it : In t) (hAd : Hid (∀ u, Calls Try.prog 28 #[NV q, NV q] u fun e u' => e = .returned (.tuple #[NV t, .bool false]) ∧ Below u.heap.size u u'))(h1 : decide (n = p) = !false)(h2 : decide (f = q) = !false)(ht1 : t + 1 < 115792089237316195423570985008687907853269984665640564039457584007913129639936) (it1 : In (t + 1))(h3 : decide (t + 1 = p) = !false)(h4 : decide (g = h) = false)(hM1 : Hid (∀ u, Calls Try.prog 39 #[NV g, NV p, NV q] u fun e u' => e = .returned (.bool false) ∧ Below u.heap.size u u')) :
    Calls Try.prog 18 #[GX p q g h, .slice (some ⟨b0, 0, none⟩) cs.length cap] w fun e w' => e = .returned (.int .i64 30) ∧ Below w.heap.size w w' := by
  go_enter Try.func18, Try.ntmps18
  go_upto_region 1 with fail
  generalize hC : (w.alloc (.cells (GE (p) (q) (g) (h) : List Value).toArray 33)) = v0 at *
  have HB0 : Below w.heap.size w v0 := by rw [← hC]; exact balloc (bself w) _
  have K0 : Bk w.heap.size v0 [(true, w.heap.size, GE (p) (q) (g) (h))] := by rw [← hC]; exact (Bk.nil _ w).ad
  clear hC
  refine rgP K0 HB0 HB0.size [] [(5, 5, L0s, some (6, LN n))] [(0, 10, .slice (some ⟨b0, 0, none⟩) cs.length cap), (1, 11, .tuple #[NV n, .int .i64 0]), (2, 9, .tuple #[NV n, .int .i64 0]), (3, 12, NV n), (4, 13, .int .i64 0), (7, 6, .int .i64 0)] [(6, 5)] [] [] ?_ ?_
  · refine oc g_mv ?_
    refine oc (g_cb ent_seneschalref03_Check (fun uZ bZ => hChk.out uZ (Nat.lt_of_lt_of_le hlt bZ.size) (hcv.out.below bZ hlt))) ?_
    refine oc g_mv ?_
    refine oc g_ex ?_
    refine oc g_ex ?_
    refine oc (g_al 0 aN) ?_
    refine oc (g_sn 0 iN) ?_
    exact oc g_as on
  intro u1 b1_5 HB1 sz1 K1
  simp only [fX, nK, nP, Wr.f, aK, pM] at K1
  simp only [setG, setN, List.set_cons_zero, List.set_cons_succ]
  clear K0 HB0
  have hz3 : (cs.length : Int) - 1 = ((cs.length - 1 : Nat) : Int) := by omega
  have hR : w.rangeAt b0 (0 + 12 * (cs.length - 1) + 4) (LN f) := by
    have := range_F (rng_at hcv.out (cs.length - 1) (by omega))
    rwa [hlf.out] at this
  have hR : Hid _ := hR
  go_upto_region 2 with fail
  refine rgP K1 HB1 HB1.size [] [] [(0, 14, .int .i64 0), (1, 15, .bool false)] [] [] [] ?_ ?_
  · refine oc g_mv ?_
    exact oc (g_bn (fun uZ => neq_i _ _ _ 0 0 _ uZ rfl)) on
  intro u2 HB2 sz2 K2
  simp only [fX, nK, nP, Wr.f, aK, pM] at K2
  simp only [setG, setN, List.set_cons_zero, List.set_cons_succ]
  clear K1 HB1
  go_upto_region 4 with fail
  refine rgP K2 HB2 HB2.size [] [(8, 7, L0s, some (9, LN t))] [(0, 18, .pointer (some ⟨w.heap.size, 4, none⟩)), (1, 19, NV q), (2, 20, .pointer (some ⟨w.heap.size, 4, none⟩)), (3, 21, NV q), (4, 22, .tuple #[NV t, .bool false]), (5, 17, .tuple #[NV t, .bool false]), (6, 23, NV t), (7, 24, .bool false), (10, 8, .bool false)] [(9, 8)] [] [] ?_ ?_
  · refine oc (g_fd (fun uZ => fdG1 _ uZ)) ?_
    refine oc (g_lo 0 4 uN iN) ?_
    refine oc (g_fd (fun uZ => fdG1 _ uZ)) ?_
    refine oc (g_lo 0 4 uN iN) ?_
    refine oc (g_cl ent_seneschalref01_Add (fun uZ => hAd.out uZ)) ?_
    refine oc g_mv ?_
    refine oc g_ex ?_
    refine oc g_ex ?_
    refine oc (g_al 0 aN) ?_
    refine oc (g_sn 0 iN) ?_
    exact oc g_as on
  intro u3 b3_8 HB3 sz3 K3
  simp only [fX, nK, nP, Wr.f, aK, pM] at K3
  simp only [setG, setN, List.set_cons_zero, List.set_cons_succ]
  clear K2 HB2
  go_upto_region 5 with fail
  refine rgD K3 HB3 HB3.size [] [] [(0, 25, .bool false), (1, 26, .bool false), (2, 27, NV n), (3, 28, .pointer (some ⟨w.heap.size, 0, none⟩)), (4, 29, NV p), (5, 30, .bool false), (6, 31, .bool false), (7, 32, .bool false), (8, 33, .slice (some ⟨b0, 0, none⟩) cs.length cap), (9, 34, .slice (some ⟨b0, 0, none⟩) cs.length cap), (10, 35, .int .i64 (cs.length : Int)), (11, 36, .int .i64 ((cs.length - 1 : Nat) : Int)), (12, 37, .pointer (some ⟨b0, 0 + 12 * (cs.length - 1), none⟩)), (13, 38, .pointer (some ⟨b0, 0 + 12 * (cs.length - 1) + 4, none⟩)), (14, 39, NV f), (15, 40, .pointer (some ⟨w.heap.size, 4, none⟩)), (16, 41, NV q), (17, 42, .bool false), (18, 43, .bool false)] [] [] [true, false] ?_ ?_
  · refine oc g_mv ?_
    refine oc g_mv ?_
    refine oc (g_ld 1 uN iN) ?_
    refine oc (g_fd (fun uZ => fdG0 _ uZ)) ?_
    refine oc (g_lo 0 0 uN iN) ?_
    refine oc (g_bn (fun uZ => neq_n _ _ hn hp _ h1 uZ)) ?_
    refine oc g_pk ?_
    refine oc g_mv ?_
    refine oc g_mv ?_
    refine oc g_mv ?_
    refine oc (g_ln Try.underlying31) ?_
    refine oc (g_bn (fun uZ => sub_i _ _ (cs.length : Int) 1 ((cs.length - 1 : Nat) : Int) uZ hz3 (by omega) (by omega))) ?_
    refine oc (g_ix (fun uZ => ixC b0 0 cs.length cap (cs.length - 1) (by omega) uZ)) ?_
    refine oc (g_fd (fun uZ => fdC1x _ _ uZ)) ?_
    refine oc (g_lf hR.out hlt uN iN) ?_
    refine oc (g_fd (fun uZ => fdG1 _ uZ)) ?_
    refine oc (g_lo 0 4 uN iN) ?_
    refine oc (g_bn (fun uZ => neq_n _ _ hf hq _ h2 uZ)) ?_
    exact oc g_pk on
  intro u4 HB4 sz4 K4
  simp only [fX, nK, nP, Wr.f, aK, pM] at K4
  simp only [setG, setN, List.set_cons_zero, List.set_cons_succ]
  clear K3 HB3
  go_upto_region 7 with fail
  refine rgP K4 HB4 HB4.size [.no, .all 6 (LN (t + 1))] [] [(0, 45, NV t), (1, 46, NV 1), (2, 47, .tuple #[NV (t + 1), .bool false]), (3, 44, .tuple #[NV (t + 1), .bool false]), (4, 48, NV (t + 1)), (5, 49, .bool false), (7, 8, .bool false)] [(6, 0)] [] [] ?_ ?_
  · refine oc (g_ld 1 uN iN) ?_
    refine oc (g_bd (fun uZ => bdX 1 (by omega) (by omega) uZ)) ?_
    refine oc (g_cl ent_seneschalref01_Add (fun uZ => nrAdd_lt t 1 uZ it In_1 ht1)) ?_
    refine oc g_mv ?_
    refine oc g_ex ?_
    refine oc g_ex ?_
    refine oc (g_st 1 iN) ?_
    exact oc g_as on
  intro u5 HB5 sz5 K5
  simp only [fX, nK, nP, Wr.f, aK, pM] at K5
  simp only [setG, setN, List.set_cons_zero, List.set_cons_succ]
  clear K4 HB4
  go_upto_region 8 with fail
  refine rgP K5 HB5 HB5.size [] [] [(0, 50, .bool false), (1, 51, .bool false), (2, 52, NV (t + 1)), (3, 53, .pointer (some ⟨w.heap.size, 0, none⟩)), (4, 54, NV p), (5, 55, .bool false), (6, 56, .bool false), (7, 57, .bool false), (8, 58, .pointer (some ⟨w.heap.size, 8, none⟩)), (9, 59, NV g), (10, 60, .pointer (some ⟨w.heap.size, 12, none⟩)), (11, 61, NV h), (12, 62, .bool false), (13, 63, .bool false), (14, 64, .bool false), (15, 65, .pointer (some ⟨w.heap.size, 8, none⟩)), (16, 66, NV g), (17, 67, .pointer (some ⟨w.heap.size, 0, none⟩)), (18, 68, NV p), (19, 69, .pointer (some ⟨w.heap.size, 4, none⟩)), (20, 70, NV q), (21, 71, .bool false), (22, 72, .bool true), (23, 73, .bool true), (24, 74, .bool true), (25, 75, undef), (26, 76, undef), (27, 77, undef), (28, 78, undef), (29, 79, undef), (30, 80, undef), (31, 81, undef), (32, 82, undef), (33, 83, (Go.Value.bool Bool.true))] [] [] [false, false] ?_ ?_
  · refine oc g_mv ?_
    refine oc g_mv ?_
    refine oc (g_ld 1 uN iN) ?_
    refine oc (g_fd (fun uZ => fdG0 _ uZ)) ?_
    refine oc (g_lo 0 0 uN iN) ?_
    refine oc (g_bn (fun uZ => neq_n _ _ it1 hp _ h3 uZ)) ?_
    refine oc g_pk ?_
    refine oc g_mv ?_
    refine oc (g_fd (fun uZ => fdG2 _ uZ)) ?_
    refine oc (g_lo 0 8 uN iN) ?_
    refine oc (g_fd (fun uZ => fdG3 _ uZ)) ?_
    refine oc (g_lo 0 12 uN iN) ?_
    refine oc (g_bn (fun uZ => eql_n _ _ hg hh _ h4 uZ)) ?_
    refine oc g_pk ?_
    refine oc g_mv ?_
    refine oc (g_fd (fun uZ => fdG2 _ uZ)) ?_
    refine oc (g_lo 0 8 uN iN) ?_
    refine oc (g_fd (fun uZ => fdG0 _ uZ)) ?_
    refine oc (g_lo 0 0 uN iN) ?_
    refine oc (g_fd (fun uZ => fdG1 _ uZ)) ?_
    refine oc (g_lo 0 4 uN iN) ?_
    refine oc (g_cl ent_seneschalref03_member (fun uZ => hM1.out uZ)) ?_
    refine oc (g_un (fun uZ => rfl)) ?_
    refine oc g_pk ?_
    refine oc g_mv ?_
    refine oc g_sk ?_
    refine oc g_sk ?_
    refine oc g_sk ?_
    refine oc g_sk ?_
    refine oc g_sk ?_
    refine oc g_sk ?_
    refine oc g_sk ?_
    refine oc g_sk ?_
    exact oc g_pk on
  intro u6 HB6 sz6 K6
  simp only [fX, nK, nP, Wr.f, aK, pM] at K6
  simp only [setG, setN, List.set_cons_zero, List.set_cons_succ]
  clear K5 HB5
  go_upto_region 9 with fail
  refine rgP K6 HB6 HB6.size [] [] [(0, 4, (Go.Value.int Go.IntKind.i64 30))] [] [] [] ?_ ?_
  · exact oc g_as on
  intro u7 HB7 sz7 K7
  simp only [fX, nK, nP, Wr.f, aK, pM] at K7
  simp only [setG, setN, List.set_cons_zero, List.set_cons_succ]
  clear K6 HB6
  go_wp2
  refine bodyPost_ret (v := .int .i64 30) (by simp [results, Try.results18, go_sem, ]) rfl ⟨rfl, HB7⟩
set_option maxRecDepth 100000 in
set_option maxHeartbeats 4000000 in
theorem xgroup_h (p q g h n f t : Int) (b0 cap : Nat) (cs : List (Int × Int × Int)) (w : World) (hp : In p) (hq : In q) (hg : In g) (hh : In h) (hcs : cs.length ≤ 256) (hin : Hid (∀ j, j < cs.length → In (cat cs j).1 ∧ In (cat cs j).2.1 ∧ In (cat cs j).2.2)) (hlt : b0 < w.heap.size) (hcv : Hid (CV w b0 (flC cs))) (h0 : 0 < cs.length) (hlf : Hid ((cat cs (cs.length - 1)).2.1 = f)) (hn : In n) (hf : In f)(hChk : Hid (∀ u, b0 < u.heap.size → CV u b0 (flC cs) → Calls Try.prog 16 #[.slice (some ⟨b0, 0, none⟩) cs.length cap] u fun e u' => e = .returned (.tuple #[NV n, .int .i64 0]) ∧ Below u.heap.size u u'))(it : In t) (hAd : Hid (∀ u, Calls Try.prog 28 #[NV q, NV q] u fun e u' => e = .returned (.tuple #[NV t, .bool false]) ∧ Below u.heap.size u u'))(h1 : decide (n = p) = !false)(h2 : decide (f = q) = !false)(ht1 : t + 1 < 115792089237316195423570985008687907853269984665640564039457584007913129639936) (it1 : In (t + 1))(h3 : decide (t + 1 = p) = !false)(h4 : decide (g = h) = false)(hM1 : Hid (∀ u, Calls Try.prog 39 #[NV g, NV p, NV q] u fun e u' => e = .returned (.bool true) ∧ Below u.heap.size u u'))(hM2 : Hid (∀ u, Calls Try.prog 39 #[NV h, NV p, NV q] u fun e u' => e = .returned (.bool false) ∧ Below u.heap.size u u')) :
    Calls Try.prog 18 #[GX p q g h, .slice (some ⟨b0, 0, none⟩) cs.length cap] w fun e w' => e = .returned (.int .i64 30) ∧ Below w.heap.size w w' := by
  go_enter Try.func18, Try.ntmps18
  go_upto_region 1 with fail
  generalize hC : (w.alloc (.cells (GE (p) (q) (g) (h) : List Value).toArray 33)) = v0 at *
  have HB0 : Below w.heap.size w v0 := by rw [← hC]; exact balloc (bself w) _
  have K0 : Bk w.heap.size v0 [(true, w.heap.size, GE (p) (q) (g) (h))] := by rw [← hC]; exact (Bk.nil _ w).ad
  clear hC
  refine rgP K0 HB0 HB0.size [] [(5, 5, L0s, some (6, LN n))] [(0, 10, .slice (some ⟨b0, 0, none⟩) cs.length cap), (1, 11, .tuple #[NV n, .int .i64 0]), (2, 9, .tuple #[NV n, .int .i64 0]), (3, 12, NV n), (4, 13, .int .i64 0), (7, 6, .int .i64 0)] [(6, 5)] [] [] ?_ ?_
  · refine oc g_mv ?_
    refine oc (g_cb ent_seneschalref03_Check (fun uZ bZ => hChk.out uZ (Nat.lt_of_lt_of_le hlt bZ.size) (hcv.out.below bZ hlt))) ?_
    refine oc g_mv ?_
    refine oc g_ex ?_
    refine oc g_ex ?_
    refine oc (g_al 0 aN) ?_
    refine oc (g_sn 0 iN) ?_
    exact oc g_as on
  intro u1 b1_5 HB1 sz1 K1
  simp only [fX, nK, nP, Wr.f, aK, pM] at K1
  simp only [setG, setN, List.set_cons_zero, List.set_cons_succ]
  clear K0 HB0
  have hz3 : (cs.length : Int) - 1 = ((cs.length - 1 : Nat) : Int) := by omega
  have hR : w.rangeAt b0 (0 + 12 * (cs.length - 1) + 4) (LN f) := by
    have := range_F (rng_at hcv.out (cs.length - 1) (by omega))
    rwa [hlf.out] at this
  have hR : Hid _ := hR
  go_upto_region 2 with fail
  refine rgP K1 HB1 HB1.size [] [] [(0, 14, .int .i64 0), (1, 15, .bool false)] [] [] [] ?_ ?_
  · refine oc g_mv ?_
    exact oc (g_bn (fun uZ => neq_i _ _ _ 0 0 _ uZ rfl)) on
  intro u2 HB2 sz2 K2
  simp only [fX, nK, nP, Wr.f, aK, pM] at K2
  simp only [setG, setN, List.set_cons_zero, List.set_cons_succ]
  clear K1 HB1
  go_upto_region 4 with fail
  refine rgP K2 HB2 HB2.size [] [(8, 7, L0s, some (9, LN t))] [(0, 18, .pointer (some ⟨w.heap.size, 4, none⟩)), (1, 19, NV q), (2, 20, .pointer (some ⟨w.heap.size, 4, none⟩)), (3, 21, NV q), (4, 22, .tuple #[NV t, .bool false]), (5, 17, .tuple #[NV t, .bool false]), (6, 23, NV t), (7, 24, .bool false), (10, 8, .bool false)] [(9, 8)] [] [] ?_ ?_
  · refine oc (g_fd (fun uZ => fdG1 _ uZ)) ?_
    refine oc (g_lo 0 4 uN iN) ?_
    refine oc (g_fd (fun uZ => fdG1 _ uZ)) ?_
    refine oc (g_lo 0 4 uN iN) ?_
    refine oc (g_cl ent_seneschalref01_Add (fun uZ => hAd.out uZ)) ?_
    refine oc g_mv ?_
    refine oc g_ex ?_
    refine oc g_ex ?_
    refine oc (g_al 0 aN) ?_
    refine oc (g_sn 0 iN) ?_
    exact oc g_as on
  intro u3 b3_8 HB3 sz3 K3
  simp only [fX, nK, nP, Wr.f, aK, pM] at K3
  simp only [setG, setN, List.set_cons_zero, List.set_cons_succ]
  clear K2 HB2
  go_upto_region 5 with fail
  refine rgD K3 HB3 HB3.size [] [] [(0, 25, .bool false), (1, 26, .bool false), (2, 27, NV n), (3, 28, .pointer (some ⟨w.heap.size, 0, none⟩)), (4, 29, NV p), (5, 30, .bool false), (6, 31, .bool false), (7, 32, .bool false), (8, 33, .slice (some ⟨b0, 0, none⟩) cs.length cap), (9, 34, .slice (some ⟨b0, 0, none⟩) cs.length cap), (10, 35, .int .i64 (cs.length : Int)), (11, 36, .int .i64 ((cs.length - 1 : Nat) : Int)), (12, 37, .pointer (some ⟨b0, 0 + 12 * (cs.length - 1), none⟩)), (13, 38, .pointer (some ⟨b0, 0 + 12 * (cs.length - 1) + 4, none⟩)), (14, 39, NV f), (15, 40, .pointer (some ⟨w.heap.size, 4, none⟩)), (16, 41, NV q), (17, 42, .bool false), (18, 43, .bool false)] [] [] [true, false] ?_ ?_
  · refine oc g_mv ?_
    refine oc g_mv ?_
    refine oc (g_ld 1 uN iN) ?_
    refine oc (g_fd (fun uZ => fdG0 _ uZ)) ?_
    refine oc (g_lo 0 0 uN iN) ?_
    refine oc (g_bn (fun uZ => neq_n _ _ hn hp _ h1 uZ)) ?_
    refine oc g_pk ?_
    refine oc g_mv ?_
    refine oc g_mv ?_
    refine oc g_mv ?_
    refine oc (g_ln Try.underlying31) ?_
    refine oc (g_bn (fun uZ => sub_i _ _ (cs.length : Int) 1 ((cs.length - 1 : Nat) : Int) uZ hz3 (by omega) (by omega))) ?_
    refine oc (g_ix (fun uZ => ixC b0 0 cs.length cap (cs.length - 1) (by omega) uZ)) ?_
    refine oc (g_fd (fun uZ => fdC1x _ _ uZ)) ?_
    refine oc (g_lf hR.out hlt uN iN) ?_
    refine oc (g_fd (fun uZ => fdG1 _ uZ)) ?_
    refine oc (g_lo 0 4 uN iN) ?_
    refine oc (g_bn (fun uZ => neq_n _ _ hf hq _ h2 uZ)) ?_
    exact oc g_pk on
  intro u4 HB4 sz4 K4
  simp only [fX, nK, nP, Wr.f, aK, pM] at K4
  simp only [setG, setN, List.set_cons_zero, List.set_cons_succ]
  clear K3 HB3
  go_upto_region 7 with fail
  refine rgP K4 HB4 HB4.size [.no, .all 6 (LN (t + 1))] [] [(0, 45, NV t), (1, 46, NV 1), (2, 47, .tuple #[NV (t + 1), .bool false]), (3, 44, .tuple #[NV (t + 1), .bool false]), (4, 48, NV (t + 1)), (5, 49, .bool false), (7, 8, .bool false)] [(6, 0)] [] [] ?_ ?_
  · refine oc (g_ld 1 uN iN) ?_
    refine oc (g_bd (fun uZ => bdX 1 (by omega) (by omega) uZ)) ?_
    refine oc (g_cl ent_seneschalref01_Add (fun uZ => nrAdd_lt t 1 uZ it In_1 ht1)) ?_
    refine oc g_mv ?_
    refine oc g_ex ?_
    refine oc g_ex ?_
    refine oc (g_st 1 iN) ?_
    exact oc g_as on
  intro u5 HB5 sz5 K5
  simp only [fX, nK, nP, Wr.f, aK, pM] at K5
  simp only [setG, setN, List.set_cons_zero, List.set_cons_succ]
  clear K4 HB4
  go_upto_region 8 with fail
  refine rgP K5 HB5 HB5.size [] [] [(0, 50, .bool false), (1, 51, .bool false), (2, 52, NV (t + 1)), (3, 53, .pointer (some ⟨w.heap.size, 0, none⟩)), (4, 54, NV p), (5, 55, .bool false), (6, 56, .bool false), (7, 57, .bool false), (8, 58, .pointer (some ⟨w.heap.size, 8, none⟩)), (9, 59, NV g), (10, 60, .pointer (some ⟨w.heap.size, 12, none⟩)), (11, 61, NV h), (12, 62, .bool false), (13, 63, .bool false), (14, 64, .bool false), (15, 65, .pointer (some ⟨w.heap.size, 8, none⟩)), (16, 66, NV g), (17, 67, .pointer (some ⟨w.heap.size, 0, none⟩)), (18, 68, NV p), (19, 69, .pointer (some ⟨w.heap.size, 4, none⟩)), (20, 70, NV q), (21, 71, .bool true), (22, 72, .bool false), (23, 73, .bool false), (24, 74, .bool false), (25, 75, .pointer (some ⟨w.heap.size, 12, none⟩)), (26, 76, NV h), (27, 77, .pointer (some ⟨w.heap.size, 0, none⟩)), (28, 78, NV p), (29, 79, .pointer (some ⟨w.heap.size, 4, none⟩)), (30, 80, NV q), (31, 81, .bool false), (32, 82, .bool true), (33, 83, .bool true)] [] [] [false, false] ?_ ?_
  · refine oc g_mv ?_
    refine oc g_mv ?_
    refine oc (g_ld 1 uN iN) ?_
    refine oc (g_fd (fun uZ => fdG0 _ uZ)) ?_
    refine oc (g_lo 0 0 uN iN) ?_
    refine oc (g_bn (fun uZ => neq_n _ _ it1 hp _ h3 uZ)) ?_
    refine oc g_pk ?_
    refine oc g_mv ?_
    refine oc (g_fd (fun uZ => fdG2 _ uZ)) ?_
    refine oc (g_lo 0 8 uN iN) ?_
    refine oc (g_fd (fun uZ => fdG3 _ uZ)) ?_
    refine oc (g_lo 0 12 uN iN) ?_
    refine oc (g_bn (fun uZ => eql_n _ _ hg hh _ h4 uZ)) ?_
    refine oc g_pk ?_
    refine oc g_mv ?_
    refine oc (g_fd (fun uZ => fdG2 _ uZ)) ?_
    refine oc (g_lo 0 8 uN iN) ?_
    refine oc (g_fd (fun uZ => fdG0 _ uZ)) ?_
    refine oc (g_lo 0 0 uN iN) ?_
    refine oc (g_fd (fun uZ => fdG1 _ uZ)) ?_
    refine oc (g_lo 0 4 uN iN) ?_
    refine oc (g_cl ent_seneschalref03_member (fun uZ => hM1.out uZ)) ?_
    refine oc (g_un (fun uZ => rfl)) ?_
    refine oc g_pk ?_
    refine oc g_mv ?_
    refine oc (g_fd (fun uZ => fdG3 _ uZ)) ?_
    refine oc (g_lo 0 12 uN iN) ?_
    refine oc (g_fd (fun uZ => fdG0 _ uZ)) ?_
    refine oc (g_lo 0 0 uN iN) ?_
    refine oc (g_fd (fun uZ => fdG1 _ uZ)) ?_
    refine oc (g_lo 0 4 uN iN) ?_
    refine oc (g_cl ent_seneschalref03_member (fun uZ => hM2.out uZ)) ?_
    refine oc (g_un (fun uZ => rfl)) ?_
    exact oc g_pk on
  intro u6 HB6 sz6 K6
  simp only [fX, nK, nP, Wr.f, aK, pM] at K6
  simp only [setG, setN, List.set_cons_zero, List.set_cons_succ]
  clear K5 HB5
  go_upto_region 9 with fail
  refine rgP K6 HB6 HB6.size [] [] [(0, 4, (Go.Value.int Go.IntKind.i64 30))] [] [] [] ?_ ?_
  · exact oc g_as on
  intro u7 HB7 sz7 K7
  simp only [fX, nK, nP, Wr.f, aK, pM] at K7
  simp only [setG, setN, List.set_cons_zero, List.set_cons_succ]
  clear K6 HB6
  go_wp2
  refine bodyPost_ret (v := .int .i64 30) (by simp [results, Try.results18, go_sem, ]) rfl ⟨rfl, HB7⟩
set_option maxRecDepth 100000 in
set_option maxHeartbeats 4000000 in
theorem xgroup_ok (p q g h n f t : Int) (b0 cap : Nat) (cs : List (Int × Int × Int)) (w : World) (hp : In p) (hq : In q) (hg : In g) (hh : In h) (hcs : cs.length ≤ 256) (hin : Hid (∀ j, j < cs.length → In (cat cs j).1 ∧ In (cat cs j).2.1 ∧ In (cat cs j).2.2)) (hlt : b0 < w.heap.size) (hcv : Hid (CV w b0 (flC cs))) (h0 : 0 < cs.length) (hlf : Hid ((cat cs (cs.length - 1)).2.1 = f)) (hn : In n) (hf : In f)(hChk : Hid (∀ u, b0 < u.heap.size → CV u b0 (flC cs) → Calls Try.prog 16 #[.slice (some ⟨b0, 0, none⟩) cs.length cap] u fun e u' => e = .returned (.tuple #[NV n, .int .i64 0]) ∧ Below u.heap.size u u'))(it : In t) (hAd : Hid (∀ u, Calls Try.prog 28 #[NV q, NV q] u fun e u' => e = .returned (.tuple #[NV t, .bool false]) ∧ Below u.heap.size u u'))(h1 : decide (n = p) = !false)(h2 : decide (f = q) = !false)(ht1 : t + 1 < 115792089237316195423570985008687907853269984665640564039457584007913129639936) (it1 : In (t + 1))(h3 : decide (t + 1 = p) = !false)(h4 : decide (g = h) = false)(hM1 : Hid (∀ u, Calls Try.prog 39 #[NV g, NV p, NV q] u fun e u' => e = .returned (.bool true) ∧ Below u.heap.size u u'))(hM2 : Hid (∀ u, Calls Try.prog 39 #[NV h, NV p, NV q] u fun e u' => e = .returned (.bool true) ∧ Below u.heap.size u u')) :
    Calls Try.prog 18 #[GX p q g h, .slice (some ⟨b0, 0, none⟩) cs.length cap] w fun e w' => e = .returned (.int .i64 0) ∧ Below w.heap.size w w' := by
  go_enter Try.func18, Try.ntmps18
  go_upto_region 1 with fail
  generalize hC : (w.alloc (.cells (GE (p) (q) (g) (h) : List Value).toArray 33)) = v0 at *
  have HB0 : Below w.heap.size w v0 := by rw [← hC]; exact balloc (bself w) _
  have K0 : Bk w.heap.size v0 [(true, w.heap.size, GE (p) (q) (g) (h))] := by rw [← hC]; exact (Bk.nil _ w).ad
  clear hC
  refine rgP K0 HB0 HB0.size [] [(5, 5, L0s, some (6, LN n))] [(0, 10, .slice (some ⟨b0, 0, none⟩) cs.length cap), (1, 11, .tuple #[NV n, .int .i64 0]), (2, 9, .tuple #[NV n, .int .i64 0]), (3, 12, NV n), (4, 13, .int .i64 0), (7, 6, .int .i64 0)] [(6, 5)] [] [] ?_ ?_
  · refine oc g_mv ?_
    refine oc (g_cb ent_seneschalref03_Check (fun uZ bZ => hChk.out uZ (Nat.lt_of_lt_of_le hlt bZ.size) (hcv.out.below bZ hlt))) ?_
    refine oc g_mv ?_
    refine oc g_ex ?_
    refine oc g_ex ?_
    refine oc (g_al 0 aN) ?_
    refine oc (g_sn 0 iN) ?_
    exact oc g_as on
  intro u1 b1_5 HB1 sz1 K1
  simp only [fX, nK, nP, Wr.f, aK, pM] at K1
  simp only [setG, setN, List.set_cons_zero, List.set_cons_succ]
  clear K0 HB0
  have hz3 : (cs.length : Int) - 1 = ((cs.length - 1 : Nat) : Int) := by omega
  have hR : w.rangeAt b0 (0 + 12 * (cs.length - 1) + 4) (LN f) := by
    have := range_F (rng_at hcv.out (cs.length - 1) (by omega))
    rwa [hlf.out] at this
  have hR : Hid _ := hR
  go_upto_region 2 with fail
  refine rgP K1 HB1 HB1.size [] [] [(0, 14, .int .i64 0), (1, 15, .bool false)] [] [] [] ?_ ?_
  · refine oc g_mv ?_
    exact oc (g_bn (fun uZ => neq_i _ _ _ 0 0 _ uZ rfl)) on
  intro u2 HB2 sz2 K2
  simp only [fX, nK, nP, Wr.f, aK, pM] at K2
  simp only [setG, setN, List.set_cons_zero, List.set_cons_succ]
  clear K1 HB1
  go_upto_region 4 with fail
  refine rgP K2 HB2 HB2.size [] [(8, 7, L0s, some (9, LN t))] [(0, 18, .pointer (some ⟨w.heap.size, 4, none⟩)), (1, 19, NV q), (2, 20, .pointer (some ⟨w.heap.size, 4, none⟩)), (3, 21, NV q), (4, 22, .tuple #[NV t, .bool false]), (5, 17, .tuple #[NV t, .bool false]), (6, 23, NV t), (7, 24, .bool false), (10, 8, .bool false)] [(9, 8)] [] [] ?_ ?_
  · refine oc (g_fd (fun uZ => fdG1 _ uZ)) ?_
    refine oc (g_lo 0 4 uN iN) ?_
    refine oc (g_fd (fun uZ => fdG1 _ uZ)) ?_
    refine oc (g_lo 0 4 uN iN) ?_
    refine oc (g_cl ent_seneschalref01_Add (fun uZ => hAd.out uZ)) ?_
    refine oc g_mv ?_
    refine oc g_ex ?_
    refine oc g_ex ?_
    refine oc (g_al 0 aN) ?_
    refine oc (g_sn 0 iN) ?_
    exact oc g_as on
  intro u3 b3_8 HB3 sz3 K3
  simp only [fX, nK, nP, Wr.f, aK, pM] at K3
  simp only [setG, setN, List.set_cons_zero, List.set_cons_succ]
  clear K2 HB2
  go_upto_region 5 with fail
  refine rgD K3 HB3 HB3.size [] [] [(0, 25, .bool false), (1, 26, .bool false), (2, 27, NV n), (3, 28, .pointer (some ⟨w.heap.size, 0, none⟩)), (4, 29, NV p), (5, 30, .bool false), (6, 31, .bool false), (7, 32, .bool false), (8, 33, .slice (some ⟨b0, 0, none⟩) cs.length cap), (9, 34, .slice (some ⟨b0, 0, none⟩) cs.length cap), (10, 35, .int .i64 (cs.length : Int)), (11, 36, .int .i64 ((cs.length - 1 : Nat) : Int)), (12, 37, .pointer (some ⟨b0, 0 + 12 * (cs.length - 1), none⟩)), (13, 38, .pointer (some ⟨b0, 0 + 12 * (cs.length - 1) + 4, none⟩)), (14, 39, NV f), (15, 40, .pointer (some ⟨w.heap.size, 4, none⟩)), (16, 41, NV q), (17, 42, .bool false), (18, 43, .bool false)] [] [] [true, false] ?_ ?_
  · refine oc g_mv ?_
    refine oc g_mv ?_
    refine oc (g_ld 1 uN iN) ?_
    refine oc (g_fd (fun uZ => fdG0 _ uZ)) ?_
    refine oc (g_lo 0 0 uN iN) ?_
    refine oc (g_bn (fun uZ => neq_n _ _ hn hp _ h1 uZ)) ?_
    refine oc g_pk ?_
    refine oc g_mv ?_
    refine oc g_mv ?_
    refine oc g_mv ?_
    refine oc (g_ln Try.underlying31) ?_
    refine oc (g_bn (fun uZ => sub_i _ _ (cs.length : Int) 1 ((cs.length - 1 : Nat) : Int) uZ hz3 (by omega) (by omega))) ?_
    refine oc (g_ix (fun uZ => ixC b0 0 cs.length cap (cs.length - 1) (by omega) uZ)) ?_
    refine oc (g_fd (fun uZ => fdC1x _ _ uZ)) ?_
    refine oc (g_lf hR.out hlt uN iN) ?_
    refine oc (g_fd (fun uZ => fdG1 _ uZ)) ?_
    refine oc (g_lo 0 4 uN iN) ?_
    refine oc (g_bn (fun uZ => neq_n _ _ hf hq _ h2 uZ)) ?_
    exact oc g_pk on
  intro u4 HB4 sz4 K4
  simp only [fX, nK, nP, Wr.f, aK, pM] at K4
  simp only [setG, setN, List.set_cons_zero, List.set_cons_succ]
  clear K3 HB3
  go_upto_region 7 with fail
  refine rgP K4 HB4 HB4.size [.no, .all 6 (LN (t + 1))] [] [(0, 45, NV t), (1, 46, NV 1), (2, 47, .tuple #[NV (t + 1), .bool false]), (3, 44, .tuple #[NV (t + 1), .bool false]), (4, 48, NV (t + 1)), (5, 49, .bool false), (7, 8, .bool false)] [(6, 0)] [] [] ?_ ?_
  · refine oc (g_ld 1 uN iN) ?_
    refine oc (g_bd (fun uZ => bdX 1 (by omega) (by omega) uZ)) ?_
    refine oc (g_cl ent_seneschalref01_Add (fun uZ => nrAdd_lt t 1 uZ it In_1 ht1)) ?_
    refine oc g_mv ?_
    refine oc g_ex ?_
    refine oc g_ex ?_
    refine oc (g_st 1 iN) ?_
    exact oc g_as on
  intro u5 HB5 sz5 K5
  simp only [fX, nK, nP, Wr.f, aK, pM] at K5
  simp only [setG, setN, List.set_cons_zero, List.set_cons_succ]
  clear K4 HB4
  go_upto_region 8 with fail
  refine rgP K5 HB5 HB5.size [] [] [(0, 50, .bool false), (1, 51, .bool false), (2, 52, NV (t + 1)), (3, 53, .pointer (some ⟨w.heap.size, 0, none⟩)), (4, 54, NV p), (5, 55, .bool false), (6, 56, .bool false), (7, 57, .bool false), (8, 58, .pointer (some ⟨w.heap.size, 8, none⟩)), (9, 59, NV g), (10, 60, .pointer (some ⟨w.heap.size, 12, none⟩)), (11, 61, NV h), (12, 62, .bool false), (13, 63, .bool false), (14, 64, .bool false), (15, 65, .pointer (some ⟨w.heap.size, 8, none⟩)), (16, 66, NV g), (17, 67, .pointer (some ⟨w.heap.size, 0, none⟩)), (18, 68, NV p), (19, 69, .pointer (some ⟨w.heap.size, 4, none⟩)), (20, 70, NV q), (21, 71, .bool true), (22, 72, .bool false), (23, 73, .bool false), (24, 74, .bool false), (25, 75, .pointer (some ⟨w.heap.size, 12, none⟩)), (26, 76, NV h), (27, 77, .pointer (some ⟨w.heap.size, 0, none⟩)), (28, 78, NV p), (29, 79, .pointer (some ⟨w.heap.size, 4, none⟩)), (30, 80, NV q), (31, 81, .bool true), (32, 82, .bool false), (33, 83, .bool false)] [] [] [false, false] ?_ ?_
  · refine oc g_mv ?_
    refine oc g_mv ?_
    refine oc (g_ld 1 uN iN) ?_
    refine oc (g_fd (fun uZ => fdG0 _ uZ)) ?_
    refine oc (g_lo 0 0 uN iN) ?_
    refine oc (g_bn (fun uZ => neq_n _ _ it1 hp _ h3 uZ)) ?_
    refine oc g_pk ?_
    refine oc g_mv ?_
    refine oc (g_fd (fun uZ => fdG2 _ uZ)) ?_
    refine oc (g_lo 0 8 uN iN) ?_
    refine oc (g_fd (fun uZ => fdG3 _ uZ)) ?_
    refine oc (g_lo 0 12 uN iN) ?_
    refine oc (g_bn (fun uZ => eql_n _ _ hg hh _ h4 uZ)) ?_
    refine oc g_pk ?_
    refine oc g_mv ?_
    refine oc (g_fd (fun uZ => fdG2 _ uZ)) ?_
    refine oc (g_lo 0 8 uN iN) ?_
    refine oc (g_fd (fun uZ => fdG0 _ uZ)) ?_
    refine oc (g_lo 0 0 uN iN) ?_
    refine oc (g_fd (fun uZ => fdG1 _ uZ)) ?_
    refine oc (g_lo 0 4 uN iN) ?_
    refine oc (g_cl ent_seneschalref03_member (fun uZ => hM1.out uZ)) ?_
    refine oc (g_un (fun uZ => rfl)) ?_
    refine oc g_pk ?_
    refine oc g_mv ?_
    refine oc (g_fd (fun uZ => fdG3 _ uZ)) ?_
    refine oc (g_lo 0 12 uN iN) ?_
    refine oc (g_fd (fun uZ => fdG0 _ uZ)) ?_
    refine oc (g_lo 0 0 uN iN) ?_
    refine oc (g_fd (fun uZ => fdG1 _ uZ)) ?_
    refine oc (g_lo 0 4 uN iN) ?_
    refine oc (g_cl ent_seneschalref03_member (fun uZ => hM2.out uZ)) ?_
    refine oc (g_un (fun uZ => rfl)) ?_
    exact oc g_pk on
  intro u6 HB6 sz6 K6
  simp only [fX, nK, nP, Wr.f, aK, pM] at K6
  simp only [setG, setN, List.set_cons_zero, List.set_cons_succ]
  clear K5 HB5
  go_upto_region 10 with fail
  refine rgP K6 HB6 HB6.size [] [] [(0, 4, (Go.Value.int Go.IntKind.i64 0))] [] [] [] ?_ ?_
  · exact oc g_as on
  intro u7 HB7 sz7 K7
  simp only [fX, nK, nP, Wr.f, aK, pM] at K7
  simp only [setG, setN, List.set_cons_zero, List.set_cons_succ]
  clear K6 HB6
  go_wp2
  refine bodyPost_ret (v := .int .i64 0) (by simp [results, Try.results18, go_sem, ]) rfl ⟨rfl, HB7⟩
theorem xGroup (p q g h : Int) (b0 cap : Nat) (cs : List (Int × Int × Int)) (w : World) (hp : In p) (hq : In q) (hg : In g) (hh : In h) (hcs : cs.length ≤ 256) (hin : Hid (∀ j, j < cs.length → In (cat cs j).1 ∧ In (cat cs j).2.1 ∧ In (cat cs j).2.2)) (hlt : b0 < w.heap.size) (hcv : Hid (CV w b0 (flC cs))) :
    Calls Try.prog 18 #[GX p q g h, .slice (some ⟨b0, 0, none⟩) cs.length cap] w fun e w' => e = .returned (.int .i64 (gpE p q g h cs)) ∧ Below w.heap.size w w' := by
  cases hb : cfB cs with
  | false =>
    rw [gpE_f (by unfold gpB; rw [hb]; rfl)]
    exact xgroup_f p q g h 0 0 b0 cap cs w hp hq hg hh hcs hin hlt hcv fun u k1 k2 => xCheck cs _ _ b0 cap u hcs hin k1 k2 rfl (fun _ => rfl) (fun e => by rw [hb] at e; cases e)
  | true =>
    obtain ⟨h0, hpr⟩ := cfB_pr hin.out hb
    obtain ⟨hn, hf, _⟩ := hin.out (cs.length - 1) (by omega)
    have hChk : ∀ u, b0 < u.heap.size → CV u b0 (flC cs) → Calls Try.prog 16 #[.slice (some ⟨b0, 0, none⟩) cs.length cap] u fun e u' => e = .returned (.tuple #[NV (cat cs (cs.length - 1)).1, .int .i64 0]) ∧ Below u.heap.size u u' :=
      fun u k1 k2 => xCheck cs _ _ b0 cap u hcs hin k1 k2 rfl (fun e => by rw [hb] at e; cases e) (fun _ => rfl)
    have q0 := hq.1
    have q1 := hq.2
    have p1 := hp.2
    by_cases ho : q + q < 115792089237316195423570985008687907853269984665640564039457584007913129639936
    rotate_left
    · have ht : twB p q = false := decide_eq_false (by omega)
      rw [gpE_f (by unfold gpB; rw [ht]; simp only [Bool.false_and, Bool.and_false])]
      exact xgroup_o p q g h _ _ _ b0 cap cs w hp hq hg hh hcs hin hlt hcv h0 rfl hn hf hChk ⟨by omega, by omega⟩ (fun u => nrAdd_ge q q u hq hq (by omega))
    have it : In (q + q) := ⟨by omega, ho⟩
    have hAd := fun u => nrAdd_lt q q u hq hq ho
    by_cases h1 : (cat cs (cs.length - 1)).1 = p
    rotate_left
    · rw [gpE_f (by unfold gpB; rw [hb, decide_eq_false h1]; rfl)]
      exact xgroup_n p q g h _ _ _ b0 cap cs w hp hq hg hh hcs hin hlt hcv h0 rfl hn hf hChk it hAd (decide_eq_false h1)
    by_cases h2 : (cat cs (cs.length - 1)).2.1 = q
    rotate_left
    · rw [gpE_f (by unfold gpB; rw [hb, decide_eq_true h1, decide_eq_false h2]; rfl)]
      exact xgroup_q p q g h _ _ _ b0 cap cs w hp hq hg hh hcs hin hlt hcv h0 rfl hn hf hChk it hAd (decide_eq_true h1) (decide_eq_false h2)
    have h1' : decide ((cat cs (cs.length - 1)).1 = p) = !false := decide_eq_true h1
    have h2' : decide ((cat cs (cs.length - 1)).2.1 = q) = !false := decide_eq_true h2
    have pp : 1 ≤ p := by have := hpr.1; omega
    have hM1 := fun u => xMember g p q u hg hp hq pp
    have hM2 := fun u => xMember h p q u hh hp hq pp
    have e : gpB p q g h cs = (twB p q && (gnB g p q && (gnB h p q && !decide (g = h)))) := by unfold gpB; rw [hb, h1', h2']; rfl
    have ht1 : q + q + 1 < 115792089237316195423570985008687907853269984665640564039457584007913129639936 := by omega
    have it1 : In (q + q + 1) := ⟨by omega, ht1⟩
    by_cases h3 : q + q + 1 = p
    rotate_left
    · have ht : twB p q = false := decide_eq_false (by omega)
      rw [gpE_f (by rw [e, ht]; rfl)]
      exact xgroup_t p q g h _ _ _ b0 cap cs w hp hq hg hh hcs hin hlt hcv h0 rfl hn hf hChk it hAd h1' h2' ht1 it1 (decide_eq_false h3)
    have h3' : decide (q + q + 1 = p) = !false := decide_eq_true h3
    have ht : twB p q = true := decide_eq_true (by omega)
    rw [ht, Bool.true_and] at e
    cases h4 : decide (g = h) with
    | true =>
      rw [gpE_f (by rw [e, h4]; cases gnB g p q <;> cases gnB h p q <;> rfl)]
      exact xgroup_e p q g h _ _ _ b0 cap cs w hp hq hg hh hcs hin hlt hcv h0 rfl hn hf hChk it hAd h1' h2' ht1 it1 h3' h4
    | false =>
    rw [h4] at e
    cases hg1 : gnB g p q with
    | false =>
      rw [hg1] at hM1 e
      rw [gpE_f (by rw [e]; rfl)]
      exact xgroup_g p q g h _ _ _ b0 cap cs w hp hq hg hh hcs hin hlt hcv h0 rfl hn hf hChk it hAd h1' h2' ht1 it1 h3' h4 hM1
    | true =>
    rw [hg1] at hM1 e
    cases hg2 : gnB h p q with
    | false =>
      rw [hg2] at hM2 e
      rw [gpE_f (by rw [e]; rfl)]
      exact xgroup_h p q g h _ _ _ b0 cap cs w hp hq hg hh hcs hin hlt hcv h0 rfl hn hf hChk it hAd h1' h2' ht1 it1 h3' h4 hM1 hM2
    | true =>
      rw [hg2] at hM2 e
      rw [gpE_t (by rw [e]; rfl)]
      exact xgroup_ok p q g h _ _ _ b0 cap cs w hp hq hg hh hcs hin hlt hcv h0 rfl hn hf hChk it hAd h1' h2' ht1 it1 h3' h4 hM1 hM2
end Go.Proofs.Ytgfggkinmhhdnaa
