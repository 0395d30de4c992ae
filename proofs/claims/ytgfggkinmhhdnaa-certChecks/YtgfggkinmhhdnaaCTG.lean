/- Primes that are certified: groups. -/
import Derived.Test.YtgfggkinmhhdnaaRC
import Derived.Test.YtgfggkinmhhdnaaCTD
import Derived.Test.YtgfggkinmhhdnaaCT8
import Derived.Test.YtgfggkinmhhdnaaOC
namespace Go.Proofs.Ytgfggkinmhhdnaa
open Go.RowKit
set_option linter.unusedVariables false
set_option linter.unusedSimpArgs false
abbrev L0g : List Value := [.int .u64 0, .int .u64 0, .int .u64 0, .int .u64 0, .int .u64 0, .int .u64 0, .int .u64 0, .int .u64 0, .int .u64 0, .int .u64 0, .int .u64 0, .int .u64 0, .int .u64 0, .int .u64 0, .int .u64 0, .int .u64 0]
theorem al_api_Group (w : World) : (Instr.alloc 33 true (.tuple #[])).run Try.prog w = .ok (.pointer (some ⟨w.heap.size, 0, none⟩)) (w.alloc (.cells L0g.toArray 33)) := by kernel_rfl
theorem info_api_Group : (Try.prog.info? 33).map (·.size) = some 16 := by kernel_rfl
theorem fdG0 (b : Nat) (w : World) : (Instr.fieldAt 33 (.pointer (some ⟨b, 0, none⟩)) 0).run Try.prog w = .ok (.pointer (some ⟨b, 0, none⟩)) w := by go_simp
theorem fdG1 (b : Nat) (w : World) : (Instr.fieldAt 33 (.pointer (some ⟨b, 0, none⟩)) 1).run Try.prog w = .ok (.pointer (some ⟨b, 4, none⟩)) w := by go_simp
theorem fdG2 (b : Nat) (w : World) : (Instr.fieldAt 33 (.pointer (some ⟨b, 0, none⟩)) 2).run Try.prog w = .ok (.pointer (some ⟨b, 8, none⟩)) w := by go_simp
theorem fdG3 (b : Nat) (w : World) : (Instr.fieldAt 33 (.pointer (some ⟨b, 0, none⟩)) 3).run Try.prog w = .ok (.pointer (some ⟨b, 12, none⟩)) w := by go_simp
theorem bdG (p q g h : Int) (w : World) : (Instr.build 33 [(0, NV p), (1, NV q), (2, NV g), (3, NV h)].toArray).run Try.prog w = .ok (GX p q g h) w := by kernel_rfl
set_option maxRecDepth 100000 in
set_option maxHeartbeats 1000000 in
theorem eql_w8 (p q : Operand) (a b c d e f g h a' b' c' d' e' f' g' h' : Int) (w : World) : (do eqGuard .eql 45 p q (A8 a b c d e f g h) (A8 a' b' c' d' e' f' g' h'); binOp .eql 45 (A8 a b c d e f g h) (A8 a' b' c' d' e' f' g' h') : Sem Value).run Try.prog w = .ok (.bool (eq8 a b c d e f g h a' b' c' d' e' f' g' h')) w := by
  go_simp
theorem eql_ww (p q : Operand) {n m : Int} (hn : In n) (hm : In m) (b : Bool) (hb : decide (n = m) = b) (w : World) : (do eqGuard .eql 45 p q (WV n) (WV m); binOp .eql 45 (WV n) (WV m) : Sem Value).run Try.prog w = .ok (.bool b) w := by
  have e1 : D4 n = 0 := by unfold D4; exact Int.ediv_eq_zero_of_lt hn.1 hn.2
  have e2 : D4 m = 0 := by unfold D4; exact Int.ediv_eq_zero_of_lt hm.1 hm.2
  rw [eql_w8, ← hb, ← eq4_N hn hm, e1, e2]
  simp [eq8, eq4]
/-- P is 2 Q and 1. -/
def twB (p q : Int) : Bool := decide (p = 2 * q + 1)
theorem tw_iff (p q : Int) : (decide (p / 2 = q) && decide (p % 2 = 1)) = twB p q := by
  unfold twB; rw [Bool.eq_iff_iff]; simp; omega
set_option maxRecDepth 100000 in
set_option maxHeartbeats 4000000 in
theorem ctwice_false (p q : Int) (b2 : Bool) (w : World) (hp : In p) (hq : In q) (ih : In (p / 2)) (h1 : decide (p / 2 = q) = false) (h2 : decide (p % 2 = 1) = b2) :
    Calls Try.prog 37 #[NV p, NV q] w fun e w' => e = .returned (.bool false) ∧ Below w.heap.size w w' := by
  go_enter Try.func37, Try.ntmps37
  go_upto_region 1 with fail
  generalize hC : ((w.alloc (.cells (LN p : List Value).toArray 24)).alloc (.cells (LN q : List Value).toArray 24)) = v0 at *
  have HB0 : Below w.heap.size w v0 := by rw [← hC]; exact balloc (balloc (bself w) _) _
  have K0 : Bk w.heap.size v0 [(true, w.heap.size, LN p), (true, w.heap.size + 1, LN q)] := by rw [← hC]; exact (Bk.nil _ w).ad.ad
  clear hC
  refine rgP K0 HB0 HB0.size [] [(8, 5, L0w, some (10, LW (p / 2))), (9, 6, L0s, some (11, LN (p % 2)))] [(0, 9, NV p), (1, 10, WV p), (2, 11, NV 2), (3, 12, .tuple #[WV (p / 2), NV (p % 2), .int .i64 0]), (4, 8, .tuple #[WV (p / 2), NV (p % 2), .int .i64 0]), (5, 13, WV (p / 2)), (6, 14, NV (p % 2)), (7, 15, .int .i64 0), (12, 7, .int .i64 0)] [(10, 8), (11, 9)] [] [false, true, true, false] ?_ ?_
  · refine oc (g_ld 0 uN iN) ?_
    refine oc (g_cl ent_limb_Widen (fun uZ => nWiden p uZ hp)) ?_
    refine oc (g_cl ent_limb_Of (fun uZ => nOf 2 uZ (by omega) (by omega))) ?_
    refine oc (g_cl ent_limb_Divide (fun uZ => nDivide p 2 uZ hp.wide In_2 (by omega))) ?_
    refine oc g_mv ?_
    refine oc g_ex ?_
    refine oc g_ex ?_
    refine oc g_ex ?_
    refine oc (g_al 0 aW) ?_
    refine oc (g_al 1 aN) ?_
    refine oc (g_sn 0 iW) ?_
    refine oc (g_sn 1 iN) ?_
    exact oc g_as on
  intro u1 b1_8 b1_9 HB1 sz1 K1
  simp only [fX, nK, nP, Wr.f, aK, pM] at K1
  simp only [setG, setN, List.set_cons_zero, List.set_cons_succ]
  clear K0 HB0
  go_upto_region 2 with fail
  refine rgD K1 HB1 HB1.size [] [] [(0, 16, WV (p / 2)), (1, 17, NV q), (2, 18, WV q), (3, 19, .bool false), (4, 20, .bool false), (5, 21, undef), (6, 22, undef), (7, 23, undef), (8, 24, (Go.Value.bool Bool.false)), (9, 4, (Go.Value.bool Bool.false))] [] [] [false, false] ?_ ?_
  · refine oc (g_ld 1 uW iW) ?_
    refine oc (g_ld 0 uN iN) ?_
    refine oc (g_cl ent_limb_Widen (fun uZ => nWiden q uZ hq)) ?_
    refine oc (g_bn (fun uZ => eql_ww _ _ ih hq _ h1 uZ)) ?_
    refine oc g_mv ?_
    refine oc g_sk ?_
    refine oc g_sk ?_
    refine oc g_sk ?_
    refine oc g_pk ?_
    exact oc g_as on
  intro u2 HB2 sz2 K2
  simp only [fX, nK, nP, Wr.f, aK, pM] at K2
  simp only [setG, setN, List.set_cons_zero, List.set_cons_succ]
  clear K1 HB1
  go_wp2
  refine bodyPost_ret (v := .bool false) (by simp [results, Try.results37, go_sem, ]) rfl ⟨by first | rfl | rw [← hE], HB2⟩
set_option maxRecDepth 100000 in
set_option maxHeartbeats 4000000 in
theorem ctwice_true (p q : Int) (b2 : Bool) (w : World) (hp : In p) (hq : In q) (ih : In (p / 2)) (h1 : decide (p / 2 = q) = true) (h2 : decide (p % 2 = 1) = b2) :
    Calls Try.prog 37 #[NV p, NV q] w fun e w' => e = .returned (.bool b2) ∧ Below w.heap.size w w' := by
  go_enter Try.func37, Try.ntmps37
  go_upto_region 1 with fail
  generalize hC : ((w.alloc (.cells (LN p : List Value).toArray 24)).alloc (.cells (LN q : List Value).toArray 24)) = v0 at *
  have HB0 : Below w.heap.size w v0 := by rw [← hC]; exact balloc (balloc (bself w) _) _
  have K0 : Bk w.heap.size v0 [(true, w.heap.size, LN p), (true, w.heap.size + 1, LN q)] := by rw [← hC]; exact (Bk.nil _ w).ad.ad
  clear hC
  refine rgP K0 HB0 HB0.size [] [(8, 5, L0w, some (10, LW (p / 2))), (9, 6, L0s, some (11, LN (p % 2)))] [(0, 9, NV p), (1, 10, WV p), (2, 11, NV 2), (3, 12, .tuple #[WV (p / 2), NV (p % 2), .int .i64 0]), (4, 8, .tuple #[WV (p / 2), NV (p % 2), .int .i64 0]), (5, 13, WV (p / 2)), (6, 14, NV (p % 2)), (7, 15, .int .i64 0), (12, 7, .int .i64 0)] [(10, 8), (11, 9)] [] [false] ?_ ?_
  · refine oc (g_ld 0 uN iN) ?_
    refine oc (g_cl ent_limb_Widen (fun uZ => nWiden p uZ hp)) ?_
    refine oc (g_cl ent_limb_Of (fun uZ => nOf 2 uZ (by omega) (by omega))) ?_
    refine oc (g_cl ent_limb_Divide (fun uZ => nDivide p 2 uZ hp.wide In_2 (by omega))) ?_
    refine oc g_mv ?_
    refine oc g_ex ?_
    refine oc g_ex ?_
    refine oc g_ex ?_
    refine oc (g_al 0 aW) ?_
    refine oc (g_al 1 aN) ?_
    refine oc (g_sn 0 iW) ?_
    refine oc (g_sn 1 iN) ?_
    exact oc g_as on
  intro u1 b1_8 b1_9 HB1 sz1 K1
  simp only [fX, nK, nP, Wr.f, aK, pM] at K1
  simp only [setG, setN, List.set_cons_zero, List.set_cons_succ]
  clear K0 HB0
  go_upto_region 2 with fail
  refine rgD K1 HB1 HB1.size [] [] [(0, 16, WV (p / 2)), (1, 17, NV q), (2, 18, WV q), (3, 19, .bool true), (4, 20, .bool true), (5, 21, NV (p % 2)), (6, 22, NV 1), (7, 23, .bool b2), (8, 24, .bool b2), (9, 4, .bool b2)] [] [] [false, false, false] ?_ ?_
  · refine oc (g_ld 1 uW iW) ?_
    refine oc (g_ld 0 uN iN) ?_
    refine oc (g_cl ent_limb_Widen (fun uZ => nWiden q uZ hq)) ?_
    refine oc (g_bn (fun uZ => eql_ww _ _ ih hq _ h1 uZ)) ?_
    refine oc g_mv ?_
    refine oc (g_ld 2 uN iN) ?_
    refine oc (g_cl ent_limb_Of (fun uZ => nOf 1 uZ (by omega) (by omega))) ?_
    refine oc (g_bn (fun uZ => eql_n _ _ (In_mod In_2 (by omega)) In_1 _ h2 uZ)) ?_
    refine oc g_pk ?_
    exact oc g_as on
  intro u2 HB2 sz2 K2
  simp only [fX, nK, nP, Wr.f, aK, pM] at K2
  simp only [setG, setN, List.set_cons_zero, List.set_cons_succ]
  clear K1 HB1
  go_wp2
  refine bodyPost_ret (v := .bool b2) (by simp [results, Try.results37, go_sem, ]) rfl ⟨by first | rfl | rw [← hE], HB2⟩
theorem cTwice (p q : Int) (w : World) (hp : In p) (hq : In q) : Calls Try.prog 37 #[NV p, NV q] w fun e w' => e = .returned (.bool (twB p q)) ∧ Below w.heap.size w w' := by
  have ih : In (p / 2) := ⟨by have := hp.1; omega, by have := hp.2; have := hp.1; omega⟩
  rw [← tw_iff]
  cases h1 : decide (p / 2 = q) with
  | false => exact ctwice_false p q _ w hp hq ih h1 rfl
  | true => rw [Bool.true_and]; exact ctwice_true p q _ w hp hq ih h1 rfl
/-- May a be one of the two members? -/
def gnB (a p q : Int) : Bool := decide (1 < a ∧ a < p - 1 ∧ a ^ q.toNat % p = 1)
set_option maxRecDepth 100000 in
set_option maxHeartbeats 4000000 in
theorem cgen_0 (a p q g h : Int) (w : World) (hp : In p) (hq : In q) (ip : In (p - 1)) (ha : In a) (h0 : decide (a = 0) = true) :
    Calls Try.prog 38 #[NV a, GX p q g h] w fun e w' => e = .returned (.bool false) ∧ Below w.heap.size w w' := by
  go_enter Try.func38, Try.ntmps38
  go_upto_region 1 with fail
  generalize hC : ((w.alloc (.cells (LN a : List Value).toArray 24)).alloc (.cells (GE (p) (q) (g) (h) : List Value).toArray 33)) = v0 at *
  have HB0 : Below w.heap.size w v0 := by rw [← hC]; exact balloc (balloc (bself w) _) _
  have K0 : Bk w.heap.size v0 [(true, w.heap.size, LN a), (true, w.heap.size + 1, GE (p) (q) (g) (h))] := by rw [← hC]; exact (Bk.nil _ w).ad.ad
  clear hC
  refine rgP K0 HB0 HB0.size [] [(1, 5, L0s, some (2, LN 1))] [(0, 10, NV 1)] [(2, 1)] [] [] ?_ ?_
  · refine oc (g_cl ent_limb_Of (fun uZ => nOf 1 uZ (by omega) (by omega))) ?_
    refine oc (g_al 0 aN) ?_
    exact oc (g_sn 0 iN) on
  intro u1 b1_1 HB1 sz1 K1
  simp only [fX, nK, nP, Wr.f, aK, pM] at K1
  simp only [setG, setN, List.set_cons_zero, List.set_cons_succ]
  clear K0 HB0
  go_upto_region 2 with fail
  refine rgP K1 HB1 HB1.size [] [(7, 6, L0s, some (8, LN (p - 1)))] [(0, 12, .pointer (some ⟨w.heap.size + 1, 0, none⟩)), (1, 13, NV p), (2, 14, NV 1), (3, 15, .tuple #[NV (p - 1), .bool (ltB p 1)]), (4, 11, .tuple #[NV (p - 1), .bool (ltB p 1)]), (5, 16, NV (p - 1)), (6, 17, .bool (ltB p 1)), (9, 7, .bool (ltB p 1))] [(8, 7)] [] [true, false, false, false] ?_ ?_
  · refine oc (g_fd (fun uZ => fdG0 _ uZ)) ?_
    refine oc (g_lo 1 0 uN iN) ?_
    refine oc (g_ld 2 uN iN) ?_
    refine oc (g_cl ent_limb_Sub (fun uZ => nSub p 1 uZ hp In_1)) ?_
    refine oc g_mv ?_
    refine oc g_ex ?_
    refine oc g_ex ?_
    refine oc (g_al 0 aN) ?_
    refine oc (g_sn 0 iN) ?_
    exact oc g_as on
  intro u2 b2_7 HB2 sz2 K2
  simp only [fX, nK, nP, Wr.f, aK, pM] at K2
  simp only [setG, setN, List.set_cons_zero, List.set_cons_succ]
  clear K1 HB1
  go_upto_region 3 with fail
  refine rgP K2 HB2 HB2.size [] [] [(0, 18, NV a), (1, 19, A4 (0) (0) (0) (0)), (2, 20, .bool true), (3, 21, .bool true), (4, 22, undef), (5, 23, undef), (6, 24, undef), (7, 25, (Go.Value.bool Bool.true)), (8, 26, (Go.Value.bool Bool.true)), (9, 27, undef), (10, 28, undef), (11, 29, undef), (12, 30, undef), (13, 31, (Go.Value.bool Bool.true))] [] [] [false] ?_ ?_
  · refine oc (g_ld 0 uN iN) ?_
    refine oc (g_bd zN) ?_
    refine oc (g_bn (fun uZ => eql_0 _ _ ha _ h0 uZ)) ?_
    refine oc g_mv ?_
    refine oc g_sk ?_
    refine oc g_sk ?_
    refine oc g_sk ?_
    refine oc g_pk ?_
    refine oc g_mv ?_
    refine oc g_sk ?_
    refine oc g_sk ?_
    refine oc g_sk ?_
    refine oc g_sk ?_
    exact oc g_pk on
  intro u3 HB3 sz3 K3
  simp only [fX, nK, nP, Wr.f, aK, pM] at K3
  simp only [setG, setN, List.set_cons_zero, List.set_cons_succ]
  clear K2 HB2
  go_upto_region 4 with fail
  refine rgP K3 HB3 HB3.size [] [] [(0, 4, (Go.Value.bool Bool.false))] [] [] [] ?_ ?_
  · exact oc g_as on
  intro u4 HB4 sz4 K4
  simp only [fX, nK, nP, Wr.f, aK, pM] at K4
  simp only [setG, setN, List.set_cons_zero, List.set_cons_succ]
  clear K3 HB3
  go_wp2
  refine bodyPost_ret (v := .bool false) (by simp [results, Try.results38, go_sem, ]) rfl ⟨rfl, HB4⟩
set_option maxRecDepth 100000 in
set_option maxHeartbeats 4000000 in
theorem cgen_1 (a p q g h : Int) (w : World) (hp : In p) (hq : In q) (ip : In (p - 1)) (ha : In a) (h0 : decide (a = 0) = false)(h1 : decide (a = 1) = true) :
    Calls Try.prog 38 #[NV a, GX p q g h] w fun e w' => e = .returned (.bool false) ∧ Below w.heap.size w w' := by
  go_enter Try.func38, Try.ntmps38
  go_upto_region 1 with fail
  generalize hC : ((w.alloc (.cells (LN a : List Value).toArray 24)).alloc (.cells (GE (p) (q) (g) (h) : List Value).toArray 33)) = v0 at *
  have HB0 : Below w.heap.size w v0 := by rw [← hC]; exact balloc (balloc (bself w) _) _
  have K0 : Bk w.heap.size v0 [(true, w.heap.size, LN a), (true, w.heap.size + 1, GE (p) (q) (g) (h))] := by rw [← hC]; exact (Bk.nil _ w).ad.ad
  clear hC
  refine rgP K0 HB0 HB0.size [] [(1, 5, L0s, some (2, LN 1))] [(0, 10, NV 1)] [(2, 1)] [] [] ?_ ?_
  · refine oc (g_cl ent_limb_Of (fun uZ => nOf 1 uZ (by omega) (by omega))) ?_
    refine oc (g_al 0 aN) ?_
    exact oc (g_sn 0 iN) on
  intro u1 b1_1 HB1 sz1 K1
  simp only [fX, nK, nP, Wr.f, aK, pM] at K1
  simp only [setG, setN, List.set_cons_zero, List.set_cons_succ]
  clear K0 HB0
  go_upto_region 2 with fail
  refine rgP K1 HB1 HB1.size [] [(7, 6, L0s, some (8, LN (p - 1)))] [(0, 12, .pointer (some ⟨w.heap.size + 1, 0, none⟩)), (1, 13, NV p), (2, 14, NV 1), (3, 15, .tuple #[NV (p - 1), .bool (ltB p 1)]), (4, 11, .tuple #[NV (p - 1), .bool (ltB p 1)]), (5, 16, NV (p - 1)), (6, 17, .bool (ltB p 1)), (9, 7, .bool (ltB p 1))] [(8, 7)] [] [true, false, true, false] ?_ ?_
  · refine oc (g_fd (fun uZ => fdG0 _ uZ)) ?_
    refine oc (g_lo 1 0 uN iN) ?_
    refine oc (g_ld 2 uN iN) ?_
    refine oc (g_cl ent_limb_Sub (fun uZ => nSub p 1 uZ hp In_1)) ?_
    refine oc g_mv ?_
    refine oc g_ex ?_
    refine oc g_ex ?_
    refine oc (g_al 0 aN) ?_
    refine oc (g_sn 0 iN) ?_
    exact oc g_as on
  intro u2 b2_7 HB2 sz2 K2
  simp only [fX, nK, nP, Wr.f, aK, pM] at K2
  simp only [setG, setN, List.set_cons_zero, List.set_cons_succ]
  clear K1 HB1
  go_upto_region 3 with fail
  refine rgP K2 HB2 HB2.size [] [] [(0, 18, NV a), (1, 19, A4 (0) (0) (0) (0)), (2, 20, .bool false), (3, 21, .bool false), (4, 22, NV a), (5, 23, NV 1), (6, 24, .bool true), (7, 25, .bool true), (8, 26, .bool true), (9, 27, undef), (10, 28, undef), (11, 29, undef), (12, 30, undef), (13, 31, (Go.Value.bool Bool.true))] [] [] [false, false] ?_ ?_
  · refine oc (g_ld 0 uN iN) ?_
    refine oc (g_bd zN) ?_
    refine oc (g_bn (fun uZ => eql_0 _ _ ha _ h0 uZ)) ?_
    refine oc g_mv ?_
    refine oc (g_ld 0 uN iN) ?_
    refine oc (g_ld 1 uN iN) ?_
    refine oc (g_bn (fun uZ => eql_n _ _ ha In_1 _ h1 uZ)) ?_
    refine oc g_pk ?_
    refine oc g_mv ?_
    refine oc g_sk ?_
    refine oc g_sk ?_
    refine oc g_sk ?_
    refine oc g_sk ?_
    exact oc g_pk on
  intro u3 HB3 sz3 K3
  simp only [fX, nK, nP, Wr.f, aK, pM] at K3
  simp only [setG, setN, List.set_cons_zero, List.set_cons_succ]
  clear K2 HB2
  go_upto_region 4 with fail
  refine rgP K3 HB3 HB3.size [] [] [(0, 4, (Go.Value.bool Bool.false))] [] [] [] ?_ ?_
  · exact oc g_as on
  intro u4 HB4 sz4 K4
  simp only [fX, nK, nP, Wr.f, aK, pM] at K4
  simp only [setG, setN, List.set_cons_zero, List.set_cons_succ]
  clear K3 HB3
  go_wp2
  refine bodyPost_ret (v := .bool false) (by simp [results, Try.results38, go_sem, ]) rfl ⟨rfl, HB4⟩
set_option maxRecDepth 100000 in
set_option maxHeartbeats 4000000 in
theorem cgen_hi (a p q g h : Int) (w : World) (hp : In p) (hq : In q) (ip : In (p - 1)) (ha : In a) (h0 : decide (a = 0) = false)(h1 : decide (a = 1) = false)(h2 : decide (0 ≤ cmpI a (p - 1)) = true) :
    Calls Try.prog 38 #[NV a, GX p q g h] w fun e w' => e = .returned (.bool false) ∧ Below w.heap.size w w' := by
  go_enter Try.func38, Try.ntmps38
  go_upto_region 1 with fail
  generalize hC : ((w.alloc (.cells (LN a : List Value).toArray 24)).alloc (.cells (GE (p) (q) (g) (h) : List Value).toArray 33)) = v0 at *
  have HB0 : Below w.heap.size w v0 := by rw [← hC]; exact balloc (balloc (bself w) _) _
  have K0 : Bk w.heap.size v0 [(true, w.heap.size, LN a), (true, w.heap.size + 1, GE (p) (q) (g) (h))] := by rw [← hC]; exact (Bk.nil _ w).ad.ad
  clear hC
  refine rgP K0 HB0 HB0.size [] [(1, 5, L0s, some (2, LN 1))] [(0, 10, NV 1)] [(2, 1)] [] [] ?_ ?_
  · refine oc (g_cl ent_limb_Of (fun uZ => nOf 1 uZ (by omega) (by omega))) ?_
    refine oc (g_al 0 aN) ?_
    exact oc (g_sn 0 iN) on
  intro u1 b1_1 HB1 sz1 K1
  simp only [fX, nK, nP, Wr.f, aK, pM] at K1
  simp only [setG, setN, List.set_cons_zero, List.set_cons_succ]
  clear K0 HB0
  go_upto_region 2 with fail
  refine rgP K1 HB1 HB1.size [] [(7, 6, L0s, some (8, LN (p - 1)))] [(0, 12, .pointer (some ⟨w.heap.size + 1, 0, none⟩)), (1, 13, NV p), (2, 14, NV 1), (3, 15, .tuple #[NV (p - 1), .bool (ltB p 1)]), (4, 11, .tuple #[NV (p - 1), .bool (ltB p 1)]), (5, 16, NV (p - 1)), (6, 17, .bool (ltB p 1)), (9, 7, .bool (ltB p 1))] [(8, 7)] [] [true, false] ?_ ?_
  · refine oc (g_fd (fun uZ => fdG0 _ uZ)) ?_
    refine oc (g_lo 1 0 uN iN) ?_
    refine oc (g_ld 2 uN iN) ?_
    refine oc (g_cl ent_limb_Sub (fun uZ => nSub p 1 uZ hp In_1)) ?_
    refine oc g_mv ?_
    refine oc g_ex ?_
    refine oc g_ex ?_
    refine oc (g_al 0 aN) ?_
    refine oc (g_sn 0 iN) ?_
    exact oc g_as on
  intro u2 b2_7 HB2 sz2 K2
  simp only [fX, nK, nP, Wr.f, aK, pM] at K2
  simp only [setG, setN, List.set_cons_zero, List.set_cons_succ]
  clear K1 HB1
  go_upto_region 3 with fail
  refine rgP K2 HB2 HB2.size [] [] [(0, 18, NV a), (1, 19, A4 (0) (0) (0) (0)), (2, 20, .bool false), (3, 21, .bool false), (4, 22, NV a), (5, 23, NV 1), (6, 24, .bool false), (7, 25, .bool false), (8, 26, .bool false), (9, 27, NV a), (10, 28, NV (p - 1)), (11, 29, .int .i64 (cmpI a (p - 1))), (12, 30, .bool true), (13, 31, .bool true)] [] [] [false, false, false] ?_ ?_
  · refine oc (g_ld 0 uN iN) ?_
    refine oc (g_bd zN) ?_
    refine oc (g_bn (fun uZ => eql_0 _ _ ha _ h0 uZ)) ?_
    refine oc g_mv ?_
    refine oc (g_ld 0 uN iN) ?_
    refine oc (g_ld 1 uN iN) ?_
    refine oc (g_bn (fun uZ => eql_n _ _ ha In_1 _ h1 uZ)) ?_
    refine oc g_pk ?_
    refine oc g_mv ?_
    refine oc (g_ld 0 uN iN) ?_
    refine oc (g_ld 2 uN iN) ?_
    refine oc (g_cl ent_limb_Compare (fun uZ => nCompare a (p - 1) uZ ha ip)) ?_
    refine oc (g_bn (fun uZ => geq_i _ _ (cmpI a (p - 1)) 0 _ uZ h2)) ?_
    exact oc g_pk on
  intro u3 HB3 sz3 K3
  simp only [fX, nK, nP, Wr.f, aK, pM] at K3
  simp only [setG, setN, List.set_cons_zero, List.set_cons_succ]
  clear K2 HB2
  go_upto_region 4 with fail
  refine rgP K3 HB3 HB3.size [] [] [(0, 4, (Go.Value.bool Bool.false))] [] [] [] ?_ ?_
  · exact oc g_as on
  intro u4 HB4 sz4 K4
  simp only [fX, nK, nP, Wr.f, aK, pM] at K4
  simp only [setG, setN, List.set_cons_zero, List.set_cons_succ]
  clear K3 HB3
  go_wp2
  refine bodyPost_ret (v := .bool false) (by simp [results, Try.results38, go_sem, ]) rfl ⟨rfl, HB4⟩
set_option maxRecDepth 100000 in
set_option maxHeartbeats 4000000 in
theorem cgen_go (a p q g h : Int) (w : World) (hp : In p) (hq : In q) (ip : In (p - 1)) (ha : In a) (b : Bool)(h0 : decide (a = 0) = false)(h1 : decide (a = 1) = false)(h2 : decide (0 ≤ cmpI a (p - 1)) = false)(hp0 : p ≠ 0) (h3 : decide (a ^ q.toNat % p = 1) = b) :
    Calls Try.prog 38 #[NV a, GX p q g h] w fun e w' => e = .returned (.bool b) ∧ Below w.heap.size w w' := by
  go_enter Try.func38, Try.ntmps38
  go_upto_region 1 with fail
  generalize hC : ((w.alloc (.cells (LN a : List Value).toArray 24)).alloc (.cells (GE (p) (q) (g) (h) : List Value).toArray 33)) = v0 at *
  have HB0 : Below w.heap.size w v0 := by rw [← hC]; exact balloc (balloc (bself w) _) _
  have K0 : Bk w.heap.size v0 [(true, w.heap.size, LN a), (true, w.heap.size + 1, GE (p) (q) (g) (h))] := by rw [← hC]; exact (Bk.nil _ w).ad.ad
  clear hC
  refine rgP K0 HB0 HB0.size [] [(1, 5, L0s, some (2, LN 1))] [(0, 10, NV 1)] [(2, 1)] [] [] ?_ ?_
  · refine oc (g_cl ent_limb_Of (fun uZ => nOf 1 uZ (by omega) (by omega))) ?_
    refine oc (g_al 0 aN) ?_
    exact oc (g_sn 0 iN) on
  intro u1 b1_1 HB1 sz1 K1
  simp only [fX, nK, nP, Wr.f, aK, pM] at K1
  simp only [setG, setN, List.set_cons_zero, List.set_cons_succ]
  clear K0 HB0
  go_upto_region 2 with fail
  refine rgP K1 HB1 HB1.size [] [(7, 6, L0s, some (8, LN (p - 1)))] [(0, 12, .pointer (some ⟨w.heap.size + 1, 0, none⟩)), (1, 13, NV p), (2, 14, NV 1), (3, 15, .tuple #[NV (p - 1), .bool (ltB p 1)]), (4, 11, .tuple #[NV (p - 1), .bool (ltB p 1)]), (5, 16, NV (p - 1)), (6, 17, .bool (ltB p 1)), (9, 7, .bool (ltB p 1))] [(8, 7)] [] [] ?_ ?_
  · refine oc (g_fd (fun uZ => fdG0 _ uZ)) ?_
    refine oc (g_lo 1 0 uN iN) ?_
    refine oc (g_ld 2 uN iN) ?_
    refine oc (g_cl ent_limb_Sub (fun uZ => nSub p 1 uZ hp In_1)) ?_
    refine oc g_mv ?_
    refine oc g_ex ?_
    refine oc g_ex ?_
    refine oc (g_al 0 aN) ?_
    refine oc (g_sn 0 iN) ?_
    exact oc g_as on
  intro u2 b2_7 HB2 sz2 K2
  simp only [fX, nK, nP, Wr.f, aK, pM] at K2
  simp only [setG, setN, List.set_cons_zero, List.set_cons_succ]
  clear K1 HB1
  go_upto_region 3 with fail
  refine rgP K2 HB2 HB2.size [] [] [(0, 18, NV a), (1, 19, A4 (0) (0) (0) (0)), (2, 20, .bool false), (3, 21, .bool false), (4, 22, NV a), (5, 23, NV 1), (6, 24, .bool false), (7, 25, .bool false), (8, 26, .bool false), (9, 27, NV a), (10, 28, NV (p - 1)), (11, 29, .int .i64 (cmpI a (p - 1))), (12, 30, .bool false), (13, 31, .bool false)] [] [] [true, true, true, false] ?_ ?_
  · refine oc (g_ld 0 uN iN) ?_
    refine oc (g_bd zN) ?_
    refine oc (g_bn (fun uZ => eql_0 _ _ ha _ h0 uZ)) ?_
    refine oc g_mv ?_
    refine oc (g_ld 0 uN iN) ?_
    refine oc (g_ld 2 uN iN) ?_
    refine oc (g_bn (fun uZ => eql_n _ _ ha In_1 _ h1 uZ)) ?_
    refine oc g_pk ?_
    refine oc g_mv ?_
    refine oc (g_ld 0 uN iN) ?_
    refine oc (g_ld 3 uN iN) ?_
    refine oc (g_cl ent_limb_Compare (fun uZ => nCompare a (p - 1) uZ ha ip)) ?_
    refine oc (g_bn (fun uZ => geq_i _ _ (cmpI a (p - 1)) 0 _ uZ h2)) ?_
    exact oc g_pk on
  intro u3 HB3 sz3 K3
  simp only [fX, nK, nP, Wr.f, aK, pM] at K3
  simp only [setG, setN, List.set_cons_zero, List.set_cons_succ]
  clear K2 HB2
  go_upto_region 5 with fail
  refine rgP K3 HB3 HB3.size [] [(9, 8, L0s, some (10, LN (a ^ q.toNat % p)))] [(0, 33, NV a), (1, 34, .pointer (some ⟨w.heap.size + 1, 4, none⟩)), (2, 35, NV q), (3, 36, .pointer (some ⟨w.heap.size + 1, 0, none⟩)), (4, 37, NV p), (5, 38, .tuple #[NV (a ^ q.toNat % p), .int .i64 0]), (6, 32, .tuple #[NV (a ^ q.toNat % p), .int .i64 0]), (7, 39, NV (a ^ q.toNat % p)), (8, 40, .int .i64 0), (11, 9, .int .i64 0)] [(10, 9)] [] [false, false] ?_ ?_
  · refine oc (g_ld 0 uN iN) ?_
    refine oc (g_fd (fun uZ => fdG1 _ uZ)) ?_
    refine oc (g_lo 1 4 uN iN) ?_
    refine oc (g_fd (fun uZ => fdG0 _ uZ)) ?_
    refine oc (g_lo 1 0 uN iN) ?_
    refine oc (g_cl ent_mod_Exp (fun uZ => mExp a q p uZ ha hq hp hp0)) ?_
    refine oc g_mv ?_
    refine oc g_ex ?_
    refine oc g_ex ?_
    refine oc (g_al 0 aN) ?_
    refine oc (g_sn 0 iN) ?_
    exact oc g_as on
  intro u4 b4_9 HB4 sz4 K4
  simp only [fX, nK, nP, Wr.f, aK, pM] at K4
  simp only [setG, setN, List.set_cons_zero, List.set_cons_succ]
  clear K3 HB3
  go_upto_region 6 with fail
  refine rgP K4 HB4 HB4.size [] [] [(0, 41, NV (a ^ q.toNat % p)), (1, 42, NV 1), (2, 43, .bool b), (3, 4, .bool b)] [] [] [false, false] ?_ ?_
  · refine oc (g_ld 1 uN iN) ?_
    refine oc (g_ld 0 uN iN) ?_
    refine oc (g_bn (fun uZ => eql_n _ _ (In_mod hp hp0) In_1 _ h3 uZ)) ?_
    exact oc g_as on
  intro u5 HB5 sz5 K5
  simp only [fX, nK, nP, Wr.f, aK, pM] at K5
  simp only [setG, setN, List.set_cons_zero, List.set_cons_succ]
  clear K4 HB4
  go_wp2
  refine bodyPost_ret (v := .bool b) (by simp [results, Try.results38, go_sem, ]) rfl ⟨rfl, HB5⟩
theorem cGen (a p q g h : Int) (w : World) (hp : In p) (hq : In q) (ha : In a) (hp0 : 1 ≤ p) : Calls Try.prog 38 #[NV a, GX p q g h] w fun e w' => e = .returned (.bool (gnB a p q)) ∧ Below w.heap.size w w' := by
  have ip : In (p - 1) := ⟨by omega, by have := hp.2; omega⟩
  by_cases h0 : a = 0
  · rw [show gnB a p q = false by unfold gnB; simp; omega]
    exact cgen_0 a p q g h w hp hq ip ha (by simp [h0])
  have h0' : decide (a = 0) = false := by simp [h0]
  by_cases h1 : a = 1
  · rw [show gnB a p q = false by unfold gnB; simp; omega]
    exact cgen_1 a p q g h w hp hq ip ha h0' (by simp [h1])
  have h1' : decide (a = 1) = false := by simp [h1]
  have := ha.1
  by_cases h2 : p - 1 ≤ a
  · rw [show gnB a p q = false by unfold gnB; simp; omega]
    exact cgen_hi a p q g h w hp hq ip ha h0' h1' (by rw [cmp_ge]; simp only [h2, decide_true])
  have h2' : decide (0 ≤ cmpI a (p - 1)) = false := by rw [cmp_ge]; simp only [h2, decide_false]
  rw [show gnB a p q = decide (a ^ q.toNat % p = 1) by unfold gnB; rw [Bool.eq_iff_iff]; simp; omega]
  exact cgen_go a p q g h w hp hq ip ha _ h0' h1' h2' (by omega) rfl
theorem ent_cert_isTwiceAndOne (vs : Array Value) (w : World) : (callFunc 37 vs).run Try.prog w = .ok (.enter 37 vs) w := by kernel_rfl
theorem ent_cert_generates (vs : Array Value) (w : World) : (callFunc 38 vs).run Try.prog w = .ok (.enter 38 vs) w := by kernel_rfl
theorem ent_cert_Group (vs : Array Value) (w : World) : (callFunc 17 vs).run Try.prog w = .ok (.enter 17 vs) w := by kernel_rfl
theorem fdC1x (b x : Nat) (w : World) : (Instr.fieldAt 26 (.pointer (some ⟨b, x, none⟩)) 1).run Try.prog w = .ok (.pointer (some ⟨b, x + 4, none⟩)) w := by go_simp
theorem flC_F (cs : List (Int × Int × Int)) (j : Nat) (hj : j < cs.length) : ∀ c v, (LN (cat cs j).2.1)[c]? = some v → (flC cs)[12 * j + 4 + c]? = some v := fun c v hv => by
  have hl : c < 4 := by have := (List.getElem?_eq_some_iff.1 hv).1; simpa using this
  have := flC_get cs j (4 + c) v hj (by rcases (by omega : c = 0 ∨ c = 1 ∨ c = 2 ∨ c = 3) with rfl | rfl | rfl | rfl <;> simpa using hv)
  rwa [← Nat.add_assoc] at this
set_option maxRecDepth 100000 in
set_option maxHeartbeats 4000000 in
theorem cgroup_f (p q g h n f : Int) (b0 cap : Nat) (cs : List (Int × Int × Int)) (w : World) (hp : In p) (hq : In q) (hg : In g) (hh : In h) (hcs : cs.length ≤ 256) (hin : Hid (∀ j, j < cs.length → In (cat cs j).1 ∧ In (cat cs j).2.1 ∧ In (cat cs j).2.2)) (hlt : b0 < w.heap.size) (hcv : Hid (CV w b0 (flC cs))) (hcap : cs.length ≤ cap) (hb : cfB cs = false) :
    Calls Try.prog 17 #[GX p q g h, .slice (some ⟨b0, 0, none⟩) cs.length cap] w fun e w' => e = .returned (.int .i64 30) ∧ Below w.heap.size w w' := by
  go_enter Try.func17, Try.ntmps17
  go_upto_region 1 with fail
  generalize hC : (w.alloc (.cells (GE (p) (q) (g) (h) : List Value).toArray 33)) = v0 at *
  have HB0 : Below w.heap.size w v0 := by rw [← hC]; exact balloc (bself w) _
  have K0 : Bk w.heap.size v0 [(true, w.heap.size, GE (p) (q) (g) (h))] := by rw [← hC]; exact (Bk.nil _ w).ad
  clear hC
  refine rgP K0 HB0 HB0.size [] [(5, 5, L0s, some (6, [.int .u64 (0), .int .u64 (0), .int .u64 (0), .int .u64 (0)]))] [(0, 8, .slice (some ⟨b0, 0, none⟩) cs.length cap), (1, 9, .tuple #[A4 (0) (0) (0) (0), .int .i64 30]), (2, 7, .tuple #[A4 (0) (0) (0) (0), .int .i64 30]), (3, 10, A4 (0) (0) (0) (0)), (4, 11, .int .i64 30), (7, 6, .int .i64 30)] [(6, 5)] [] [false, false] ?_ ?_
  · refine oc g_mv ?_
    refine oc (g_cb ent_cert_Check (fun uZ bZ => cCheck_own_f cs uZ _ 0 hb hcs hin ⟨b0, cap, rfl, Nat.zero_le _, Nat.lt_of_lt_of_le hlt bZ.size, hcap, hcv.out.below bZ hlt⟩)) ?_
    refine oc g_mv ?_
    refine oc g_ex ?_
    refine oc g_ex ?_
    refine oc (g_al 0 aN) ?_
    refine oc (g_sn 0 iN) ?_
    exact oc g_as on
  intro u1 b1_5 HB1 sz1 K1
  simp only [fX, nK, nP, Wr.f, aK, pM] at K1
  simp only [setG, setN, List.set_cons_zero, List.set_cons_succ]
  clear K0 HB0
  go_upto_region 2 with fail
  refine rgP K1 HB1 HB1.size [] [] [(0, 13, .int .i64 30), (1, 14, .bool true), (2, 12, .bool true)] [] [] [] ?_ ?_
  · refine oc g_mv ?_
    refine oc (g_bn (fun uZ => neq_i _ _ _ 30 0 _ uZ rfl)) ?_
    exact oc g_as on
  intro u2 HB2 sz2 K2
  simp only [fX, nK, nP, Wr.f, aK, pM] at K2
  simp only [setG, setN, List.set_cons_zero, List.set_cons_succ]
  clear K1 HB1
  go_upto_region 3 with fail
  refine rgP K2 HB2 HB2.size [] [] [(0, 15, .int .i64 30), (1, 4, .int .i64 30)] [] [] [] ?_ ?_
  · refine oc g_mv ?_
    exact oc g_as on
  intro u3 HB3 sz3 K3
  simp only [fX, nK, nP, Wr.f, aK, pM] at K3
  simp only [setG, setN, List.set_cons_zero, List.set_cons_succ]
  clear K2 HB2
  go_wp2
  refine bodyPost_ret (v := .int .i64 30) (by simp [results, Try.results17, go_sem, ]) rfl ⟨rfl, HB3⟩
set_option maxRecDepth 100000 in
set_option maxHeartbeats 4000000 in
theorem cgroup_n (p q g h n f : Int) (b0 cap : Nat) (cs : List (Int × Int × Int)) (w : World) (hp : In p) (hq : In q) (hg : In g) (hh : In h) (hcs : cs.length ≤ 256) (hin : Hid (∀ j, j < cs.length → In (cat cs j).1 ∧ In (cat cs j).2.1 ∧ In (cat cs j).2.2)) (hlt : b0 < w.heap.size) (hcv : Hid (CV w b0 (flC cs))) (hcap : cs.length ≤ cap) (hb : cfB cs = true) (h0 : 0 < cs.length) (hlast : (cat cs (cs.length - 1)).1 = n) (hlf : Hid ((cat cs (cs.length - 1)).2.1 = f)) (hn : In n) (hf : In f)(h1 : decide (n = p) = !true) :
    Calls Try.prog 17 #[GX p q g h, .slice (some ⟨b0, 0, none⟩) cs.length cap] w fun e w' => e = .returned (.int .i64 30) ∧ Below w.heap.size w w' := by
  go_enter Try.func17, Try.ntmps17
  go_upto_region 1 with fail
  generalize hC : (w.alloc (.cells (GE (p) (q) (g) (h) : List Value).toArray 33)) = v0 at *
  have HB0 : Below w.heap.size w v0 := by rw [← hC]; exact balloc (bself w) _
  have K0 : Bk w.heap.size v0 [(true, w.heap.size, GE (p) (q) (g) (h))] := by rw [← hC]; exact (Bk.nil _ w).ad
  clear hC
  refine rgP K0 HB0 HB0.size [] [(5, 5, L0s, some (6, LN n))] [(0, 8, .slice (some ⟨b0, 0, none⟩) cs.length cap), (1, 9, .tuple #[NV n, .int .i64 0]), (2, 7, .tuple #[NV n, .int .i64 0]), (3, 10, NV n), (4, 11, .int .i64 0), (7, 6, .int .i64 0)] [(6, 5)] [] [] ?_ ?_
  · refine oc g_mv ?_
    refine oc (g_cb ent_cert_Check (fun uZ bZ => cCheck_own_p cs n uZ _ 0 hb hlast hcs hin ⟨b0, cap, rfl, Nat.zero_le _, Nat.lt_of_lt_of_le hlt bZ.size, hcap, hcv.out.below bZ hlt⟩)) ?_
    refine oc g_mv ?_
    refine oc g_ex ?_
    refine oc g_ex ?_
    refine oc (g_al 0 aN) ?_
    refine oc (g_sn 0 iN) ?_
    exact oc g_as on
  intro u1 b1_5 HB1 sz1 K1
  simp only [fX, nK, nP, Wr.f, aK, pM] at K1
  simp only [setG, setN, List.set_cons_zero, List.set_cons_succ]
  clear K0 HB0
  have hz3 : (cs.length : Int) - 1 = ((cs.length - 1 : Nat) : Int) := by omega
  have hR : w.rangeAt b0 (0 + 12 * (cs.length - 1) + 4) (LN f) := fun c v hc => by
    rw [Nat.zero_add]; exact (hcv.out _ v (flC_F cs (cs.length - 1) (by omega) c v (by rw [hlf.out]; exact hc))).1
  have hR : Hid _ := hR
  go_upto_region 2 with fail
  refine rgP K1 HB1 HB1.size [] [] [(0, 13, .int .i64 0), (1, 14, .bool false), (2, 12, .bool false)] [] [] [] ?_ ?_
  · refine oc g_mv ?_
    refine oc (g_bn (fun uZ => neq_i _ _ _ 0 0 _ uZ rfl)) ?_
    exact oc g_as on
  intro u2 HB2 sz2 K2
  simp only [fX, nK, nP, Wr.f, aK, pM] at K2
  simp only [setG, setN, List.set_cons_zero, List.set_cons_succ]
  clear K1 HB1
  go_upto_region 4 with fail
  refine rgD K2 HB2 HB2.size [] [] [(0, 17, NV n), (1, 18, .pointer (some ⟨w.heap.size, 0, none⟩)), (2, 19, NV p), (3, 20, .bool true), (4, 21, .bool true), (5, 22, undef), (6, 23, undef), (7, 24, undef), (8, 25, undef), (9, 26, undef), (10, 27, undef), (11, 28, undef), (12, 29, undef), (13, 30, undef), (14, 31, undef), (15, 32, (Go.Value.bool Bool.true)), (16, 33, (Go.Value.bool Bool.true)), (17, 34, undef), (18, 35, undef), (19, 36, undef), (20, 37, undef), (21, 38, undef), (22, 39, undef), (23, 40, (Go.Value.bool Bool.true)), (24, 16, (Go.Value.bool Bool.true))] [] [] [false, false] ?_ ?_
  · refine oc (g_ld 1 uN iN) ?_
    refine oc (g_fd (fun uZ => fdG0 _ uZ)) ?_
    refine oc (g_lo 0 0 uN iN) ?_
    refine oc (g_bn (fun uZ => neq_n _ _ hn hp _ h1 uZ)) ?_
    refine oc g_mv ?_
    refine oc g_sk ?_
    refine oc g_sk ?_
    refine oc g_sk ?_
    refine oc g_sk ?_
    refine oc g_sk ?_
    refine oc g_sk ?_
    refine oc g_sk ?_
    refine oc g_sk ?_
    refine oc g_sk ?_
    refine oc g_sk ?_
    refine oc g_pk ?_
    refine oc g_mv ?_
    refine oc g_sk ?_
    refine oc g_sk ?_
    refine oc g_sk ?_
    refine oc g_sk ?_
    refine oc g_sk ?_
    refine oc g_sk ?_
    refine oc g_pk ?_
    exact oc g_as on
  intro u3 HB3 sz3 K3
  simp only [fX, nK, nP, Wr.f, aK, pM] at K3
  simp only [setG, setN, List.set_cons_zero, List.set_cons_succ]
  clear K2 HB2
  go_upto_region 5 with fail
  refine rgP K3 HB3 HB3.size [] [] [(0, 4, (Go.Value.int Go.IntKind.i64 30))] [] [] [] ?_ ?_
  · exact oc g_as on
  intro u4 HB4 sz4 K4
  simp only [fX, nK, nP, Wr.f, aK, pM] at K4
  simp only [setG, setN, List.set_cons_zero, List.set_cons_succ]
  clear K3 HB3
  go_wp2
  refine bodyPost_ret (v := .int .i64 30) (by simp [results, Try.results17, go_sem, ]) rfl ⟨rfl, HB4⟩
set_option maxRecDepth 100000 in
set_option maxHeartbeats 4000000 in
theorem cgroup_q (p q g h n f : Int) (b0 cap : Nat) (cs : List (Int × Int × Int)) (w : World) (hp : In p) (hq : In q) (hg : In g) (hh : In h) (hcs : cs.length ≤ 256) (hin : Hid (∀ j, j < cs.length → In (cat cs j).1 ∧ In (cat cs j).2.1 ∧ In (cat cs j).2.2)) (hlt : b0 < w.heap.size) (hcv : Hid (CV w b0 (flC cs))) (hcap : cs.length ≤ cap) (hb : cfB cs = true) (h0 : 0 < cs.length) (hlast : (cat cs (cs.length - 1)).1 = n) (hlf : Hid ((cat cs (cs.length - 1)).2.1 = f)) (hn : In n) (hf : In f)(h1 : decide (n = p) = !false)(h2 : decide (f = q) = !true) :
    Calls Try.prog 17 #[GX p q g h, .slice (some ⟨b0, 0, none⟩) cs.length cap] w fun e w' => e = .returned (.int .i64 30) ∧ Below w.heap.size w w' := by
  go_enter Try.func17, Try.ntmps17
  go_upto_region 1 with fail
  generalize hC : (w.alloc (.cells (GE (p) (q) (g) (h) : List Value).toArray 33)) = v0 at *
  have HB0 : Below w.heap.size w v0 := by rw [← hC]; exact balloc (bself w) _
  have K0 : Bk w.heap.size v0 [(true, w.heap.size, GE (p) (q) (g) (h))] := by rw [← hC]; exact (Bk.nil _ w).ad
  clear hC
  refine rgP K0 HB0 HB0.size [] [(5, 5, L0s, some (6, LN n))] [(0, 8, .slice (some ⟨b0, 0, none⟩) cs.length cap), (1, 9, .tuple #[NV n, .int .i64 0]), (2, 7, .tuple #[NV n, .int .i64 0]), (3, 10, NV n), (4, 11, .int .i64 0), (7, 6, .int .i64 0)] [(6, 5)] [] [] ?_ ?_
  · refine oc g_mv ?_
    refine oc (g_cb ent_cert_Check (fun uZ bZ => cCheck_own_p cs n uZ _ 0 hb hlast hcs hin ⟨b0, cap, rfl, Nat.zero_le _, Nat.lt_of_lt_of_le hlt bZ.size, hcap, hcv.out.below bZ hlt⟩)) ?_
    refine oc g_mv ?_
    refine oc g_ex ?_
    refine oc g_ex ?_
    refine oc (g_al 0 aN) ?_
    refine oc (g_sn 0 iN) ?_
    exact oc g_as on
  intro u1 b1_5 HB1 sz1 K1
  simp only [fX, nK, nP, Wr.f, aK, pM] at K1
  simp only [setG, setN, List.set_cons_zero, List.set_cons_succ]
  clear K0 HB0
  have hz3 : (cs.length : Int) - 1 = ((cs.length - 1 : Nat) : Int) := by omega
  have hR : w.rangeAt b0 (0 + 12 * (cs.length - 1) + 4) (LN f) := fun c v hc => by
    rw [Nat.zero_add]; exact (hcv.out _ v (flC_F cs (cs.length - 1) (by omega) c v (by rw [hlf.out]; exact hc))).1
  have hR : Hid _ := hR
  go_upto_region 2 with fail
  refine rgP K1 HB1 HB1.size [] [] [(0, 13, .int .i64 0), (1, 14, .bool false), (2, 12, .bool false)] [] [] [] ?_ ?_
  · refine oc g_mv ?_
    refine oc (g_bn (fun uZ => neq_i _ _ _ 0 0 _ uZ rfl)) ?_
    exact oc g_as on
  intro u2 HB2 sz2 K2
  simp only [fX, nK, nP, Wr.f, aK, pM] at K2
  simp only [setG, setN, List.set_cons_zero, List.set_cons_succ]
  clear K1 HB1
  go_upto_region 4 with fail
  refine rgD K2 HB2 HB2.size [] [] [(0, 17, NV n), (1, 18, .pointer (some ⟨w.heap.size, 0, none⟩)), (2, 19, NV p), (3, 20, .bool false), (4, 21, .bool false), (5, 22, .slice (some ⟨b0, 0, none⟩) cs.length cap), (6, 23, .slice (some ⟨b0, 0, none⟩) cs.length cap), (7, 24, .int .i64 (cs.length : Int)), (8, 25, .int .i64 ((cs.length - 1 : Nat) : Int)), (9, 26, .pointer (some ⟨b0, 0 + 12 * (cs.length - 1), none⟩)), (10, 27, .pointer (some ⟨b0, 0 + 12 * (cs.length - 1) + 4, none⟩)), (11, 28, NV f), (12, 29, .pointer (some ⟨w.heap.size, 4, none⟩)), (13, 30, NV q), (14, 31, .bool true), (15, 32, .bool true), (16, 33, .bool true), (17, 34, undef), (18, 35, undef), (19, 36, undef), (20, 37, undef), (21, 38, undef), (22, 39, undef), (23, 40, (Go.Value.bool Bool.true)), (24, 16, (Go.Value.bool Bool.true))] [] [] [false, false] ?_ ?_
  · refine oc (g_ld 1 uN iN) ?_
    refine oc (g_fd (fun uZ => fdG0 _ uZ)) ?_
    refine oc (g_lo 0 0 uN iN) ?_
    refine oc (g_bn (fun uZ => neq_n _ _ hn hp _ h1 uZ)) ?_
    refine oc g_mv ?_
    refine oc g_mv ?_
    refine oc g_mv ?_
    refine oc (g_ln Try.underlying31) ?_
    refine oc (g_bn (fun uZ => sub_i _ _ (cs.length : Int) 1 ((cs.length - 1 : Nat) : Int) uZ hz3 (by omega) (by omega))) ?_
    refine oc (g_ix (fun uZ => ixC b0 0 cs.length cap (cs.length - 1) (by omega) uZ)) ?_
    refine oc (g_fd (fun uZ => fdC1x _ _ uZ)) ?_
    refine oc (g_lf hR.out hlt uN iN) ?_
    refine oc (g_fd (fun uZ => fdG1 _ uZ)) ?_
    refine oc (g_lo 0 4 uN iN) ?_
    refine oc (g_bn (fun uZ => neq_n _ _ hf hq _ h2 uZ)) ?_
    refine oc g_pk ?_
    refine oc g_mv ?_
    refine oc g_sk ?_
    refine oc g_sk ?_
    refine oc g_sk ?_
    refine oc g_sk ?_
    refine oc g_sk ?_
    refine oc g_sk ?_
    refine oc g_pk ?_
    exact oc g_as on
  intro u3 HB3 sz3 K3
  simp only [fX, nK, nP, Wr.f, aK, pM] at K3
  simp only [setG, setN, List.set_cons_zero, List.set_cons_succ]
  clear K2 HB2
  go_upto_region 5 with fail
  refine rgP K3 HB3 HB3.size [] [] [(0, 4, (Go.Value.int Go.IntKind.i64 30))] [] [] [] ?_ ?_
  · exact oc g_as on
  intro u4 HB4 sz4 K4
  simp only [fX, nK, nP, Wr.f, aK, pM] at K4
  simp only [setG, setN, List.set_cons_zero, List.set_cons_succ]
  clear K3 HB3
  go_wp2
  refine bodyPost_ret (v := .int .i64 30) (by simp [results, Try.results17, go_sem, ]) rfl ⟨rfl, HB4⟩
set_option maxRecDepth 100000 in
set_option maxHeartbeats 4000000 in
theorem cgroup_t (p q g h n f : Int) (b0 cap : Nat) (cs : List (Int × Int × Int)) (w : World) (hp : In p) (hq : In q) (hg : In g) (hh : In h) (hcs : cs.length ≤ 256) (hin : Hid (∀ j, j < cs.length → In (cat cs j).1 ∧ In (cat cs j).2.1 ∧ In (cat cs j).2.2)) (hlt : b0 < w.heap.size) (hcv : Hid (CV w b0 (flC cs))) (hcap : cs.length ≤ cap) (hb : cfB cs = true) (h0 : 0 < cs.length) (hlast : (cat cs (cs.length - 1)).1 = n) (hlf : Hid ((cat cs (cs.length - 1)).2.1 = f)) (hn : In n) (hf : In f)(h1 : decide (n = p) = !false)(h2 : decide (f = q) = !false)(hT : Hid (∀ u, Calls Try.prog 37 #[NV p, NV q] u fun e u' => e = .returned (.bool false) ∧ Below u.heap.size u u')) :
    Calls Try.prog 17 #[GX p q g h, .slice (some ⟨b0, 0, none⟩) cs.length cap] w fun e w' => e = .returned (.int .i64 30) ∧ Below w.heap.size w w' := by
  go_enter Try.func17, Try.ntmps17
  go_upto_region 1 with fail
  generalize hC : (w.alloc (.cells (GE (p) (q) (g) (h) : List Value).toArray 33)) = v0 at *
  have HB0 : Below w.heap.size w v0 := by rw [← hC]; exact balloc (bself w) _
  have K0 : Bk w.heap.size v0 [(true, w.heap.size, GE (p) (q) (g) (h))] := by rw [← hC]; exact (Bk.nil _ w).ad
  clear hC
  refine rgP K0 HB0 HB0.size [] [(5, 5, L0s, some (6, LN n))] [(0, 8, .slice (some ⟨b0, 0, none⟩) cs.length cap), (1, 9, .tuple #[NV n, .int .i64 0]), (2, 7, .tuple #[NV n, .int .i64 0]), (3, 10, NV n), (4, 11, .int .i64 0), (7, 6, .int .i64 0)] [(6, 5)] [] [] ?_ ?_
  · refine oc g_mv ?_
    refine oc (g_cb ent_cert_Check (fun uZ bZ => cCheck_own_p cs n uZ _ 0 hb hlast hcs hin ⟨b0, cap, rfl, Nat.zero_le _, Nat.lt_of_lt_of_le hlt bZ.size, hcap, hcv.out.below bZ hlt⟩)) ?_
    refine oc g_mv ?_
    refine oc g_ex ?_
    refine oc g_ex ?_
    refine oc (g_al 0 aN) ?_
    refine oc (g_sn 0 iN) ?_
    exact oc g_as on
  intro u1 b1_5 HB1 sz1 K1
  simp only [fX, nK, nP, Wr.f, aK, pM] at K1
  simp only [setG, setN, List.set_cons_zero, List.set_cons_succ]
  clear K0 HB0
  have hz3 : (cs.length : Int) - 1 = ((cs.length - 1 : Nat) : Int) := by omega
  have hR : w.rangeAt b0 (0 + 12 * (cs.length - 1) + 4) (LN f) := fun c v hc => by
    rw [Nat.zero_add]; exact (hcv.out _ v (flC_F cs (cs.length - 1) (by omega) c v (by rw [hlf.out]; exact hc))).1
  have hR : Hid _ := hR
  go_upto_region 2 with fail
  refine rgP K1 HB1 HB1.size [] [] [(0, 13, .int .i64 0), (1, 14, .bool false), (2, 12, .bool false)] [] [] [] ?_ ?_
  · refine oc g_mv ?_
    refine oc (g_bn (fun uZ => neq_i _ _ _ 0 0 _ uZ rfl)) ?_
    exact oc g_as on
  intro u2 HB2 sz2 K2
  simp only [fX, nK, nP, Wr.f, aK, pM] at K2
  simp only [setG, setN, List.set_cons_zero, List.set_cons_succ]
  clear K1 HB1
  go_upto_region 4 with fail
  refine rgD K2 HB2 HB2.size [] [] [(0, 17, NV n), (1, 18, .pointer (some ⟨w.heap.size, 0, none⟩)), (2, 19, NV p), (3, 20, .bool false), (4, 21, .bool false), (5, 22, .slice (some ⟨b0, 0, none⟩) cs.length cap), (6, 23, .slice (some ⟨b0, 0, none⟩) cs.length cap), (7, 24, .int .i64 (cs.length : Int)), (8, 25, .int .i64 ((cs.length - 1 : Nat) : Int)), (9, 26, .pointer (some ⟨b0, 0 + 12 * (cs.length - 1), none⟩)), (10, 27, .pointer (some ⟨b0, 0 + 12 * (cs.length - 1) + 4, none⟩)), (11, 28, NV f), (12, 29, .pointer (some ⟨w.heap.size, 4, none⟩)), (13, 30, NV q), (14, 31, .bool false), (15, 32, .bool false), (16, 33, .bool false), (17, 34, .pointer (some ⟨w.heap.size, 0, none⟩)), (18, 35, NV p), (19, 36, .pointer (some ⟨w.heap.size, 4, none⟩)), (20, 37, NV q), (21, 38, .bool false), (22, 39, .bool true), (23, 40, .bool true), (24, 16, .bool true)] [] [] [false, false] ?_ ?_
  · refine oc (g_ld 1 uN iN) ?_
    refine oc (g_fd (fun uZ => fdG0 _ uZ)) ?_
    refine oc (g_lo 0 0 uN iN) ?_
    refine oc (g_bn (fun uZ => neq_n _ _ hn hp _ h1 uZ)) ?_
    refine oc g_mv ?_
    refine oc g_mv ?_
    refine oc g_mv ?_
    refine oc (g_ln Try.underlying31) ?_
    refine oc (g_bn (fun uZ => sub_i _ _ (cs.length : Int) 1 ((cs.length - 1 : Nat) : Int) uZ hz3 (by omega) (by omega))) ?_
    refine oc (g_ix (fun uZ => ixC b0 0 cs.length cap (cs.length - 1) (by omega) uZ)) ?_
    refine oc (g_fd (fun uZ => fdC1x _ _ uZ)) ?_
    refine oc (g_lf hR.out hlt uN iN) ?_
    refine oc (g_fd (fun uZ => fdG1 _ uZ)) ?_
    refine oc (g_lo 0 4 uN iN) ?_
    refine oc (g_bn (fun uZ => neq_n _ _ hf hq _ h2 uZ)) ?_
    refine oc g_pk ?_
    refine oc g_mv ?_
    refine oc (g_fd (fun uZ => fdG0 _ uZ)) ?_
    refine oc (g_lo 0 0 uN iN) ?_
    refine oc (g_fd (fun uZ => fdG1 _ uZ)) ?_
    refine oc (g_lo 0 4 uN iN) ?_
    refine oc (g_cl ent_cert_isTwiceAndOne (fun uZ => hT.out uZ)) ?_
    refine oc (g_un (fun uZ => rfl)) ?_
    refine oc g_pk ?_
    exact oc g_as on
  intro u3 HB3 sz3 K3
  simp only [fX, nK, nP, Wr.f, aK, pM] at K3
  simp only [setG, setN, List.set_cons_zero, List.set_cons_succ]
  clear K2 HB2
  go_upto_region 5 with fail
  refine rgP K3 HB3 HB3.size [] [] [(0, 4, (Go.Value.int Go.IntKind.i64 30))] [] [] [] ?_ ?_
  · exact oc g_as on
  intro u4 HB4 sz4 K4
  simp only [fX, nK, nP, Wr.f, aK, pM] at K4
  simp only [setG, setN, List.set_cons_zero, List.set_cons_succ]
  clear K3 HB3
  go_wp2
  refine bodyPost_ret (v := .int .i64 30) (by simp [results, Try.results17, go_sem, ]) rfl ⟨rfl, HB4⟩
set_option maxRecDepth 100000 in
set_option maxHeartbeats 4000000 in
theorem cgroup_g (p q g h n f : Int) (b0 cap : Nat) (cs : List (Int × Int × Int)) (w : World) (hp : In p) (hq : In q) (hg : In g) (hh : In h) (hcs : cs.length ≤ 256) (hin : Hid (∀ j, j < cs.length → In (cat cs j).1 ∧ In (cat cs j).2.1 ∧ In (cat cs j).2.2)) (hlt : b0 < w.heap.size) (hcv : Hid (CV w b0 (flC cs))) (hcap : cs.length ≤ cap) (hb : cfB cs = true) (h0 : 0 < cs.length) (hlast : (cat cs (cs.length - 1)).1 = n) (hlf : Hid ((cat cs (cs.length - 1)).2.1 = f)) (hn : In n) (hf : In f)(h1 : decide (n = p) = !false)(h2 : decide (f = q) = !false)(hT : Hid (∀ u, Calls Try.prog 37 #[NV p, NV q] u fun e u' => e = .returned (.bool true) ∧ Below u.heap.size u u'))(hG1 : Hid (∀ u, Calls Try.prog 38 #[NV g, GX p q g h] u fun e u' => e = .returned (.bool false) ∧ Below u.heap.size u u')) :
    Calls Try.prog 17 #[GX p q g h, .slice (some ⟨b0, 0, none⟩) cs.length cap] w fun e w' => e = .returned (.int .i64 30) ∧ Below w.heap.size w w' := by
  go_enter Try.func17, Try.ntmps17
  go_upto_region 1 with fail
  generalize hC : (w.alloc (.cells (GE (p) (q) (g) (h) : List Value).toArray 33)) = v0 at *
  have HB0 : Below w.heap.size w v0 := by rw [← hC]; exact balloc (bself w) _
  have K0 : Bk w.heap.size v0 [(true, w.heap.size, GE (p) (q) (g) (h))] := by rw [← hC]; exact (Bk.nil _ w).ad
  clear hC
  refine rgP K0 HB0 HB0.size [] [(5, 5, L0s, some (6, LN n))] [(0, 8, .slice (some ⟨b0, 0, none⟩) cs.length cap), (1, 9, .tuple #[NV n, .int .i64 0]), (2, 7, .tuple #[NV n, .int .i64 0]), (3, 10, NV n), (4, 11, .int .i64 0), (7, 6, .int .i64 0)] [(6, 5)] [] [] ?_ ?_
  · refine oc g_mv ?_
    refine oc (g_cb ent_cert_Check (fun uZ bZ => cCheck_own_p cs n uZ _ 0 hb hlast hcs hin ⟨b0, cap, rfl, Nat.zero_le _, Nat.lt_of_lt_of_le hlt bZ.size, hcap, hcv.out.below bZ hlt⟩)) ?_
    refine oc g_mv ?_
    refine oc g_ex ?_
    refine oc g_ex ?_
    refine oc (g_al 0 aN) ?_
    refine oc (g_sn 0 iN) ?_
    exact oc g_as on
  intro u1 b1_5 HB1 sz1 K1
  simp only [fX, nK, nP, Wr.f, aK, pM] at K1
  simp only [setG, setN, List.set_cons_zero, List.set_cons_succ]
  clear K0 HB0
  have hz3 : (cs.length : Int) - 1 = ((cs.length - 1 : Nat) : Int) := by omega
  have hR : w.rangeAt b0 (0 + 12 * (cs.length - 1) + 4) (LN f) := fun c v hc => by
    rw [Nat.zero_add]; exact (hcv.out _ v (flC_F cs (cs.length - 1) (by omega) c v (by rw [hlf.out]; exact hc))).1
  have hR : Hid _ := hR
  go_upto_region 2 with fail
  refine rgP K1 HB1 HB1.size [] [] [(0, 13, .int .i64 0), (1, 14, .bool false), (2, 12, .bool false)] [] [] [] ?_ ?_
  · refine oc g_mv ?_
    refine oc (g_bn (fun uZ => neq_i _ _ _ 0 0 _ uZ rfl)) ?_
    exact oc g_as on
  intro u2 HB2 sz2 K2
  simp only [fX, nK, nP, Wr.f, aK, pM] at K2
  simp only [setG, setN, List.set_cons_zero, List.set_cons_succ]
  clear K1 HB1
  go_upto_region 4 with fail
  refine rgD K2 HB2 HB2.size [] [] [(0, 17, NV n), (1, 18, .pointer (some ⟨w.heap.size, 0, none⟩)), (2, 19, NV p), (3, 20, .bool false), (4, 21, .bool false), (5, 22, .slice (some ⟨b0, 0, none⟩) cs.length cap), (6, 23, .slice (some ⟨b0, 0, none⟩) cs.length cap), (7, 24, .int .i64 (cs.length : Int)), (8, 25, .int .i64 ((cs.length - 1 : Nat) : Int)), (9, 26, .pointer (some ⟨b0, 0 + 12 * (cs.length - 1), none⟩)), (10, 27, .pointer (some ⟨b0, 0 + 12 * (cs.length - 1) + 4, none⟩)), (11, 28, NV f), (12, 29, .pointer (some ⟨w.heap.size, 4, none⟩)), (13, 30, NV q), (14, 31, .bool false), (15, 32, .bool false), (16, 33, .bool false), (17, 34, .pointer (some ⟨w.heap.size, 0, none⟩)), (18, 35, NV p), (19, 36, .pointer (some ⟨w.heap.size, 4, none⟩)), (20, 37, NV q), (21, 38, .bool true), (22, 39, .bool false), (23, 40, .bool false), (24, 16, .bool false)] [] [] [true, false] ?_ ?_
  · refine oc (g_ld 1 uN iN) ?_
    refine oc (g_fd (fun uZ => fdG0 _ uZ)) ?_
    refine oc (g_lo 0 0 uN iN) ?_
    refine oc (g_bn (fun uZ => neq_n _ _ hn hp _ h1 uZ)) ?_
    refine oc g_mv ?_
    refine oc g_mv ?_
    refine oc g_mv ?_
    refine oc (g_ln Try.underlying31) ?_
    refine oc (g_bn (fun uZ => sub_i _ _ (cs.length : Int) 1 ((cs.length - 1 : Nat) : Int) uZ hz3 (by omega) (by omega))) ?_
    refine oc (g_ix (fun uZ => ixC b0 0 cs.length cap (cs.length - 1) (by omega) uZ)) ?_
    refine oc (g_fd (fun uZ => fdC1x _ _ uZ)) ?_
    refine oc (g_lf hR.out hlt uN iN) ?_
    refine oc (g_fd (fun uZ => fdG1 _ uZ)) ?_
    refine oc (g_lo 0 4 uN iN) ?_
    refine oc (g_bn (fun uZ => neq_n _ _ hf hq _ h2 uZ)) ?_
    refine oc g_pk ?_
    refine oc g_mv ?_
    refine oc (g_fd (fun uZ => fdG0 _ uZ)) ?_
    refine oc (g_lo 0 0 uN iN) ?_
    refine oc (g_fd (fun uZ => fdG1 _ uZ)) ?_
    refine oc (g_lo 0 4 uN iN) ?_
    refine oc (g_cl ent_cert_isTwiceAndOne (fun uZ => hT.out uZ)) ?_
    refine oc (g_un (fun uZ => rfl)) ?_
    refine oc g_pk ?_
    exact oc g_as on
  intro u3 HB3 sz3 K3
  simp only [fX, nK, nP, Wr.f, aK, pM] at K3
  simp only [setG, setN, List.set_cons_zero, List.set_cons_succ]
  clear K2 HB2
  go_upto_region 6 with fail
  refine rgP K3 HB3 HB3.size [] [] [(0, 42, .pointer (some ⟨w.heap.size, 8, none⟩)), (1, 43, NV g), (2, 44, GX (p) (q) (g) (h)), (3, 45, .bool false), (4, 46, .bool true), (5, 47, .bool true), (6, 48, undef), (7, 49, undef), (8, 50, undef), (9, 51, undef), (10, 52, undef), (11, 53, (Go.Value.bool Bool.true)), (12, 54, (Go.Value.bool Bool.true)), (13, 55, undef), (14, 56, undef), (15, 57, undef), (16, 58, undef), (17, 59, undef), (18, 60, (Go.Value.bool Bool.true)), (19, 41, (Go.Value.bool Bool.true))] [] [] [false] ?_ ?_
  · refine oc (g_fd (fun uZ => fdG2 _ uZ)) ?_
    refine oc (g_lo 0 8 uN iN) ?_
    refine oc (g_ld 0 Try.underlying33 info_api_Group) ?_
    refine oc (g_cl ent_cert_generates (fun uZ => hG1.out uZ)) ?_
    refine oc (g_un (fun uZ => rfl)) ?_
    refine oc g_mv ?_
    refine oc g_sk ?_
    refine oc g_sk ?_
    refine oc g_sk ?_
    refine oc g_sk ?_
    refine oc g_sk ?_
    refine oc g_pk ?_
    refine oc g_mv ?_
    refine oc g_sk ?_
    refine oc g_sk ?_
    refine oc g_sk ?_
    refine oc g_sk ?_
    refine oc g_sk ?_
    refine oc g_pk ?_
    exact oc g_as on
  intro u4 HB4 sz4 K4
  simp only [fX, nK, nP, Wr.f, aK, pM] at K4
  simp only [setG, setN, List.set_cons_zero, List.set_cons_succ]
  clear K3 HB3
  go_upto_region 7 with fail
  refine rgP K4 HB4 HB4.size [] [] [(0, 4, (Go.Value.int Go.IntKind.i64 30))] [] [] [] ?_ ?_
  · exact oc g_as on
  intro u5 HB5 sz5 K5
  simp only [fX, nK, nP, Wr.f, aK, pM] at K5
  simp only [setG, setN, List.set_cons_zero, List.set_cons_succ]
  clear K4 HB4
  go_wp2
  refine bodyPost_ret (v := .int .i64 30) (by simp [results, Try.results17, go_sem, ]) rfl ⟨rfl, HB5⟩
set_option maxRecDepth 100000 in
set_option maxHeartbeats 4000000 in
theorem cgroup_h (p q g h n f : Int) (b0 cap : Nat) (cs : List (Int × Int × Int)) (w : World) (hp : In p) (hq : In q) (hg : In g) (hh : In h) (hcs : cs.length ≤ 256) (hin : Hid (∀ j, j < cs.length → In (cat cs j).1 ∧ In (cat cs j).2.1 ∧ In (cat cs j).2.2)) (hlt : b0 < w.heap.size) (hcv : Hid (CV w b0 (flC cs))) (hcap : cs.length ≤ cap) (hb : cfB cs = true) (h0 : 0 < cs.length) (hlast : (cat cs (cs.length - 1)).1 = n) (hlf : Hid ((cat cs (cs.length - 1)).2.1 = f)) (hn : In n) (hf : In f)(h1 : decide (n = p) = !false)(h2 : decide (f = q) = !false)(hT : Hid (∀ u, Calls Try.prog 37 #[NV p, NV q] u fun e u' => e = .returned (.bool true) ∧ Below u.heap.size u u'))(hG1 : Hid (∀ u, Calls Try.prog 38 #[NV g, GX p q g h] u fun e u' => e = .returned (.bool true) ∧ Below u.heap.size u u'))(hG2 : Hid (∀ u, Calls Try.prog 38 #[NV h, GX p q g h] u fun e u' => e = .returned (.bool false) ∧ Below u.heap.size u u')) :
    Calls Try.prog 17 #[GX p q g h, .slice (some ⟨b0, 0, none⟩) cs.length cap] w fun e w' => e = .returned (.int .i64 30) ∧ Below w.heap.size w w' := by
  go_enter Try.func17, Try.ntmps17
  go_upto_region 1 with fail
  generalize hC : (w.alloc (.cells (GE (p) (q) (g) (h) : List Value).toArray 33)) = v0 at *
  have HB0 : Below w.heap.size w v0 := by rw [← hC]; exact balloc (bself w) _
  have K0 : Bk w.heap.size v0 [(true, w.heap.size, GE (p) (q) (g) (h))] := by rw [← hC]; exact (Bk.nil _ w).ad
  clear hC
  refine rgP K0 HB0 HB0.size [] [(5, 5, L0s, some (6, LN n))] [(0, 8, .slice (some ⟨b0, 0, none⟩) cs.length cap), (1, 9, .tuple #[NV n, .int .i64 0]), (2, 7, .tuple #[NV n, .int .i64 0]), (3, 10, NV n), (4, 11, .int .i64 0), (7, 6, .int .i64 0)] [(6, 5)] [] [] ?_ ?_
  · refine oc g_mv ?_
    refine oc (g_cb ent_cert_Check (fun uZ bZ => cCheck_own_p cs n uZ _ 0 hb hlast hcs hin ⟨b0, cap, rfl, Nat.zero_le _, Nat.lt_of_lt_of_le hlt bZ.size, hcap, hcv.out.below bZ hlt⟩)) ?_
    refine oc g_mv ?_
    refine oc g_ex ?_
    refine oc g_ex ?_
    refine oc (g_al 0 aN) ?_
    refine oc (g_sn 0 iN) ?_
    exact oc g_as on
  intro u1 b1_5 HB1 sz1 K1
  simp only [fX, nK, nP, Wr.f, aK, pM] at K1
  simp only [setG, setN, List.set_cons_zero, List.set_cons_succ]
  clear K0 HB0
  have hz3 : (cs.length : Int) - 1 = ((cs.length - 1 : Nat) : Int) := by omega
  have hR : w.rangeAt b0 (0 + 12 * (cs.length - 1) + 4) (LN f) := fun c v hc => by
    rw [Nat.zero_add]; exact (hcv.out _ v (flC_F cs (cs.length - 1) (by omega) c v (by rw [hlf.out]; exact hc))).1
  have hR : Hid _ := hR
  go_upto_region 2 with fail
  refine rgP K1 HB1 HB1.size [] [] [(0, 13, .int .i64 0), (1, 14, .bool false), (2, 12, .bool false)] [] [] [] ?_ ?_
  · refine oc g_mv ?_
    refine oc (g_bn (fun uZ => neq_i _ _ _ 0 0 _ uZ rfl)) ?_
    exact oc g_as on
  intro u2 HB2 sz2 K2
  simp only [fX, nK, nP, Wr.f, aK, pM] at K2
  simp only [setG, setN, List.set_cons_zero, List.set_cons_succ]
  clear K1 HB1
  go_upto_region 4 with fail
  refine rgD K2 HB2 HB2.size [] [] [(0, 17, NV n), (1, 18, .pointer (some ⟨w.heap.size, 0, none⟩)), (2, 19, NV p), (3, 20, .bool false), (4, 21, .bool false), (5, 22, .slice (some ⟨b0, 0, none⟩) cs.length cap), (6, 23, .slice (some ⟨b0, 0, none⟩) cs.length cap), (7, 24, .int .i64 (cs.length : Int)), (8, 25, .int .i64 ((cs.length - 1 : Nat) : Int)), (9, 26, .pointer (some ⟨b0, 0 + 12 * (cs.length - 1), none⟩)), (10, 27, .pointer (some ⟨b0, 0 + 12 * (cs.length - 1) + 4, none⟩)), (11, 28, NV f), (12, 29, .pointer (some ⟨w.heap.size, 4, none⟩)), (13, 30, NV q), (14, 31, .bool false), (15, 32, .bool false), (16, 33, .bool false), (17, 34, .pointer (some ⟨w.heap.size, 0, none⟩)), (18, 35, NV p), (19, 36, .pointer (some ⟨w.heap.size, 4, none⟩)), (20, 37, NV q), (21, 38, .bool true), (22, 39, .bool false), (23, 40, .bool false), (24, 16, .bool false)] [] [] [true, false] ?_ ?_
  · refine oc (g_ld 1 uN iN) ?_
    refine oc (g_fd (fun uZ => fdG0 _ uZ)) ?_
    refine oc (g_lo 0 0 uN iN) ?_
    refine oc (g_bn (fun uZ => neq_n _ _ hn hp _ h1 uZ)) ?_
    refine oc g_mv ?_
    refine oc g_mv ?_
    refine oc g_mv ?_
    refine oc (g_ln Try.underlying31) ?_
    refine oc (g_bn (fun uZ => sub_i _ _ (cs.length : Int) 1 ((cs.length - 1 : Nat) : Int) uZ hz3 (by omega) (by omega))) ?_
    refine oc (g_ix (fun uZ => ixC b0 0 cs.length cap (cs.length - 1) (by omega) uZ)) ?_
    refine oc (g_fd (fun uZ => fdC1x _ _ uZ)) ?_
    refine oc (g_lf hR.out hlt uN iN) ?_
    refine oc (g_fd (fun uZ => fdG1 _ uZ)) ?_
    refine oc (g_lo 0 4 uN iN) ?_
    refine oc (g_bn (fun uZ => neq_n _ _ hf hq _ h2 uZ)) ?_
    refine oc g_pk ?_
    refine oc g_mv ?_
    refine oc (g_fd (fun uZ => fdG0 _ uZ)) ?_
    refine oc (g_lo 0 0 uN iN) ?_
    refine oc (g_fd (fun uZ => fdG1 _ uZ)) ?_
    refine oc (g_lo 0 4 uN iN) ?_
    refine oc (g_cl ent_cert_isTwiceAndOne (fun uZ => hT.out uZ)) ?_
    refine oc (g_un (fun uZ => rfl)) ?_
    refine oc g_pk ?_
    exact oc g_as on
  intro u3 HB3 sz3 K3
  simp only [fX, nK, nP, Wr.f, aK, pM] at K3
  simp only [setG, setN, List.set_cons_zero, List.set_cons_succ]
  clear K2 HB2
  go_upto_region 6 with fail
  refine rgP K3 HB3 HB3.size [] [] [(0, 42, .pointer (some ⟨w.heap.size, 8, none⟩)), (1, 43, NV g), (2, 44, GX (p) (q) (g) (h)), (3, 45, .bool true), (4, 46, .bool false), (5, 47, .bool false), (6, 48, .pointer (some ⟨w.heap.size, 12, none⟩)), (7, 49, NV h), (8, 50, GX (p) (q) (g) (h)), (9, 51, .bool false), (10, 52, .bool true), (11, 53, .bool true), (12, 54, .bool true), (13, 55, undef), (14, 56, undef), (15, 57, undef), (16, 58, undef), (17, 59, undef), (18, 60, (Go.Value.bool Bool.true)), (19, 41, (Go.Value.bool Bool.true))] [] [] [false] ?_ ?_
  · refine oc (g_fd (fun uZ => fdG2 _ uZ)) ?_
    refine oc (g_lo 0 8 uN iN) ?_
    refine oc (g_ld 0 Try.underlying33 info_api_Group) ?_
    refine oc (g_cl ent_cert_generates (fun uZ => hG1.out uZ)) ?_
    refine oc (g_un (fun uZ => rfl)) ?_
    refine oc g_mv ?_
    refine oc (g_fd (fun uZ => fdG3 _ uZ)) ?_
    refine oc (g_lo 0 12 uN iN) ?_
    refine oc (g_ld 0 Try.underlying33 info_api_Group) ?_
    refine oc (g_cl ent_cert_generates (fun uZ => hG2.out uZ)) ?_
    refine oc (g_un (fun uZ => rfl)) ?_
    refine oc g_pk ?_
    refine oc g_mv ?_
    refine oc g_sk ?_
    refine oc g_sk ?_
    refine oc g_sk ?_
    refine oc g_sk ?_
    refine oc g_sk ?_
    refine oc g_pk ?_
    exact oc g_as on
  intro u4 HB4 sz4 K4
  simp only [fX, nK, nP, Wr.f, aK, pM] at K4
  simp only [setG, setN, List.set_cons_zero, List.set_cons_succ]
  clear K3 HB3
  go_upto_region 7 with fail
  refine rgP K4 HB4 HB4.size [] [] [(0, 4, (Go.Value.int Go.IntKind.i64 30))] [] [] [] ?_ ?_
  · exact oc g_as on
  intro u5 HB5 sz5 K5
  simp only [fX, nK, nP, Wr.f, aK, pM] at K5
  simp only [setG, setN, List.set_cons_zero, List.set_cons_succ]
  clear K4 HB4
  go_wp2
  refine bodyPost_ret (v := .int .i64 30) (by simp [results, Try.results17, go_sem, ]) rfl ⟨rfl, HB5⟩
set_option maxRecDepth 100000 in
set_option maxHeartbeats 4000000 in
theorem cgroup_e (p q g h n f : Int) (b0 cap : Nat) (cs : List (Int × Int × Int)) (w : World) (hp : In p) (hq : In q) (hg : In g) (hh : In h) (hcs : cs.length ≤ 256) (hin : Hid (∀ j, j < cs.length → In (cat cs j).1 ∧ In (cat cs j).2.1 ∧ In (cat cs j).2.2)) (hlt : b0 < w.heap.size) (hcv : Hid (CV w b0 (flC cs))) (hcap : cs.length ≤ cap) (hb : cfB cs = true) (h0 : 0 < cs.length) (hlast : (cat cs (cs.length - 1)).1 = n) (hlf : Hid ((cat cs (cs.length - 1)).2.1 = f)) (hn : In n) (hf : In f)(h1 : decide (n = p) = !false)(h2 : decide (f = q) = !false)(hT : Hid (∀ u, Calls Try.prog 37 #[NV p, NV q] u fun e u' => e = .returned (.bool true) ∧ Below u.heap.size u u'))(hG1 : Hid (∀ u, Calls Try.prog 38 #[NV g, GX p q g h] u fun e u' => e = .returned (.bool true) ∧ Below u.heap.size u u'))(hG2 : Hid (∀ u, Calls Try.prog 38 #[NV h, GX p q g h] u fun e u' => e = .returned (.bool true) ∧ Below u.heap.size u u'))(h3 : decide (g = h) = true) :
    Calls Try.prog 17 #[GX p q g h, .slice (some ⟨b0, 0, none⟩) cs.length cap] w fun e w' => e = .returned (.int .i64 30) ∧ Below w.heap.size w w' := by
  go_enter Try.func17, Try.ntmps17
  go_upto_region 1 with fail
  generalize hC : (w.alloc (.cells (GE (p) (q) (g) (h) : List Value).toArray 33)) = v0 at *
  have HB0 : Below w.heap.size w v0 := by rw [← hC]; exact balloc (bself w) _
  have K0 : Bk w.heap.size v0 [(true, w.heap.size, GE (p) (q) (g) (h))] := by rw [← hC]; exact (Bk.nil _ w).ad
  clear hC
  refine rgP K0 HB0 HB0.size [] [(5, 5, L0s, some (6, LN n))] [(0, 8, .slice (some ⟨b0, 0, none⟩) cs.length cap), (1, 9, .tuple #[NV n, .int .i64 0]), (2, 7, .tuple #[NV n, .int .i64 0]), (3, 10, NV n), (4, 11, .int .i64 0), (7, 6, .int .i64 0)] [(6, 5)] [] [] ?_ ?_
  · refine oc g_mv ?_
    refine oc (g_cb ent_cert_Check (fun uZ bZ => cCheck_own_p cs n uZ _ 0 hb hlast hcs hin ⟨b0, cap, rfl, Nat.zero_le _, Nat.lt_of_lt_of_le hlt bZ.size, hcap, hcv.out.below bZ hlt⟩)) ?_
    refine oc g_mv ?_
    refine oc g_ex ?_
    refine oc g_ex ?_
    refine oc (g_al 0 aN) ?_
    refine oc (g_sn 0 iN) ?_
    exact oc g_as on
  intro u1 b1_5 HB1 sz1 K1
  simp only [fX, nK, nP, Wr.f, aK, pM] at K1
  simp only [setG, setN, List.set_cons_zero, List.set_cons_succ]
  clear K0 HB0
  have hz3 : (cs.length : Int) - 1 = ((cs.length - 1 : Nat) : Int) := by omega
  have hR : w.rangeAt b0 (0 + 12 * (cs.length - 1) + 4) (LN f) := fun c v hc => by
    rw [Nat.zero_add]; exact (hcv.out _ v (flC_F cs (cs.length - 1) (by omega) c v (by rw [hlf.out]; exact hc))).1
  have hR : Hid _ := hR
  go_upto_region 2 with fail
  refine rgP K1 HB1 HB1.size [] [] [(0, 13, .int .i64 0), (1, 14, .bool false), (2, 12, .bool false)] [] [] [] ?_ ?_
  · refine oc g_mv ?_
    refine oc (g_bn (fun uZ => neq_i _ _ _ 0 0 _ uZ rfl)) ?_
    exact oc g_as on
  intro u2 HB2 sz2 K2
  simp only [fX, nK, nP, Wr.f, aK, pM] at K2
  simp only [setG, setN, List.set_cons_zero, List.set_cons_succ]
  clear K1 HB1
  go_upto_region 4 with fail
  refine rgD K2 HB2 HB2.size [] [] [(0, 17, NV n), (1, 18, .pointer (some ⟨w.heap.size, 0, none⟩)), (2, 19, NV p), (3, 20, .bool false), (4, 21, .bool false), (5, 22, .slice (some ⟨b0, 0, none⟩) cs.length cap), (6, 23, .slice (some ⟨b0, 0, none⟩) cs.length cap), (7, 24, .int .i64 (cs.length : Int)), (8, 25, .int .i64 ((cs.length - 1 : Nat) : Int)), (9, 26, .pointer (some ⟨b0, 0 + 12 * (cs.length - 1), none⟩)), (10, 27, .pointer (some ⟨b0, 0 + 12 * (cs.length - 1) + 4, none⟩)), (11, 28, NV f), (12, 29, .pointer (some ⟨w.heap.size, 4, none⟩)), (13, 30, NV q), (14, 31, .bool false), (15, 32, .bool false), (16, 33, .bool false), (17, 34, .pointer (some ⟨w.heap.size, 0, none⟩)), (18, 35, NV p), (19, 36, .pointer (some ⟨w.heap.size, 4, none⟩)), (20, 37, NV q), (21, 38, .bool true), (22, 39, .bool false), (23, 40, .bool false), (24, 16, .bool false)] [] [] [true, false] ?_ ?_
  · refine oc (g_ld 1 uN iN) ?_
    refine oc (g_fd (fun uZ => fdG0 _ uZ)) ?_
    refine oc (g_lo 0 0 uN iN) ?_
    refine oc (g_bn (fun uZ => neq_n _ _ hn hp _ h1 uZ)) ?_
    refine oc g_mv ?_
    refine oc g_mv ?_
    refine oc g_mv ?_
    refine oc (g_ln Try.underlying31) ?_
    refine oc (g_bn (fun uZ => sub_i _ _ (cs.length : Int) 1 ((cs.length - 1 : Nat) : Int) uZ hz3 (by omega) (by omega))) ?_
    refine oc (g_ix (fun uZ => ixC b0 0 cs.length cap (cs.length - 1) (by omega) uZ)) ?_
    refine oc (g_fd (fun uZ => fdC1x _ _ uZ)) ?_
    refine oc (g_lf hR.out hlt uN iN) ?_
    refine oc (g_fd (fun uZ => fdG1 _ uZ)) ?_
    refine oc (g_lo 0 4 uN iN) ?_
    refine oc (g_bn (fun uZ => neq_n _ _ hf hq _ h2 uZ)) ?_
    refine oc g_pk ?_
    refine oc g_mv ?_
    refine oc (g_fd (fun uZ => fdG0 _ uZ)) ?_
    refine oc (g_lo 0 0 uN iN) ?_
    refine oc (g_fd (fun uZ => fdG1 _ uZ)) ?_
    refine oc (g_lo 0 4 uN iN) ?_
    refine oc (g_cl ent_cert_isTwiceAndOne (fun uZ => hT.out uZ)) ?_
    refine oc (g_un (fun uZ => rfl)) ?_
    refine oc g_pk ?_
    exact oc g_as on
  intro u3 HB3 sz3 K3
  simp only [fX, nK, nP, Wr.f, aK, pM] at K3
  simp only [setG, setN, List.set_cons_zero, List.set_cons_succ]
  clear K2 HB2
  go_upto_region 6 with fail
  refine rgP K3 HB3 HB3.size [] [] [(0, 42, .pointer (some ⟨w.heap.size, 8, none⟩)), (1, 43, NV g), (2, 44, GX (p) (q) (g) (h)), (3, 45, .bool true), (4, 46, .bool false), (5, 47, .bool false), (6, 48, .pointer (some ⟨w.heap.size, 12, none⟩)), (7, 49, NV h), (8, 50, GX (p) (q) (g) (h)), (9, 51, .bool true), (10, 52, .bool false), (11, 53, .bool false), (12, 54, .bool false), (13, 55, .pointer (some ⟨w.heap.size, 8, none⟩)), (14, 56, NV g), (15, 57, .pointer (some ⟨w.heap.size, 12, none⟩)), (16, 58, NV h), (17, 59, .bool true), (18, 60, .bool true), (19, 41, .bool true)] [] [] [false] ?_ ?_
  · refine oc (g_fd (fun uZ => fdG2 _ uZ)) ?_
    refine oc (g_lo 0 8 uN iN) ?_
    refine oc (g_ld 0 Try.underlying33 info_api_Group) ?_
    refine oc (g_cl ent_cert_generates (fun uZ => hG1.out uZ)) ?_
    refine oc (g_un (fun uZ => rfl)) ?_
    refine oc g_mv ?_
    refine oc (g_fd (fun uZ => fdG3 _ uZ)) ?_
    refine oc (g_lo 0 12 uN iN) ?_
    refine oc (g_ld 0 Try.underlying33 info_api_Group) ?_
    refine oc (g_cl ent_cert_generates (fun uZ => hG2.out uZ)) ?_
    refine oc (g_un (fun uZ => rfl)) ?_
    refine oc g_pk ?_
    refine oc g_mv ?_
    refine oc (g_fd (fun uZ => fdG2 _ uZ)) ?_
    refine oc (g_lo 0 8 uN iN) ?_
    refine oc (g_fd (fun uZ => fdG3 _ uZ)) ?_
    refine oc (g_lo 0 12 uN iN) ?_
    refine oc (g_bn (fun uZ => eql_n _ _ hg hh _ h3 uZ)) ?_
    refine oc g_pk ?_
    exact oc g_as on
  intro u4 HB4 sz4 K4
  simp only [fX, nK, nP, Wr.f, aK, pM] at K4
  simp only [setG, setN, List.set_cons_zero, List.set_cons_succ]
  clear K3 HB3
  go_upto_region 7 with fail
  refine rgP K4 HB4 HB4.size [] [] [(0, 4, (Go.Value.int Go.IntKind.i64 30))] [] [] [] ?_ ?_
  · exact oc g_as on
  intro u5 HB5 sz5 K5
  simp only [fX, nK, nP, Wr.f, aK, pM] at K5
  simp only [setG, setN, List.set_cons_zero, List.set_cons_succ]
  clear K4 HB4
  go_wp2
  refine bodyPost_ret (v := .int .i64 30) (by simp [results, Try.results17, go_sem, ]) rfl ⟨rfl, HB5⟩
set_option maxRecDepth 100000 in
set_option maxHeartbeats 4000000 in
theorem cgroup_ok (p q g h n f : Int) (b0 cap : Nat) (cs : List (Int × Int × Int)) (w : World) (hp : In p) (hq : In q) (hg : In g) (hh : In h) (hcs : cs.length ≤ 256) (hin : Hid (∀ j, j < cs.length → In (cat cs j).1 ∧ In (cat cs j).2.1 ∧ In (cat cs j).2.2)) (hlt : b0 < w.heap.size) (hcv : Hid (CV w b0 (flC cs))) (hcap : cs.length ≤ cap) (hb : cfB cs = true) (h0 : 0 < cs.length) (hlast : (cat cs (cs.length - 1)).1 = n) (hlf : Hid ((cat cs (cs.length - 1)).2.1 = f)) (hn : In n) (hf : In f)(h1 : decide (n = p) = !false)(h2 : decide (f = q) = !false)(hT : Hid (∀ u, Calls Try.prog 37 #[NV p, NV q] u fun e u' => e = .returned (.bool true) ∧ Below u.heap.size u u'))(hG1 : Hid (∀ u, Calls Try.prog 38 #[NV g, GX p q g h] u fun e u' => e = .returned (.bool true) ∧ Below u.heap.size u u'))(hG2 : Hid (∀ u, Calls Try.prog 38 #[NV h, GX p q g h] u fun e u' => e = .returned (.bool true) ∧ Below u.heap.size u u'))(h3 : decide (g = h) = false) :
    Calls Try.prog 17 #[GX p q g h, .slice (some ⟨b0, 0, none⟩) cs.length cap] w fun e w' => e = .returned (.int .i64 0) ∧ Below w.heap.size w w' := by
  go_enter Try.func17, Try.ntmps17
  go_upto_region 1 with fail
  generalize hC : (w.alloc (.cells (GE (p) (q) (g) (h) : List Value).toArray 33)) = v0 at *
  have HB0 : Below w.heap.size w v0 := by rw [← hC]; exact balloc (bself w) _
  have K0 : Bk w.heap.size v0 [(true, w.heap.size, GE (p) (q) (g) (h))] := by rw [← hC]; exact (Bk.nil _ w).ad
  clear hC
  refine rgP K0 HB0 HB0.size [] [(5, 5, L0s, some (6, LN n))] [(0, 8, .slice (some ⟨b0, 0, none⟩) cs.length cap), (1, 9, .tuple #[NV n, .int .i64 0]), (2, 7, .tuple #[NV n, .int .i64 0]), (3, 10, NV n), (4, 11, .int .i64 0), (7, 6, .int .i64 0)] [(6, 5)] [] [] ?_ ?_
  · refine oc g_mv ?_
    refine oc (g_cb ent_cert_Check (fun uZ bZ => cCheck_own_p cs n uZ _ 0 hb hlast hcs hin ⟨b0, cap, rfl, Nat.zero_le _, Nat.lt_of_lt_of_le hlt bZ.size, hcap, hcv.out.below bZ hlt⟩)) ?_
    refine oc g_mv ?_
    refine oc g_ex ?_
    refine oc g_ex ?_
    refine oc (g_al 0 aN) ?_
    refine oc (g_sn 0 iN) ?_
    exact oc g_as on
  intro u1 b1_5 HB1 sz1 K1
  simp only [fX, nK, nP, Wr.f, aK, pM] at K1
  simp only [setG, setN, List.set_cons_zero, List.set_cons_succ]
  clear K0 HB0
  have hz3 : (cs.length : Int) - 1 = ((cs.length - 1 : Nat) : Int) := by omega
  have hR : w.rangeAt b0 (0 + 12 * (cs.length - 1) + 4) (LN f) := fun c v hc => by
    rw [Nat.zero_add]; exact (hcv.out _ v (flC_F cs (cs.length - 1) (by omega) c v (by rw [hlf.out]; exact hc))).1
  have hR : Hid _ := hR
  go_upto_region 2 with fail
  refine rgP K1 HB1 HB1.size [] [] [(0, 13, .int .i64 0), (1, 14, .bool false), (2, 12, .bool false)] [] [] [] ?_ ?_
  · refine oc g_mv ?_
    refine oc (g_bn (fun uZ => neq_i _ _ _ 0 0 _ uZ rfl)) ?_
    exact oc g_as on
  intro u2 HB2 sz2 K2
  simp only [fX, nK, nP, Wr.f, aK, pM] at K2
  simp only [setG, setN, List.set_cons_zero, List.set_cons_succ]
  clear K1 HB1
  go_upto_region 4 with fail
  refine rgD K2 HB2 HB2.size [] [] [(0, 17, NV n), (1, 18, .pointer (some ⟨w.heap.size, 0, none⟩)), (2, 19, NV p), (3, 20, .bool false), (4, 21, .bool false), (5, 22, .slice (some ⟨b0, 0, none⟩) cs.length cap), (6, 23, .slice (some ⟨b0, 0, none⟩) cs.length cap), (7, 24, .int .i64 (cs.length : Int)), (8, 25, .int .i64 ((cs.length - 1 : Nat) : Int)), (9, 26, .pointer (some ⟨b0, 0 + 12 * (cs.length - 1), none⟩)), (10, 27, .pointer (some ⟨b0, 0 + 12 * (cs.length - 1) + 4, none⟩)), (11, 28, NV f), (12, 29, .pointer (some ⟨w.heap.size, 4, none⟩)), (13, 30, NV q), (14, 31, .bool false), (15, 32, .bool false), (16, 33, .bool false), (17, 34, .pointer (some ⟨w.heap.size, 0, none⟩)), (18, 35, NV p), (19, 36, .pointer (some ⟨w.heap.size, 4, none⟩)), (20, 37, NV q), (21, 38, .bool true), (22, 39, .bool false), (23, 40, .bool false), (24, 16, .bool false)] [] [] [true, false] ?_ ?_
  · refine oc (g_ld 1 uN iN) ?_
    refine oc (g_fd (fun uZ => fdG0 _ uZ)) ?_
    refine oc (g_lo 0 0 uN iN) ?_
    refine oc (g_bn (fun uZ => neq_n _ _ hn hp _ h1 uZ)) ?_
    refine oc g_mv ?_
    refine oc g_mv ?_
    refine oc g_mv ?_
    refine oc (g_ln Try.underlying31) ?_
    refine oc (g_bn (fun uZ => sub_i _ _ (cs.length : Int) 1 ((cs.length - 1 : Nat) : Int) uZ hz3 (by omega) (by omega))) ?_
    refine oc (g_ix (fun uZ => ixC b0 0 cs.length cap (cs.length - 1) (by omega) uZ)) ?_
    refine oc (g_fd (fun uZ => fdC1x _ _ uZ)) ?_
    refine oc (g_lf hR.out hlt uN iN) ?_
    refine oc (g_fd (fun uZ => fdG1 _ uZ)) ?_
    refine oc (g_lo 0 4 uN iN) ?_
    refine oc (g_bn (fun uZ => neq_n _ _ hf hq _ h2 uZ)) ?_
    refine oc g_pk ?_
    refine oc g_mv ?_
    refine oc (g_fd (fun uZ => fdG0 _ uZ)) ?_
    refine oc (g_lo 0 0 uN iN) ?_
    refine oc (g_fd (fun uZ => fdG1 _ uZ)) ?_
    refine oc (g_lo 0 4 uN iN) ?_
    refine oc (g_cl ent_cert_isTwiceAndOne (fun uZ => hT.out uZ)) ?_
    refine oc (g_un (fun uZ => rfl)) ?_
    refine oc g_pk ?_
    exact oc g_as on
  intro u3 HB3 sz3 K3
  simp only [fX, nK, nP, Wr.f, aK, pM] at K3
  simp only [setG, setN, List.set_cons_zero, List.set_cons_succ]
  clear K2 HB2
  go_upto_region 6 with fail
  refine rgP K3 HB3 HB3.size [] [] [(0, 42, .pointer (some ⟨w.heap.size, 8, none⟩)), (1, 43, NV g), (2, 44, GX (p) (q) (g) (h)), (3, 45, .bool true), (4, 46, .bool false), (5, 47, .bool false), (6, 48, .pointer (some ⟨w.heap.size, 12, none⟩)), (7, 49, NV h), (8, 50, GX (p) (q) (g) (h)), (9, 51, .bool true), (10, 52, .bool false), (11, 53, .bool false), (12, 54, .bool false), (13, 55, .pointer (some ⟨w.heap.size, 8, none⟩)), (14, 56, NV g), (15, 57, .pointer (some ⟨w.heap.size, 12, none⟩)), (16, 58, NV h), (17, 59, .bool false), (18, 60, .bool false), (19, 41, .bool false)] [] [] [false] ?_ ?_
  · refine oc (g_fd (fun uZ => fdG2 _ uZ)) ?_
    refine oc (g_lo 0 8 uN iN) ?_
    refine oc (g_ld 0 Try.underlying33 info_api_Group) ?_
    refine oc (g_cl ent_cert_generates (fun uZ => hG1.out uZ)) ?_
    refine oc (g_un (fun uZ => rfl)) ?_
    refine oc g_mv ?_
    refine oc (g_fd (fun uZ => fdG3 _ uZ)) ?_
    refine oc (g_lo 0 12 uN iN) ?_
    refine oc (g_ld 0 Try.underlying33 info_api_Group) ?_
    refine oc (g_cl ent_cert_generates (fun uZ => hG2.out uZ)) ?_
    refine oc (g_un (fun uZ => rfl)) ?_
    refine oc g_pk ?_
    refine oc g_mv ?_
    refine oc (g_fd (fun uZ => fdG2 _ uZ)) ?_
    refine oc (g_lo 0 8 uN iN) ?_
    refine oc (g_fd (fun uZ => fdG3 _ uZ)) ?_
    refine oc (g_lo 0 12 uN iN) ?_
    refine oc (g_bn (fun uZ => eql_n _ _ hg hh _ h3 uZ)) ?_
    refine oc g_pk ?_
    exact oc g_as on
  intro u4 HB4 sz4 K4
  simp only [fX, nK, nP, Wr.f, aK, pM] at K4
  simp only [setG, setN, List.set_cons_zero, List.set_cons_succ]
  clear K3 HB3
  go_upto_region 8 with fail
  refine rgP K4 HB4 HB4.size [] [] [(0, 4, (Go.Value.int Go.IntKind.i64 0))] [] [] [] ?_ ?_
  · exact oc g_as on
  intro u5 HB5 sz5 K5
  simp only [fX, nK, nP, Wr.f, aK, pM] at K5
  simp only [setG, setN, List.set_cons_zero, List.set_cons_succ]
  clear K4 HB4
  go_wp2
  refine bodyPost_ret (v := .int .i64 0) (by simp [results, Try.results17, go_sem, ]) rfl ⟨rfl, HB5⟩
/-- Is the group right by the steps? -/
noncomputable def gpB (p q g h : Int) (cs : List (Int × Int × Int)) : Bool := cfB cs && (decide ((cat cs (cs.length - 1)).1 = p) && (decide ((cat cs (cs.length - 1)).2.1 = q) && (twB p q && (gnB g p q && (gnB h p q && !decide (g = h))))))
noncomputable def gpE (p q g h : Int) (cs : List (Int × Int × Int)) : Int := if gpB p q g h cs then 0 else 30
theorem gpE_f {p q g h : Int} {cs : List (Int × Int × Int)} (e : gpB p q g h cs = false) : gpE p q g h cs = 30 := by unfold gpE; rw [e]; rfl
theorem gpE_t {p q g h : Int} {cs : List (Int × Int × Int)} (e : gpB p q g h cs = true) : gpE p q g h cs = 0 := by unfold gpE; rw [e]; rfl
theorem cGroup (p q g h : Int) (b0 cap : Nat) (cs : List (Int × Int × Int)) (w : World) (hp : In p) (hq : In q) (hg : In g) (hh : In h) (hcs : cs.length ≤ 256) (hin : Hid (∀ j, j < cs.length → In (cat cs j).1 ∧ In (cat cs j).2.1 ∧ In (cat cs j).2.2)) (hlt : b0 < w.heap.size) (hcv : Hid (CV w b0 (flC cs))) (hcap : cs.length ≤ cap) :
    Calls Try.prog 17 #[GX p q g h, .slice (some ⟨b0, 0, none⟩) cs.length cap] w fun e w' => e = .returned (.int .i64 (gpE p q g h cs)) ∧ Below w.heap.size w w' := by
  cases hb : cfB cs with
  | false =>
    rw [gpE_f (by unfold gpB; rw [hb]; rfl)]
    exact cgroup_f p q g h 0 0 b0 cap cs w hp hq hg hh hcs hin hlt hcv hcap hb
  | true =>
    obtain ⟨h0, hpr⟩ := cfB_pr hin.out hb
    obtain ⟨hn, hf, _⟩ := hin.out (cs.length - 1) (by omega)
    by_cases h1 : (cat cs (cs.length - 1)).1 = p
    rotate_left
    · rw [gpE_f (by unfold gpB; rw [hb, decide_eq_false h1]; rfl)]
      exact cgroup_n p q g h _ _ b0 cap cs w hp hq hg hh hcs hin hlt hcv hcap hb h0 rfl rfl hn hf (decide_eq_false h1)
    by_cases h2 : (cat cs (cs.length - 1)).2.1 = q
    rotate_left
    · rw [gpE_f (by unfold gpB; rw [hb, decide_eq_true h1, decide_eq_false h2]; rfl)]
      exact cgroup_q p q g h _ _ b0 cap cs w hp hq hg hh hcs hin hlt hcv hcap hb h0 rfl rfl hn hf (decide_eq_true h1) (decide_eq_false h2)
    have h1' : decide ((cat cs (cs.length - 1)).1 = p) = !false := decide_eq_true h1
    have h2' : decide ((cat cs (cs.length - 1)).2.1 = q) = !false := decide_eq_true h2
    have hT := fun u => cTwice p q u hp hq
    have p1 : 1 ≤ p := by have := hpr.1; omega
    have hG1 := fun u => cGen g p q g h u hp hq hg p1
    have hG2 := fun u => cGen h p q g h u hp hq hh p1
    have e : gpB p q g h cs = (twB p q && (gnB g p q && (gnB h p q && !decide (g = h)))) := by unfold gpB; rw [hb, h1', h2']; rfl
    cases ht : twB p q with
    | false =>
      rw [ht] at hT e
      rw [gpE_f (by rw [e]; rfl)]
      exact cgroup_t p q g h _ _ b0 cap cs w hp hq hg hh hcs hin hlt hcv hcap hb h0 rfl rfl hn hf h1' h2' hT
    | true =>
    rw [ht] at hT e
    cases hg1 : gnB g p q with
    | false =>
      rw [hg1] at hG1 e
      rw [gpE_f (by rw [e]; rfl)]
      exact cgroup_g p q g h _ _ b0 cap cs w hp hq hg hh hcs hin hlt hcv hcap hb h0 rfl rfl hn hf h1' h2' hT hG1
    | true =>
    rw [hg1] at hG1 e
    cases hg2 : gnB h p q with
    | false =>
      rw [hg2] at hG2 e
      rw [gpE_f (by rw [e]; rfl)]
      exact cgroup_h p q g h _ _ b0 cap cs w hp hq hg hh hcs hin hlt hcv hcap hb h0 rfl rfl hn hf h1' h2' hT hG1 hG2
    | true =>
    rw [hg2] at hG2 e
    cases h3 : decide (g = h) with
    | true =>
      rw [h3] at e
      rw [gpE_f (by rw [e]; rfl)]
      exact cgroup_e p q g h _ _ b0 cap cs w hp hq hg hh hcs hin hlt hcv hcap hb h0 rfl rfl hn hf h1' h2' hT hG1 hG2 h3
    | false =>
      rw [h3] at e
      rw [gpE_t (by rw [e]; rfl)]
      exact cgroup_ok p q g h _ _ b0 cap cs w hp hq hg hh hcs hin hlt hcv hcap hb h0 rfl rfl hn hf h1' h2' hT hG1 hG2 h3
end Go.Proofs.Ytgfggkinmhhdnaa
