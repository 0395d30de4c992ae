/- The reference's functions of layer 1, in the words of numbers. -/
import Derived.Test.YtkpnjmfndgfogaaRC
import Derived.Test.YtkpnjmfndgfogaaN1
import Derived.Test.YtkpnjmfndgfogaaXX
import Derived.Test.YtkpnjmfndgfogaaYY
import Derived.Test.YtkpnjmfndgfogaaWW
import Derived.Test.YtkpnjmfndgfogaaMA2
namespace Go.Proofs.Ytkpnjmfndgfogaa
open Go.RowKit
set_option linter.unusedSimpArgs false
set_option linter.unusedVariables false
theorem nrAdd (a b : Int) (w : World) (ha : In a) (hb : In b) : Calls Try.prog 49 #[NV a, NV b] w fun e w' => e = .returned (.tuple #[NV (a + b), .bool (ovB a b)]) ∧ Below w.heap.size w w' := by
  have k := rAdd_any _ _ _ _ _ _ _ _ w (W_D0 a) (W_D1 a) (W_D2 a) (W_D3 a) (W_D0 b) (W_D1 b) (W_D2 b) (W_D3 b)
  simp only [V_In ha, V_In hb] at k
  have e : (D4 (a + b) == 1) = ovB a b := by
    unfold In at ha hb; unfold ovB D4; rw [Bool.eq_iff_iff]; simp; omega
  rw [e] at k
  exact k
theorem nrSub (a b : Int) (w : World) (ha : In a) (hb : In b) : Calls Try.prog 50 #[NV a, NV b] w fun e w' => e = .returned (.tuple #[NV (a - b), .bool (ltB a b)]) ∧ Below w.heap.size w w' := by
  have k := rSub_any _ _ _ _ _ _ _ _ w (W_D0 a) (W_D1 a) (W_D2 a) (W_D3 a) (W_D0 b) (W_D1 b) (W_D2 b) (W_D3 b)
  simp only [V_In ha, V_In hb] at k
  have e : (-D4 (a - b) == 1) = ltB a b := by
    unfold In at ha hb; unfold ltB D4; rw [Bool.eq_iff_iff]; simp; omega
  rw [e] at k
  exact k
theorem nrMul (a b : Int) (w : World) (ha : In a) (hb : In b) : Calls Try.prog 45 #[NV a, NV b] w fun e w' => e = .returned (WV (a * b)) ∧ Below w.heap.size w w' := by
  have k := rMul_any _ _ _ _ _ _ _ _ w (W_D0 a) (W_D1 a) (W_D2 a) (W_D3 a) (W_D0 b) (W_D1 b) (W_D2 b) (W_D3 b)
  simp only [V_In ha, V_In hb] at k
  exact k
theorem nrDivide (n m : Int) (w : World) (hn : InW n) (hm : In m) (h : m ≠ 0) : Calls Try.prog 43 #[WV n, NV m] w fun e w' => e = .returned (.tuple #[WV (n / m), NV (n % m), .int .i64 0]) ∧ Below w.heap.size w w' := by
  have k := rDivide_1 _ _ _ _ _ _ _ _ _ _ _ _ w (W_D0 n) (W_D1 n) (W_D2 n) (W_D3 n) (W_D0 (D4 n)) (W_D1 (D4 n)) (W_D2 (D4 n)) (W_D3 (D4 n)) (W_D0 m) (W_D1 m) (W_D2 m) (W_D3 m) (by rw [V_In hm]; exact h)
  simp only [V_In hm, V_InW hn] at k
  exact k
theorem nrWiden (n : Int) (w : World) (hn : In n) : Calls Try.prog 44 #[NV n] w fun e w' => e = .returned (WV n) ∧ Below w.heap.size w w' := by
  rw [WV_In hn]; exact rWiden_any _ _ _ _ w (W_D0 n) (W_D1 n) (W_D2 n) (W_D3 n)
set_option maxRecDepth 100000 in
set_option maxHeartbeats 1000000 in
theorem rDivide_0 (a b c d e f g h : Int) (w : World) :
    Calls Try.prog 43 #[A8 a b c d e f g h, A4 0 0 0 0] w fun en w' => en = .returned (.tuple #[A8 0 0 0 0 0 0 0 0, A4 0 0 0 0, .int .i64 10]) ∧ Below w.heap.size w w' := by
  go_enter Try.func43, Try.ntmps43
  go_wp2
  refine bodyPost_ret (v := .tuple #[A8 0 0 0 0 0 0 0 0, A4 0 0 0 0, .int .i64 10]) (by simp [results, Try.results43, go_sem]) rfl ⟨rfl, ?_⟩
  repeat' (first | (with_reducible exact Below.refl _ _) | (with_reducible assumption) | (with_reducible refine below_drewN ?_ _) | (with_reducible refine Below.drew ?_) | (with_reducible refine Below.setCell ?_ ?_ _) | (with_reducible refine Below.alloc ?_ ?_ _) | go_size)
end Go.Proofs.Ytkpnjmfndgfogaa
/- Numbers modulo one: the reference's Reduce, Mul. -/
namespace Go.Proofs.Ytkpnjmfndgfogaa
open Go.RowKit
set_option linter.unusedVariables false
set_option linter.unusedSimpArgs false
set_option maxRecDepth 100000 in
set_option maxHeartbeats 4000000 in
theorem xReduce (n m : Int) (w : World) (hn : InW n) (hm : In m) (h : m ≠ 0) :
    Calls Try.prog 60 #[WV n, NV m] w fun e w' => e = .returned (.tuple #[NV (n % m), .int .i64 0]) ∧ Below w.heap.size w w' := by
  go_enter Try.func60, Try.ntmps60
  go_upto_region 1 with fail
  generalize hC : (((w.alloc (.cells (LW n : List Value).toArray 61)).alloc (.cells (LN m : List Value).toArray 25)).alloc (.cells (L0s : List Value).toArray 25)) = v0 at *
  have HB0 : Below w.heap.size w v0 := by rw [← hC]; exact balloc (balloc (balloc (bself w) _) _) _
  have K0 : Bk w.heap.size v0 [(true, w.heap.size, LW n), (true, w.heap.size + 1, LN m), (true, w.heap.size + 1 + 1, L0s)] := by rw [← hC]; exact (Bk.nil _ w).ad.ad.ad
  clear hC
  refine rgP K0 HB0 HB0.size [] [(7, 6, L0w, some (9, LW (n / m))), (8, 7, L0s, some (10, LN (n % m)))] [(0, 10, WV n), (1, 11, NV m), (2, 12, .tuple #[WV (n / m), NV (n % m), .int .i64 0]), (3, 9, .tuple #[WV (n / m), NV (n % m), .int .i64 0]), (4, 13, WV (n / m)), (5, 14, NV (n % m)), (6, 15, .int .i64 0), (11, 8, .int .i64 0)] [(9, 7), (10, 8)] [] [false, false, true, false] ?_ ?_
  · refine oc (g_ld 0 uW iW) ?_
    refine oc (g_ld 1 uN iN) ?_
    refine oc (g_cl ent_seneschalref01_Divide (fun uZ => nrDivide n m uZ hn hm h)) ?_
    refine oc g_mv ?_
    refine oc g_ex ?_
    refine oc g_ex ?_
    refine oc g_ex ?_
    refine oc (g_al 0 aW) ?_
    refine oc (g_al 1 aN) ?_
    refine oc (g_sn 0 iW) ?_
    refine oc (g_sn 1 iN) ?_
    exact oc g_as on
  intro u1 b1_7 b1_8 HB1 sz1 K1
  simp only [fX, nK, nP, Wr.f, aK, pM] at K1
  simp only [setG, setN, List.set_cons_zero, List.set_cons_succ]
  clear K0 HB0
  go_upto_region 4 with fail
  refine rgP K1 HB1 HB1.size [.all 1 (LN (n % m))] [] [(0, 19, NV (n % m)), (2, 5, (Go.Value.int Go.IntKind.i64 0))] [] [] [true, false] ?_ ?_
  · refine oc (g_ld 1 uN iN) ?_
    refine oc (g_st 0 iN) ?_
    exact oc g_as on
  intro u2 HB2 sz2 K2
  simp only [fX, nK, nP, Wr.f, aK, pM] at K2
  simp only [setG, setN, List.set_cons_zero, List.set_cons_succ]
  clear K1 HB1
  have c4_0 := ((K2.cv 0) 0 _ rfl).1
  have c4_1 := ((K2.cv 0) 1 _ rfl).1
  have c4_2 := ((K2.cv 0) 2 _ rfl).1
  have c4_3 := ((K2.cv 0) 3 _ rfl).1
  go_wp2
  refine bodyPost_ret (v := .tuple #[NV (n % m), .int .i64 0]) (by simp [results, Try.results60, go_sem, c4_0, c4_1, c4_2, c4_3]) rfl ⟨rfl, HB2⟩
set_option maxRecDepth 100000 in
set_option maxHeartbeats 4000000 in
theorem xMul (a b m : Int) (w : World) (ha : In a) (hb : In b) (hm : In m) (h : m ≠ 0) :
    Calls Try.prog 61 #[NV a, NV b, NV m] w fun e w' => e = .returned (.tuple #[NV (a * b % m), .int .i64 0]) ∧ Below w.heap.size w w' := by
  go_enter Try.func61, Try.ntmps61
  go_upto_region 1 with fail
  generalize hC : ((((w.alloc (.cells (LN a : List Value).toArray 25)).alloc (.cells (LN b : List Value).toArray 25)).alloc (.cells (LN m : List Value).toArray 25)).alloc (.cells (L0s : List Value).toArray 25)) = v0 at *
  have HB0 : Below w.heap.size w v0 := by rw [← hC]; exact balloc (balloc (balloc (balloc (bself w) _) _) _) _
  have K0 : Bk w.heap.size v0 [(true, w.heap.size, LN a), (true, w.heap.size + 1, LN b), (true, w.heap.size + 1 + 1, LN m), (true, w.heap.size + 1 + 1 + 1, L0s)] := by rw [← hC]; exact (Bk.nil _ w).ad.ad.ad.ad
  clear hC
  refine rgD K0 HB0 HB0.size [.no, .no, .no, .all 7 (LN (a * b % m))] [] [(0, 8, NV a), (1, 9, NV b), (2, 10, WV (a * b)), (3, 11, NV m), (4, 12, .tuple #[NV (a * b % m), .int .i64 0]), (5, 13, NV (a * b % m)), (6, 14, .int .i64 0), (8, 7, .int .i64 0)] [] [] [false, false, false] ?_ ?_
  · refine oc (g_ld 0 uN iN) ?_
    refine oc (g_ld 1 uN iN) ?_
    refine oc (g_cl ent_seneschalref01_Mul (fun uZ => nrMul a b uZ ha hb)) ?_
    refine oc (g_ld 2 uN iN) ?_
    refine oc (g_cl ent_seneschalref02_Reduce (fun uZ => xReduce (a * b) m uZ (In_mul ha hb) hm h)) ?_
    refine oc g_ex ?_
    refine oc g_ex ?_
    refine oc (g_st 3 iN) ?_
    exact oc g_as on
  intro u1 HB1 sz1 K1
  simp only [fX, nK, nP, Wr.f, aK, pM] at K1
  simp only [setG, setN, List.set_cons_zero, List.set_cons_succ]
  clear K0 HB0
  have c6_0 := ((K1.cv 0) 0 _ rfl).1
  have c6_1 := ((K1.cv 0) 1 _ rfl).1
  have c6_2 := ((K1.cv 0) 2 _ rfl).1
  have c6_3 := ((K1.cv 0) 3 _ rfl).1
  go_wp2
  refine bodyPost_ret (v := .tuple #[NV (a * b % m), .int .i64 0]) (by simp [results, Try.results61, go_sem, c6_0, c6_1, c6_2, c6_3]) rfl ⟨rfl, HB1⟩
theorem nrDivide0 (n : Int) (w : World) : Calls Try.prog 43 #[WV n, A4 0 0 0 0] w fun e w' => e = .returned (.tuple #[A8 0 0 0 0 0 0 0 0, A4 0 0 0 0, .int .i64 10]) ∧ Below w.heap.size w w' := rDivide_0 _ _ _ _ _ _ _ _ w
set_option maxRecDepth 100000 in
set_option maxHeartbeats 4000000 in
theorem xReduce0 (n : Int) (w : World) :
    Calls Try.prog 60 #[WV n, A4 0 0 0 0] w fun e w' => e = .returned (.tuple #[A4 0 0 0 0, .int .i64 20]) ∧ Below w.heap.size w w' := by
  go_enter Try.func60, Try.ntmps60
  go_upto_region 1 with fail
  generalize hC : (((w.alloc (.cells (LW n : List Value).toArray 61)).alloc (.cells ([.int .u64 (0), .int .u64 (0), .int .u64 (0), .int .u64 (0)] : List Value).toArray 25)).alloc (.cells (L0s : List Value).toArray 25)) = v0 at *
  have HB0 : Below w.heap.size w v0 := by rw [← hC]; exact balloc (balloc (balloc (bself w) _) _) _
  have K0 : Bk w.heap.size v0 [(true, w.heap.size, LW n), (true, w.heap.size + 1, [.int .u64 (0), .int .u64 (0), .int .u64 (0), .int .u64 (0)]), (true, w.heap.size + 1 + 1, L0s)] := by rw [← hC]; exact (Bk.nil _ w).ad.ad.ad
  clear hC
  refine rgP K0 HB0 HB0.size [] [(7, 6, L0w, some (9, [.int .u64 (0), .int .u64 (0), .int .u64 (0), .int .u64 (0), .int .u64 (0), .int .u64 (0), .int .u64 (0), .int .u64 (0)])), (8, 7, L0s, some (10, [.int .u64 (0), .int .u64 (0), .int .u64 (0), .int .u64 (0)]))] [(0, 10, WV n), (1, 11, .agg #[.int .u64 (0), .int .u64 (0), .int .u64 (0), .int .u64 (0)]), (2, 12, .tuple #[A8 (0) (0) (0) (0) (0) (0) (0) (0), A4 (0) (0) (0) (0), .int .i64 10]), (3, 9, .tuple #[A8 (0) (0) (0) (0) (0) (0) (0) (0), A4 (0) (0) (0) (0), .int .i64 10]), (4, 13, A8 (0) (0) (0) (0) (0) (0) (0) (0)), (5, 14, A4 (0) (0) (0) (0)), (6, 15, .int .i64 10), (11, 8, .int .i64 10)] [(9, 7), (10, 8)] [] [false, false, true, false, false] ?_ ?_
  · refine oc (g_ld 0 uW iW) ?_
    refine oc (g_ld 1 uN iN) ?_
    refine oc (g_cl ent_seneschalref01_Divide (fun uZ => nrDivide0 n uZ)) ?_
    refine oc g_mv ?_
    refine oc g_ex ?_
    refine oc g_ex ?_
    refine oc g_ex ?_
    refine oc (g_al 0 aW) ?_
    refine oc (g_al 1 aN) ?_
    refine oc (g_sn 0 iW) ?_
    refine oc (g_sn 1 iN) ?_
    exact oc g_as on
  intro u1 b1_7 b1_8 HB1 sz1 K1
  simp only [fX, nK, nP, Wr.f, aK, pM] at K1
  simp only [setG, setN, List.set_cons_zero, List.set_cons_succ]
  clear K0 HB0
  go_upto_region 3 with fail
  refine rgP K1 HB1 HB1.size [.all 1 ([.int .u64 (0), .int .u64 (0), .int .u64 (0), .int .u64 (0)])] [] [(0, 18, A4 (0) (0) (0) (0)), (2, 5, (Go.Value.int Go.IntKind.i64 20))] [] [] [] ?_ ?_
  · refine oc (g_bd zN) ?_
    refine oc (g_st 0 iN) ?_
    exact oc g_as on
  intro u2 HB2 sz2 K2
  simp only [fX, nK, nP, Wr.f, aK, pM] at K2
  simp only [setG, setN, List.set_cons_zero, List.set_cons_succ]
  clear K1 HB1
  have c4_0 := ((K2.cv 0) 0 _ rfl).1
  have c4_1 := ((K2.cv 0) 1 _ rfl).1
  have c4_2 := ((K2.cv 0) 2 _ rfl).1
  have c4_3 := ((K2.cv 0) 3 _ rfl).1
  go_wp2
  refine bodyPost_ret (v := .tuple #[A4 0 0 0 0, .int .i64 20]) (by simp [results, Try.results60, go_sem, c4_0, c4_1, c4_2, c4_3]) rfl ⟨rfl, HB2⟩
end Go.Proofs.Ytkpnjmfndgfogaa
