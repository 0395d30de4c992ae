import Derived.Test.YtkpnjmfndgfogaaRC
import Derived.Test.YtkpnjmfndgfogaaMA3r
import Derived.Test.YtkpnjmfndgfogaaRS
import Derived.Test.YtkpnjmfndgfogaaL0
/- The reference's Sub. -/
namespace Go.Proofs.Ytkpnjmfndgfogaa
open Go.RowKit
set_option linter.unusedVariables false
set_option linter.unusedSimpArgs false
theorem nrAdd_lt (a b : Int) (w : World) (ha : In a) (hb : In b) (h : a + b < 115792089237316195423570985008687907853269984665640564039457584007913129639936) : Calls Try.prog 49 #[NV a, NV b] w fun e w' => e = .returned (.tuple #[NV (a + b), .bool false]) ∧ Below w.heap.size w w' := by
  have e : ovB a b = false := by unfold ovB; simp; omega
  have k := nrAdd a b w ha hb
  rw [e] at k; exact k
theorem nrAdd_ge (a b : Int) (w : World) (ha : In a) (hb : In b) (h : 115792089237316195423570985008687907853269984665640564039457584007913129639936 ≤ a + b) : Calls Try.prog 49 #[NV a, NV b] w fun e w' => e = .returned (.tuple #[NV (a + b - 115792089237316195423570985008687907853269984665640564039457584007913129639936), .bool true]) ∧ Below w.heap.size w w' := by
  have e : ovB a b = true := by unfold ovB; simp; omega
  have k := nrAdd a b w ha hb
  rw [e] at k; rw [NV_less]; exact k
theorem nrSub_ge (a b : Int) (w : World) (ha : In a) (hb : In b) (h : b ≤ a) : Calls Try.prog 50 #[NV a, NV b] w fun e w' => e = .returned (.tuple #[NV (a - b), .bool false]) ∧ Below w.heap.size w w' := by
  have e : ltB a b = false := by unfold ltB; simp; omega
  have k := nrSub a b w ha hb
  rw [e] at k; exact k
theorem nrSub_lt (a b : Int) (w : World) (ha : In a) (hb : In b) (h : a < b) : Calls Try.prog 50 #[NV a, NV b] w fun e w' => e = .returned (.tuple #[NV (a - b + 115792089237316195423570985008687907853269984665640564039457584007913129639936), .bool true]) ∧ Below w.heap.size w w' := by
  have e : ltB a b = true := by unfold ltB; simp; omega
  have k := nrSub a b w ha hb
  rw [e] at k; rw [NV_more]; exact k
set_option maxRecDepth 100000 in
set_option maxHeartbeats 2000000 in
theorem xSub (a b m : Int) (w : World) (ha : In a) (hb : In b) (hm : In m) (h : m ≠ 0) : Calls Try.prog 62 #[NV a, NV b, NV m] w fun e w' => e = .returned (.tuple #[NV ((a - b) % m), .int .i64 0]) ∧ Below w.heap.size w w' := by
  have hm0 := hm.1; have hm2 := hm.2
  obtain ⟨x, hx⟩ : ∃ x, a % m = x := ⟨_, rfl⟩
  obtain ⟨y, hy⟩ : ∃ y, b % m = y := ⟨_, rfl⟩
  obtain ⟨r, hr0⟩ : ∃ r, (a - b) % m = r := ⟨_, rfl⟩
  have x0 := Int.emod_nonneg a h; have x1 := Int.emod_lt_of_pos a (show 0 < m by omega)
  have y0 := Int.emod_nonneg b h; have y1 := Int.emod_lt_of_pos b (show 0 < m by omega)
  rw [hx] at x0 x1; rw [hy] at y0 y1
  have ix : In x := ⟨by omega, by omega⟩
  have iy : In y := ⟨by omega, by omega⟩
  have hX : Hid (∀ u, Calls Try.prog 60 #[WV a, NV m] u fun e u' => e = .returned (.tuple #[NV x, .int .i64 0]) ∧ Below u.heap.size u u') := fun u => by rw [← hx]; exact xReduce a m u ha.wide hm h
  have hY : Hid (∀ u, Calls Try.prog 60 #[WV b, NV m] u fun e u' => e = .returned (.tuple #[NV y, .int .i64 0]) ∧ Below u.heap.size u u') := fun u => by rw [← hy]; exact xReduce b m u hb.wide hm h
  have hr : Hid (r = if x < y then x - y + m else x - y) := by
    show r = _
    rw [← hr0, Int.sub_emod, hx, hy]
    split
    · rw [← Int.add_emod_right (x - y) m, Int.emod_eq_of_lt (by omega) (by omega)]
    · exact Int.emod_eq_of_lt (by omega) (by omega)
  rw [hr0]
  clear hx hy hr0
  go_enter Try.func62, Try.ntmps62
  go_upto_region 1 with fail
  generalize hC : ((((w.alloc (.cells (LN a : List Value).toArray 25)).alloc (.cells (LN b : List Value).toArray 25)).alloc (.cells (LN m : List Value).toArray 25)).alloc (.cells (L0s : List Value).toArray 25)) = v0 at *
  have HB0 : Below w.heap.size w v0 := by rw [← hC]; exact balloc (balloc (balloc (balloc (bself w) _) _) _) _
  have K0 : Bk w.heap.size v0 [(true, w.heap.size, LN a), (true, w.heap.size + 1, LN b), (true, w.heap.size + 1 + 1, LN m), (true, w.heap.size + 1 + 1 + 1, L0s)] := by rw [← hC]; exact (Bk.nil _ w).ad.ad.ad.ad
  clear hC
  refine rgD K0 HB0 HB0.size [] [(7, 8, L0s, some (8, LN x))] [(0, 15, NV a), (1, 16, WV a), (2, 17, NV m), (3, 18, .tuple #[NV x, .int .i64 0]), (4, 14, .tuple #[NV x, .int .i64 0]), (5, 19, NV x), (6, 20, .int .i64 0), (9, 9, .int .i64 0)] [(8, 7)] [] [false] ?_ ?_
  · refine oc (g_ld 0 uN iN) ?_
    refine oc (g_cl ent_seneschalref01_Widen (fun uZ => nrWiden a uZ ha)) ?_
    refine oc (g_ld 2 uN iN) ?_
    refine oc (g_cl ent_seneschalref02_Reduce (fun uZ => hX.out uZ)) ?_
    refine oc g_mv ?_
    refine oc g_ex ?_
    refine oc g_ex ?_
    refine oc (g_al 0 aN) ?_
    refine oc (g_sn 0 iN) ?_
    exact oc g_as on
  intro u1 b1_7 HB1 sz1 K1
  simp only [fX, nK, nP, Wr.f, aK, pM] at K1
  simp only [setG, setN, List.set_cons_zero, List.set_cons_succ]
  clear K0 HB0
  go_upto_region 4 with fail
  refine rgD K1 HB1 HB1.size [] [(7, 10, L0s, some (8, LN y))] [(0, 26, NV b), (1, 27, WV b), (2, 28, NV m), (3, 29, .tuple #[NV y, .int .i64 0]), (4, 25, .tuple #[NV y, .int .i64 0]), (5, 30, NV y), (6, 31, .int .i64 0), (9, 11, .int .i64 0)] [(8, 7)] [] [false] ?_ ?_
  · refine oc (g_ld 0 uN iN) ?_
    refine oc (g_cl ent_seneschalref01_Widen (fun uZ => nrWiden b uZ hb)) ?_
    refine oc (g_ld 1 uN iN) ?_
    refine oc (g_cl ent_seneschalref02_Reduce (fun uZ => hY.out uZ)) ?_
    refine oc g_mv ?_
    refine oc g_ex ?_
    refine oc g_ex ?_
    refine oc (g_al 0 aN) ?_
    refine oc (g_sn 0 iN) ?_
    exact oc g_as on
  intro u2 b2_7 HB2 sz2 K2
  simp only [fX, nK, nP, Wr.f, aK, pM] at K2
  simp only [setG, setN, List.set_cons_zero, List.set_cons_succ]
  clear K1 HB1
  by_cases hc : x < y
  · have hi : In (x - y + 115792089237316195423570985008687907853269984665640564039457584007913129639936) := ⟨by omega, by omega⟩
    obtain ⟨z, hz1⟩ : ∃ z, x - y + 115792089237316195423570985008687907853269984665640564039457584007913129639936 = z := ⟨_, rfl⟩
    have h1 : Hid (∀ u, Calls Try.prog 50 #[NV x, NV y] u fun e u' => e = .returned (.tuple #[NV z, .bool true]) ∧ Below u.heap.size u u') := fun u => by rw [← hz1]; exact nrSub_lt x y u ix iy hc
    have h2 : Hid (∀ u, Calls Try.prog 49 #[NV z, NV m] u fun e u' => e = .returned (.tuple #[NV r, .bool true]) ∧ Below u.heap.size u u') := fun u => by
      have k := nrAdd_ge z m u (by rw [← hz1]; exact hi) hm (by omega)
      rw [hr.out, if_pos hc, show x - y + m = z + m - 115792089237316195423570985008687907853269984665640564039457584007913129639936 by omega]; exact k
    clear hi hz1 hc hr
    go_upto_region 5 with fail
    refine rgP K2 HB2 HB2.size [] [(6, 12, L0s, some (7, LN z))] [(0, 33, NV x), (1, 34, NV y), (2, 35, .tuple #[NV z, .bool true]), (3, 32, .tuple #[NV z, .bool true]), (4, 36, NV z), (5, 37, .bool true), (8, 13, .bool true)] [(7, 6)] [] [true, true, false, false] ?_ ?_
    · refine oc (g_ld 2 uN iN) ?_
      refine oc (g_ld 3 uN iN) ?_
      refine oc (g_cl ent_seneschalref01_Sub (fun uZ => h1.out uZ)) ?_
      refine oc g_mv ?_
      refine oc g_ex ?_
      refine oc g_ex ?_
      refine oc (g_al 0 aN) ?_
      refine oc (g_sn 0 iN) ?_
      exact oc g_as on
    intro u3 b3_6 HB3 sz3 K3
    simp only [fX, nK, nP, Wr.f, aK, pM] at K3
    simp only [setG, setN, List.set_cons_zero, List.set_cons_succ]
    clear K2 HB2
    go_upto_region 7 with fail
    refine rgP K3 HB3 HB3.size [.no, .no, .all 6 (LN r)] [] [(0, 40, NV z), (1, 41, NV m), (2, 42, .tuple #[NV r, .bool true]), (3, 39, .tuple #[NV r, .bool true]), (4, 43, NV r), (5, 44, .bool true)] [(6, 0)] [] [false] ?_ ?_
    · refine oc (g_ld 2 uN iN) ?_
      refine oc (g_ld 0 uN iN) ?_
      refine oc (g_cl ent_seneschalref01_Add (fun uZ => h2.out uZ)) ?_
      refine oc g_mv ?_
      refine oc g_ex ?_
      refine oc g_ex ?_
      exact oc (g_st 2 iN) on
    intro u4 HB4 sz4 K4
    simp only [fX, nK, nP, Wr.f, aK, pM] at K4
    simp only [setG, setN, List.set_cons_zero, List.set_cons_succ]
    clear K3 HB3
    go_upto_region 8 with fail
    refine rgP K4 HB4 HB4.size [.all 1 (LN r)] [] [(0, 45, NV r), (2, 7, (Go.Value.int Go.IntKind.i64 0))] [] [] [true, false] ?_ ?_
    · refine oc (g_ld 1 uN iN) ?_
      refine oc (g_st 0 iN) ?_
      exact oc g_as on
    intro u5 HB5 sz5 K5
    simp only [fX, nK, nP, Wr.f, aK, pM] at K5
    simp only [setG, setN, List.set_cons_zero, List.set_cons_succ]
    clear K4 HB4
    have c6_0 := ((K5.cv 0) 0 _ rfl).1
    have c6_1 := ((K5.cv 0) 1 _ rfl).1
    have c6_2 := ((K5.cv 0) 2 _ rfl).1
    have c6_3 := ((K5.cv 0) 3 _ rfl).1
    go_wp2
    refine bodyPost_ret (v := .tuple #[NV r, .int .i64 0]) (by simp [results, Try.results62, go_sem, c6_0, c6_1, c6_2, c6_3]) rfl ⟨rfl, HB5⟩
  · have h1 : Hid (∀ u, Calls Try.prog 50 #[NV x, NV y] u fun e u' => e = .returned (.tuple #[NV r, .bool false]) ∧ Below u.heap.size u u') := fun u => by rw [hr.out, if_neg hc]; exact nrSub_ge x y u ix iy (by omega)
    clear hr hc
    go_upto_region 5 with fail
    refine rgP K2 HB2 HB2.size [] [(6, 12, L0s, some (7, LN r))] [(0, 33, NV x), (1, 34, NV y), (2, 35, .tuple #[NV r, .bool false]), (3, 32, .tuple #[NV r, .bool false]), (4, 36, NV r), (5, 37, .bool false), (8, 13, .bool false)] [(7, 6)] [] [false, true, false, false] ?_ ?_
    · refine oc (g_ld 2 uN iN) ?_
      refine oc (g_ld 3 uN iN) ?_
      refine oc (g_cl ent_seneschalref01_Sub (fun uZ => h1.out uZ)) ?_
      refine oc g_mv ?_
      refine oc g_ex ?_
      refine oc g_ex ?_
      refine oc (g_al 0 aN) ?_
      refine oc (g_sn 0 iN) ?_
      exact oc g_as on
    intro u3 b3_6 HB3 sz3 K3
    simp only [fX, nK, nP, Wr.f, aK, pM] at K3
    simp only [setG, setN, List.set_cons_zero, List.set_cons_succ]
    clear K2 HB2
    go_upto_region 8 with fail
    refine rgP K3 HB3 HB3.size [.all 1 (LN r)] [] [(0, 45, NV r), (2, 7, (Go.Value.int Go.IntKind.i64 0))] [] [] [true, false] ?_ ?_
    · refine oc (g_ld 1 uN iN) ?_
      refine oc (g_st 0 iN) ?_
      exact oc g_as on
    intro u4 HB4 sz4 K4
    simp only [fX, nK, nP, Wr.f, aK, pM] at K4
    simp only [setG, setN, List.set_cons_zero, List.set_cons_succ]
    clear K3 HB3
    have c6_0 := ((K4.cv 0) 0 _ rfl).1
    have c6_1 := ((K4.cv 0) 1 _ rfl).1
    have c6_2 := ((K4.cv 0) 2 _ rfl).1
    have c6_3 := ((K4.cv 0) 3 _ rfl).1
    go_wp2
    refine bodyPost_ret (v := .tuple #[NV r, .int .i64 0]) (by simp [results, Try.results62, go_sem, c6_0, c6_1, c6_2, c6_3]) rfl ⟨rfl, HB4⟩
end Go.Proofs.Ytkpnjmfndgfogaa

/- The reference's Add; refusals. -/
namespace Go.Proofs.Ytkpnjmfndgfogaa
open Go.RowKit
set_option linter.unusedVariables false
set_option linter.unusedSimpArgs false
set_option maxRecDepth 100000 in
set_option maxHeartbeats 2000000 in
theorem xaddG_lt (a b m0 m1 m2 m3 r0 r1 r2 r3 ec : Int) (w : World) (ha : In a) (hb : In b) (hR : Hid (∀ u, Calls Try.prog 60 #[WV (a + b), A4 m0 m1 m2 m3] u fun e u' => e = .returned (.tuple #[A4 r0 r1 r2 r3, .int .i64 ec]) ∧ Below u.heap.size u u')) (hl : a + b < 115792089237316195423570985008687907853269984665640564039457584007913129639936) : Calls Try.prog 67 #[NV a, NV b, A4 m0 m1 m2 m3] w fun e w' => e = .returned (.tuple #[A4 (r0) (r1) (r2) (r3), .int .i64 ec]) ∧ Below w.heap.size w w' := by
  have hi : In (a + b) := ⟨by have := ha.1; have := hb.1; omega, hl⟩
  go_enter Try.func67, Try.ntmps67
  go_upto_region 1 with fail
  generalize hC : ((((w.alloc (.cells (LN a : List Value).toArray 25)).alloc (.cells (LN b : List Value).toArray 25)).alloc (.cells ([.int .u64 (m0), .int .u64 (m1), .int .u64 (m2), .int .u64 (m3)] : List Value).toArray 25)).alloc (.cells (L0s : List Value).toArray 25)) = v0 at *
  have HB0 : Below w.heap.size w v0 := by rw [← hC]; exact balloc (balloc (balloc (balloc (bself w) _) _) _) _
  have K0 : Bk w.heap.size v0 [(true, w.heap.size, LN a), (true, w.heap.size + 1, LN b), (true, w.heap.size + 1 + 1, [.int .u64 (m0), .int .u64 (m1), .int .u64 (m2), .int .u64 (m3)]), (true, w.heap.size + 1 + 1 + 1, L0s)] := by rw [← hC]; exact (Bk.nil _ w).ad.ad.ad.ad
  clear hC
  refine rgP K0 HB0 HB0.size [] [(6, 8, L0s, some (7, LN (a + b)))] [(0, 12, NV a), (1, 13, NV b), (2, 14, .tuple #[NV (a + b), .bool false]), (3, 11, .tuple #[NV (a + b), .bool false]), (4, 15, NV (a + b)), (5, 16, .bool false), (8, 9, .bool false)] [(7, 6)] [] [false, false] ?_ ?_
  · refine oc (g_ld 0 uN iN) ?_
    refine oc (g_ld 1 uN iN) ?_
    refine oc (g_cl ent_seneschalref01_Add (fun uZ => nrAdd_lt a b uZ ha hb hl)) ?_
    refine oc g_mv ?_
    refine oc g_ex ?_
    refine oc g_ex ?_
    refine oc (g_al 0 aN) ?_
    refine oc (g_sn 0 iN) ?_
    exact oc g_as on
  intro u1 b1_6 HB1 sz1 K1
  simp only [fX, nK, nP, Wr.f, aK, pM] at K1
  simp only [setG, setN, List.set_cons_zero, List.set_cons_succ]
  clear K0 HB0
  go_upto_region 2 with fail
  refine rgP K1 HB1 HB1.size [] [(2, 10, L0w, some (3, LW (a + b)))] [(0, 17, NV (a + b)), (1, 18, WV (a + b))] [(3, 2)] [] [true, true, false] ?_ ?_
  · refine oc (g_ld 2 uN iN) ?_
    refine oc (g_cl ent_seneschalref01_Widen (fun uZ => nrWiden (a + b) uZ hi)) ?_
    refine oc (g_al 0 aW) ?_
    exact oc (g_sn 0 iW) on
  intro u2 b2_2 HB2 sz2 K2
  simp only [fX, nK, nP, Wr.f, aK, pM] at K2
  simp only [setG, setN, List.set_cons_zero, List.set_cons_succ]
  clear K1 HB1
  go_upto_region 5 with fail
  refine rgP K2 HB2 HB2.size [.no, .all 5 ([.int .u64 (r0), .int .u64 (r1), .int .u64 (r2), .int .u64 (r3)])] [] [(0, 21, WV (a + b)), (1, 22, .agg #[.int .u64 (m0), .int .u64 (m1), .int .u64 (m2), .int .u64 (m3)]), (2, 23, .tuple #[A4 (r0) (r1) (r2) (r3), .int .i64 ec]), (3, 24, A4 (r0) (r1) (r2) (r3)), (4, 25, .int .i64 ec), (6, 7, .int .i64 ec)] [] [] [false, true, false] ?_ ?_
  · refine oc (g_ld 2 uW iW) ?_
    refine oc (g_ld 0 uN iN) ?_
    refine oc (g_cl ent_seneschalref02_Reduce (fun uZ => hR.out uZ)) ?_
    refine oc g_ex ?_
    refine oc g_ex ?_
    refine oc (g_st 1 iN) ?_
    exact oc g_as on
  intro u3 HB3 sz3 K3
  simp only [fX, nK, nP, Wr.f, aK, pM] at K3
  simp only [setG, setN, List.set_cons_zero, List.set_cons_succ]
  clear K2 HB2
  have c6_0 := ((K3.cv 0) 0 _ rfl).1
  have c6_1 := ((K3.cv 0) 1 _ rfl).1
  have c6_2 := ((K3.cv 0) 2 _ rfl).1
  have c6_3 := ((K3.cv 0) 3 _ rfl).1
  go_wp2
  refine bodyPost_ret (v := .tuple #[A4 (r0) (r1) (r2) (r3), .int .i64 ec]) (by simp [results, Try.results67, go_sem, c6_0, c6_1, c6_2, c6_3]) rfl ⟨rfl, HB3⟩
set_option maxRecDepth 100000 in
set_option maxHeartbeats 2000000 in
theorem xaddG_ge (a b m0 m1 m2 m3 r0 r1 r2 r3 ec : Int) (w : World) (ha : In a) (hb : In b) (hR : Hid (∀ u, Calls Try.prog 60 #[WV (a + b), A4 m0 m1 m2 m3] u fun e u' => e = .returned (.tuple #[A4 r0 r1 r2 r3, .int .i64 ec]) ∧ Below u.heap.size u u')) (hl : 115792089237316195423570985008687907853269984665640564039457584007913129639936 ≤ a + b) : Calls Try.prog 67 #[NV a, NV b, A4 m0 m1 m2 m3] w fun e w' => e = .returned (.tuple #[A4 (r0) (r1) (r2) (r3), .int .i64 ec]) ∧ Below w.heap.size w w' := by
  have ha2 := ha.2; have hb2 := hb.2
  obtain ⟨s, hs⟩ : ∃ s, a + b - 115792089237316195423570985008687907853269984665640564039457584007913129639936 = s := ⟨_, rfl⟩
  have hA : WV (a + b) = A8 (D0 s) (D1 s) (D2 s) (D3 s) 1 0 0 0 := WV_of (a + b) (D0 s) (D1 s) (D2 s) (D3 s) 1 0 0 0 (W_D0 s) (W_D1 s) (W_D2 s) (W_D3 s) ⟨by omega, by omega⟩ W_0 W_0 W_0 (by rw [V_In ⟨by omega, by omega⟩]; simp [V]; omega)
  rw [hA] at hR
  have nA : Hid (∀ u, Calls Try.prog 49 #[NV a, NV b] u fun e u' => e = .returned (.tuple #[NV s, .bool true]) ∧ Below u.heap.size u u') := fun u => by rw [← hs]; exact nrAdd_ge a b u ha hb hl
  clear hs hA ha2 hb2
  go_enter Try.func67, Try.ntmps67
  go_upto_region 1 with fail
  generalize hC : ((((w.alloc (.cells (LN a : List Value).toArray 25)).alloc (.cells (LN b : List Value).toArray 25)).alloc (.cells ([.int .u64 (m0), .int .u64 (m1), .int .u64 (m2), .int .u64 (m3)] : List Value).toArray 25)).alloc (.cells (L0s : List Value).toArray 25)) = v0 at *
  have HB0 : Below w.heap.size w v0 := by rw [← hC]; exact balloc (balloc (balloc (balloc (bself w) _) _) _) _
  have K0 : Bk w.heap.size v0 [(true, w.heap.size, LN a), (true, w.heap.size + 1, LN b), (true, w.heap.size + 1 + 1, [.int .u64 (m0), .int .u64 (m1), .int .u64 (m2), .int .u64 (m3)]), (true, w.heap.size + 1 + 1 + 1, L0s)] := by rw [← hC]; exact (Bk.nil _ w).ad.ad.ad.ad
  clear hC
  refine rgP K0 HB0 HB0.size [] [(6, 8, L0s, some (7, LN s))] [(0, 12, NV a), (1, 13, NV b), (2, 14, .tuple #[NV s, .bool true]), (3, 11, .tuple #[NV s, .bool true]), (4, 15, NV s), (5, 16, .bool true), (8, 9, .bool true)] [(7, 6)] [] [false, false] ?_ ?_
  · refine oc (g_ld 0 uN iN) ?_
    refine oc (g_ld 1 uN iN) ?_
    refine oc (g_cl ent_seneschalref01_Add (fun uZ => nA.out uZ)) ?_
    refine oc g_mv ?_
    refine oc g_ex ?_
    refine oc g_ex ?_
    refine oc (g_al 0 aN) ?_
    refine oc (g_sn 0 iN) ?_
    exact oc g_as on
  intro u1 b1_6 HB1 sz1 K1
  simp only [fX, nK, nP, Wr.f, aK, pM] at K1
  simp only [setG, setN, List.set_cons_zero, List.set_cons_succ]
  clear K0 HB0
  go_upto_region 2 with fail
  refine rgP K1 HB1 HB1.size [] [(2, 10, L0w, some (3, [.int .u64 (D0 (s)), .int .u64 (D1 (s)), .int .u64 (D2 (s)), .int .u64 (D3 (s)), .int .u64 (0), .int .u64 (0), .int .u64 (0), .int .u64 (0)]))] [(0, 17, NV s), (1, 18, A8 (D0 (s)) (D1 (s)) (D2 (s)) (D3 (s)) (0) (0) (0) (0))] [(3, 2)] [] [true, true, false] ?_ ?_
  · refine oc (g_ld 2 uN iN) ?_
    refine oc (g_cl ent_seneschalref01_Widen (fun uZ => rWiden_any (D0 s) (D1 s) (D2 s) (D3 s) uZ (W_D0 s) (W_D1 s) (W_D2 s) (W_D3 s))) ?_
    refine oc (g_al 0 aW) ?_
    exact oc (g_sn 0 iW) on
  intro u2 b2_2 HB2 sz2 K2
  simp only [fX, nK, nP, Wr.f, aK, pM] at K2
  simp only [setG, setN, List.set_cons_zero, List.set_cons_succ]
  clear K1 HB1
  go_upto_region 4 with fail
  refine rgP K2 HB2 HB2.size [.no, .no, .cs [(4, 1, (Go.Value.int Go.IntKind.u64 1))]] [] [(0, 20, .pointer (some ⟨b2_2, 4, none⟩))] [] [] [] ?_ ?_
  · refine oc (g_ix (jW 4)) ?_
    exact oc (g_sc 2 0 sU) on
  intro u3 HB3 sz3 K3
  simp only [fX, nK, nP, Wr.f, aK, pM, List.foldl, List.set_cons_zero, List.set_cons_succ] at K3
  simp only [setG, setN, List.set_cons_zero, List.set_cons_succ]
  clear K2 HB2
  go_upto_region 5 with fail
  refine rgP K3 HB3 HB3.size [.no, .all 5 ([.int .u64 (r0), .int .u64 (r1), .int .u64 (r2), .int .u64 (r3)])] [] [(0, 21, .agg #[.int .u64 (D0 (s)), .int .u64 (D1 (s)), .int .u64 (D2 (s)), .int .u64 (D3 (s)), (Go.Value.int Go.IntKind.u64 1), .int .u64 (0), .int .u64 (0), .int .u64 (0)]), (1, 22, .agg #[.int .u64 (m0), .int .u64 (m1), .int .u64 (m2), .int .u64 (m3)]), (2, 23, .tuple #[A4 (r0) (r1) (r2) (r3), .int .i64 ec]), (3, 24, A4 (r0) (r1) (r2) (r3)), (4, 25, .int .i64 ec), (6, 7, .int .i64 ec)] [] [] [false, true, false] ?_ ?_
  · refine oc (g_ld 2 uW iW) ?_
    refine oc (g_ld 0 uN iN) ?_
    refine oc (g_cl ent_seneschalref02_Reduce (fun uZ => hR.out uZ)) ?_
    refine oc g_ex ?_
    refine oc g_ex ?_
    refine oc (g_st 1 iN) ?_
    exact oc g_as on
  intro u4 HB4 sz4 K4
  simp only [fX, nK, nP, Wr.f, aK, pM] at K4
  simp only [setG, setN, List.set_cons_zero, List.set_cons_succ]
  clear K3 HB3
  have c6_0 := ((K4.cv 0) 0 _ rfl).1
  have c6_1 := ((K4.cv 0) 1 _ rfl).1
  have c6_2 := ((K4.cv 0) 2 _ rfl).1
  have c6_3 := ((K4.cv 0) 3 _ rfl).1
  go_wp2
  refine bodyPost_ret (v := .tuple #[A4 (r0) (r1) (r2) (r3), .int .i64 ec]) (by simp [results, Try.results67, go_sem, c6_0, c6_1, c6_2, c6_3]) rfl ⟨rfl, HB4⟩
theorem xaddG (a b m0 m1 m2 m3 r0 r1 r2 r3 ec : Int) (w : World) (ha : In a) (hb : In b) (hR : Hid (∀ u, Calls Try.prog 60 #[WV (a + b), A4 m0 m1 m2 m3] u fun e u' => e = .returned (.tuple #[A4 r0 r1 r2 r3, .int .i64 ec]) ∧ Below u.heap.size u u')) : Calls Try.prog 67 #[NV a, NV b, A4 m0 m1 m2 m3] w fun e w' => e = .returned (.tuple #[A4 (r0) (r1) (r2) (r3), .int .i64 ec]) ∧ Below w.heap.size w w' := by
  by_cases hl : a + b < 115792089237316195423570985008687907853269984665640564039457584007913129639936
  · exact xaddG_lt a b m0 m1 m2 m3 r0 r1 r2 r3 ec w ha hb hR hl
  · exact xaddG_ge a b m0 m1 m2 m3 r0 r1 r2 r3 ec w ha hb hR (by omega)
theorem xAdd (a b m : Int) (w : World) (ha : In a) (hb : In b) (hm : In m) (h : m ≠ 0) : Calls Try.prog 67 #[NV a, NV b, NV m] w fun e w' => e = .returned (.tuple #[NV ((a + b) % m), .int .i64 0]) ∧ Below w.heap.size w w' :=
  xaddG a b _ _ _ _ _ _ _ _ 0 w ha hb (fun u => xReduce (a + b) m u ⟨by have := ha.1; have := hb.1; omega, by have := ha.2; have := hb.2; omega⟩ hm h)
theorem xAdd0 (a b : Int) (w : World) (ha : In a) (hb : In b) : Calls Try.prog 67 #[NV a, NV b, A4 0 0 0 0] w fun e w' => e = .returned (.tuple #[A4 0 0 0 0, .int .i64 20]) ∧ Below w.heap.size w w' :=
  xaddG a b 0 0 0 0 0 0 0 0 20 w ha hb (fun u => xReduce0 (a + b) u)
set_option maxRecDepth 100000 in
set_option maxHeartbeats 2000000 in
theorem xSub0 (a b : Int) (w : World) (ha : In a) : Calls Try.prog 62 #[NV a, NV b, A4 0 0 0 0] w fun e w' => e = .returned (.tuple #[A4 0 0 0 0, .int .i64 20]) ∧ Below w.heap.size w w' := by
  go_enter Try.func62, Try.ntmps62
  go_upto_region 1 with fail
  generalize hC : ((((w.alloc (.cells (LN a : List Value).toArray 25)).alloc (.cells (LN b : List Value).toArray 25)).alloc (.cells ([.int .u64 (0), .int .u64 (0), .int .u64 (0), .int .u64 (0)] : List Value).toArray 25)).alloc (.cells (L0s : List Value).toArray 25)) = v0 at *
  have HB0 : Below w.heap.size w v0 := by rw [← hC]; exact balloc (balloc (balloc (balloc (bself w) _) _) _) _
  have K0 : Bk w.heap.size v0 [(true, w.heap.size, LN a), (true, w.heap.size + 1, LN b), (true, w.heap.size + 1 + 1, [.int .u64 (0), .int .u64 (0), .int .u64 (0), .int .u64 (0)]), (true, w.heap.size + 1 + 1 + 1, L0s)] := by rw [← hC]; exact (Bk.nil _ w).ad.ad.ad.ad
  clear hC
  refine rgD K0 HB0 HB0.size [] [(7, 8, L0s, some (8, [.int .u64 (0), .int .u64 (0), .int .u64 (0), .int .u64 (0)]))] [(0, 15, NV a), (1, 16, WV a), (2, 17, .agg #[.int .u64 (0), .int .u64 (0), .int .u64 (0), .int .u64 (0)]), (3, 18, .tuple #[A4 (0) (0) (0) (0), .int .i64 20]), (4, 14, .tuple #[A4 (0) (0) (0) (0), .int .i64 20]), (5, 19, A4 (0) (0) (0) (0)), (6, 20, .int .i64 20), (9, 9, .int .i64 20)] [(8, 7)] [] [false, false, false, true, false] ?_ ?_
  · refine oc (g_ld 0 uN iN) ?_
    refine oc (g_cl ent_seneschalref01_Widen (fun uZ => nrWiden a uZ ha)) ?_
    refine oc (g_ld 2 uN iN) ?_
    refine oc (g_cl ent_seneschalref02_Reduce (fun uZ => xReduce0 a uZ)) ?_
    refine oc g_mv ?_
    refine oc g_ex ?_
    refine oc g_ex ?_
    refine oc (g_al 0 aN) ?_
    refine oc (g_sn 0 iN) ?_
    exact oc g_as on
  intro u1 b1_7 HB1 sz1 K1
  simp only [fX, nK, nP, Wr.f, aK, pM] at K1
  simp only [setG, setN, List.set_cons_zero, List.set_cons_succ]
  clear K0 HB0
  go_upto_region 3 with fail
  refine rgP K1 HB1 HB1.size [.all 2 ([.int .u64 (0), .int .u64 (0), .int .u64 (0), .int .u64 (0)])] [] [(0, 23, A4 (0) (0) (0) (0)), (1, 24, .int .i64 20), (3, 7, .int .i64 20)] [] [] [] ?_ ?_
  · refine oc (g_bd zN) ?_
    refine oc g_mv ?_
    refine oc (g_st 0 iN) ?_
    exact oc g_as on
  intro u2 HB2 sz2 K2
  simp only [fX, nK, nP, Wr.f, aK, pM] at K2
  simp only [setG, setN, List.set_cons_zero, List.set_cons_succ]
  clear K1 HB1
  have c6_0 := ((K2.cv 0) 0 _ rfl).1
  have c6_1 := ((K2.cv 0) 1 _ rfl).1
  have c6_2 := ((K2.cv 0) 2 _ rfl).1
  have c6_3 := ((K2.cv 0) 3 _ rfl).1
  go_wp2
  refine bodyPost_ret (v := .tuple #[A4 0 0 0 0, .int .i64 20]) (by simp [results, Try.results62, go_sem, c6_0, c6_1, c6_2, c6_3]) rfl ⟨rfl, HB2⟩
set_option maxRecDepth 100000 in
set_option maxHeartbeats 2000000 in
theorem xMul0 (a b : Int) (w : World) (ha : In a) (hb : In b) : Calls Try.prog 61 #[NV a, NV b, A4 0 0 0 0] w fun e w' => e = .returned (.tuple #[A4 0 0 0 0, .int .i64 20]) ∧ Below w.heap.size w w' := by
  go_enter Try.func61, Try.ntmps61
  go_upto_region 1 with fail
  generalize hC : ((((w.alloc (.cells (LN a : List Value).toArray 25)).alloc (.cells (LN b : List Value).toArray 25)).alloc (.cells ([.int .u64 (0), .int .u64 (0), .int .u64 (0), .int .u64 (0)] : List Value).toArray 25)).alloc (.cells (L0s : List Value).toArray 25)) = v0 at *
  have HB0 : Below w.heap.size w v0 := by rw [← hC]; exact balloc (balloc (balloc (balloc (bself w) _) _) _) _
  have K0 : Bk w.heap.size v0 [(true, w.heap.size, LN a), (true, w.heap.size + 1, LN b), (true, w.heap.size + 1 + 1, [.int .u64 (0), .int .u64 (0), .int .u64 (0), .int .u64 (0)]), (true, w.heap.size + 1 + 1 + 1, L0s)] := by rw [← hC]; exact (Bk.nil _ w).ad.ad.ad.ad
  clear hC
  refine rgD K0 HB0 HB0.size [.no, .no, .no, .all 7 ([.int .u64 (0), .int .u64 (0), .int .u64 (0), .int .u64 (0)])] [] [(0, 8, NV a), (1, 9, NV b), (2, 10, WV (a * b)), (3, 11, .agg #[.int .u64 (0), .int .u64 (0), .int .u64 (0), .int .u64 (0)]), (4, 12, .tuple #[A4 (0) (0) (0) (0), .int .i64 20]), (5, 13, A4 (0) (0) (0) (0)), (6, 14, .int .i64 20), (8, 7, .int .i64 20)] [] [] [false, false, false] ?_ ?_
  · refine oc (g_ld 0 uN iN) ?_
    refine oc (g_ld 1 uN iN) ?_
    refine oc (g_cl ent_seneschalref01_Mul (fun uZ => nrMul a b uZ ha hb)) ?_
    refine oc (g_ld 2 uN iN) ?_
    refine oc (g_cl ent_seneschalref02_Reduce (fun uZ => xReduce0 (a * b) uZ)) ?_
    refine oc g_ex ?_
    refine oc g_ex ?_
    refine oc (g_st 3 iN) ?_
    exact oc g_as on
  intro u1 HB1 sz1 K1
  simp only [fX, nK, nP, Wr.f, aK, pM] at K1
  simp only [setG, setN, List.set_cons_zero, List.set_cons_succ]
  clear K0 HB0
  have c6_0 := ((K1.cv 0) 0 _ rfl).1
  have c6_1 := ((K1.cv 0) 1 _ rfl).1
  have c6_2 := ((K1.cv 0) 2 _ rfl).1
  have c6_3 := ((K1.cv 0) 3 _ rfl).1
  go_wp2
  refine bodyPost_ret (v := .tuple #[A4 0 0 0 0, .int .i64 20]) (by simp [results, Try.results61, go_sem, c6_0, c6_1, c6_2, c6_3]) rfl ⟨rfl, HB1⟩
set_option maxRecDepth 100000 in
set_option maxHeartbeats 2000000 in
theorem mMul0 (a b : Int) (w : World) (ha : In a) (hb : In b) : Calls Try.prog 68 #[NV a, NV b, A4 0 0 0 0] w fun e w' => e = .returned (.tuple #[A4 0 0 0 0, .int .i64 20]) ∧ Below w.heap.size w w' := by
  go_enter Try.func68, Try.ntmps68
  go_upto_region 1 with fail
  generalize hC : ((((w.alloc (.cells (LN a : List Value).toArray 25)).alloc (.cells (LN b : List Value).toArray 25)).alloc (.cells ([.int .u64 (0), .int .u64 (0), .int .u64 (0), .int .u64 (0)] : List Value).toArray 25)).alloc (.cells (L0s : List Value).toArray 25)) = v0 at *
  have HB0 : Below w.heap.size w v0 := by rw [← hC]; exact balloc (balloc (balloc (balloc (bself w) _) _) _) _
  have K0 : Bk w.heap.size v0 [(true, w.heap.size, LN a), (true, w.heap.size + 1, LN b), (true, w.heap.size + 1 + 1, [.int .u64 (0), .int .u64 (0), .int .u64 (0), .int .u64 (0)]), (true, w.heap.size + 1 + 1 + 1, L0s)] := by rw [← hC]; exact (Bk.nil _ w).ad.ad.ad.ad
  clear hC
  refine rgD K0 HB0 HB0.size [.no, .no, .no, .all 7 ([.int .u64 (0), .int .u64 (0), .int .u64 (0), .int .u64 (0)])] [] [(0, 8, NV a), (1, 9, NV b), (2, 10, WV (a * b)), (3, 11, .agg #[.int .u64 (0), .int .u64 (0), .int .u64 (0), .int .u64 (0)]), (4, 12, .tuple #[A4 (0) (0) (0) (0), .int .i64 20]), (5, 13, A4 (0) (0) (0) (0)), (6, 14, .int .i64 20), (8, 7, .int .i64 20)] [] [] [false, false, false] ?_ ?_
  · refine oc (g_ld 0 uN iN) ?_
    refine oc (g_ld 1 uN iN) ?_
    refine oc (g_cl ent_limb_Mul (fun uZ => nMul a b uZ ha hb)) ?_
    refine oc (g_ld 2 uN iN) ?_
    refine oc (g_cl ent_mod_Reduce (fun uZ => mReduce0 (a * b) uZ)) ?_
    refine oc g_ex ?_
    refine oc g_ex ?_
    refine oc (g_st 3 iN) ?_
    exact oc g_as on
  intro u1 HB1 sz1 K1
  simp only [fX, nK, nP, Wr.f, aK, pM] at K1
  simp only [setG, setN, List.set_cons_zero, List.set_cons_succ]
  clear K0 HB0
  have c6_0 := ((K1.cv 0) 0 _ rfl).1
  have c6_1 := ((K1.cv 0) 1 _ rfl).1
  have c6_2 := ((K1.cv 0) 2 _ rfl).1
  have c6_3 := ((K1.cv 0) 3 _ rfl).1
  go_wp2
  refine bodyPost_ret (v := .tuple #[A4 0 0 0 0, .int .i64 20]) (by simp [results, Try.results68, go_sem, c6_0, c6_1, c6_2, c6_3]) rfl ⟨rfl, HB1⟩
set_option maxRecDepth 100000 in
set_option maxHeartbeats 2000000 in
theorem mSub_0 (a b : Int) (w : World) (ha : In a) : Calls Try.prog 59 #[NV a, NV b, A4 0 0 0 0] w fun e w' => e = .returned (.tuple #[A4 0 0 0 0, .int .i64 20]) ∧ Below w.heap.size w w' := by
  go_enter Try.func59, Try.ntmps59
  go_upto_region 1 with fail
  generalize hC : ((((w.alloc (.cells (LN a : List Value).toArray 25)).alloc (.cells (LN b : List Value).toArray 25)).alloc (.cells ([.int .u64 (0), .int .u64 (0), .int .u64 (0), .int .u64 (0)] : List Value).toArray 25)).alloc (.cells (L0s : List Value).toArray 25)) = v0 at *
  have HB0 : Below w.heap.size w v0 := by rw [← hC]; exact balloc (balloc (balloc (balloc (bself w) _) _) _) _
  have K0 : Bk w.heap.size v0 [(true, w.heap.size, LN a), (true, w.heap.size + 1, LN b), (true, w.heap.size + 1 + 1, [.int .u64 (0), .int .u64 (0), .int .u64 (0), .int .u64 (0)]), (true, w.heap.size + 1 + 1 + 1, L0s)] := by rw [← hC]; exact (Bk.nil _ w).ad.ad.ad.ad
  clear hC
  refine rgD K0 HB0 HB0.size [.all 7 ([.int .u64 (0), .int .u64 (0), .int .u64 (0), .int .u64 (0)])] [] [(0, 12, NV a), (1, 13, WV a), (2, 14, .agg #[.int .u64 (0), .int .u64 (0), .int .u64 (0), .int .u64 (0)]), (3, 15, .tuple #[A4 (0) (0) (0) (0), .int .i64 20]), (4, 11, .tuple #[A4 (0) (0) (0) (0), .int .i64 20]), (5, 16, A4 (0) (0) (0) (0)), (6, 17, .int .i64 20), (8, 8, .int .i64 20)] [(7, 0)] [] [false, false, false] ?_ ?_
  · refine oc (g_ld 0 uN iN) ?_
    refine oc (g_cl ent_limb_Widen (fun uZ => nWiden a uZ ha)) ?_
    refine oc (g_ld 2 uN iN) ?_
    refine oc (g_cl ent_mod_Reduce (fun uZ => mReduce0 a uZ)) ?_
    refine oc g_mv ?_
    refine oc g_ex ?_
    refine oc g_ex ?_
    refine oc (g_st 0 iN) ?_
    exact oc g_as on
  intro u1 HB1 sz1 K1
  simp only [fX, nK, nP, Wr.f, aK, pM] at K1
  simp only [setG, setN, List.set_cons_zero, List.set_cons_succ]
  clear K0 HB0
  go_upto_region 3 with fail
  refine rgP K1 HB1 HB1.size [.all 2 ([.int .u64 (0), .int .u64 (0), .int .u64 (0), .int .u64 (0)])] [] [(0, 20, A4 (0) (0) (0) (0)), (1, 21, .int .i64 20), (3, 7, .int .i64 20)] [] [] [] ?_ ?_
  · refine oc (g_bd zN) ?_
    refine oc g_mv ?_
    refine oc (g_st 0 iN) ?_
    exact oc g_as on
  intro u2 HB2 sz2 K2
  simp only [fX, nK, nP, Wr.f, aK, pM] at K2
  simp only [setG, setN, List.set_cons_zero, List.set_cons_succ]
  clear K1 HB1
  have c6_0 := ((K2.cv 0) 0 _ rfl).1
  have c6_1 := ((K2.cv 0) 1 _ rfl).1
  have c6_2 := ((K2.cv 0) 2 _ rfl).1
  have c6_3 := ((K2.cv 0) 3 _ rfl).1
  go_wp2
  refine bodyPost_ret (v := .tuple #[A4 0 0 0 0, .int .i64 20]) (by simp [results, Try.results59, go_sem, c6_0, c6_1, c6_2, c6_3]) rfl ⟨rfl, HB2⟩
end Go.Proofs.Ytkpnjmfndgfogaa
