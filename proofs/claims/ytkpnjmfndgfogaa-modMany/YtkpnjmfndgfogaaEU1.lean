import Derived.Test.YtkpnjmfndgfogaaRC
import Derived.Test.YtkpnjmfndgfogaaEE
/- Numbers modulo one: euclid. -/
namespace Go.Proofs.Ytkpnjmfndgfogaa
open Go.RowKit
set_option linter.unusedVariables false
set_option linter.unusedSimpArgs false
theorem LN_0 : LN 0 = [.int .u64 0, .int .u64 0, .int .u64 0, .int .u64 0] := by simp [LN, D0, D1, D2, D3]
theorem In_le {m x : Int} (hm : In m) (h0 : 0 ≤ x) (h1 : x ≤ m) : In x := ⟨h0, by have := hm.2; omega⟩
theorem mlowI (n : Int) (w : World) (h : In n) : Calls Try.prog 84 #[WV n] w fun e w' => e = .returned (NV n) ∧ Below w.heap.size w w' := by
  have := mlow n w
  rw [In_lo h] at this; exact this
set_option maxRecDepth 100000 in
set_option maxHeartbeats 4000000 in
theorem meuclid (m a : Int) (w : World) (hm : In m) (ha : In a) (h0 : 0 ≤ a) (h1 : a < m) :
    Calls Try.prog 58 #[NV m, NV a] w fun e w' => e = .returned (.tuple #[NV (eu m a).1, NV (eu m a).2.1, .bool (eu m a).2.2]) ∧ Below w.heap.size w w' := by
  go_enter Try.func58, Try.ntmps58
  go_upto_region 1 with fail
  generalize hC : ((((w.alloc (.cells (LN m : List Value).toArray 25)).alloc (.cells (LN a : List Value).toArray 25)).alloc (.cells (L0s : List Value).toArray 25)).alloc (.cells (L0s : List Value).toArray 25)) = v0 at *
  have HB0 : Below w.heap.size w v0 := by rw [← hC]; exact balloc (balloc (balloc (balloc (bself w) _) _) _) _
  have K0 : Bk w.heap.size v0 [(true, w.heap.size, LN m), (true, w.heap.size + 1, LN a), (true, w.heap.size + 1 + 1, L0s), (true, w.heap.size + 1 + 1 + 1, L0s)] := by rw [← hC]; exact (Bk.nil _ w).ad.ad.ad.ad
  clear hC
  refine rgD K0 HB0 HB0.size [.no, .no, .all 3 (LN m)] [(2, 7, L0s, some (4, LN a))] [(0, 13, NV m), (1, 14, NV a)] [(4, 2)] [] [] ?_ ?_
  · refine oc (g_ld 0 uN iN) ?_
    refine oc (g_ld 1 uN iN) ?_
    refine oc (g_al 0 aN) ?_
    refine oc (g_st 2 iN) ?_
    exact oc (g_sn 0 iN) on
  intro u1 b1_2 HB1 sz1 K1
  simp only [fX, nK, nP, Wr.f, aK, pM] at K1
  simp only [setG, setN, List.set_cons_zero, List.set_cons_succ]
  clear K0 HB0
  go_upto_region 2 with fail
  refine rgP K1 HB1 HB1.size [.no, .no, .no, .all 3 ([.int .u64 (0), .int .u64 (0), .int .u64 (0), .int .u64 (0)])] [(2, 8, L0s, some (4, LN 1))] [(0, 15, A4 (0) (0) (0) (0)), (1, 16, NV 1)] [(4, 2)] [] [] ?_ ?_
  · refine oc (g_bd zN) ?_
    refine oc (g_cl ent_limb_Of (fun uZ => nOf 1 uZ (by omega) (by omega))) ?_
    refine oc (g_al 0 aN) ?_
    refine oc (g_st 3 iN) ?_
    exact oc (g_sn 0 iN) on
  intro u2 b2_2 HB2 sz2 K2
  simp only [fX, nK, nP, Wr.f, aK, pM] at K2
  simp only [setG, setN, List.set_cons_zero, List.set_cons_succ]
  clear K1 HB1
  go_wp2_with fail
  go_loopw [6] (fun s6 wr => ∃ (k : Nat) (d r f n : Int) (b : Bool), s6 = .bool b ∧ r.toNat ≤ k ∧ EI m a d r f n b ∧ d ≤ m ∧ f ≤ m ∧ Hid (euF k d r f n b = eu m a) ∧ Below w.heap.size w wr ∧ CV wr (w.heap.size + 1 + 1) (LN d) ∧ CV wr (w.heap.size + 1 + 1 + 1) (LN f) ∧ CV wr (b1_2) (LN r) ∧ CV wr (b2_2) (LN n) ∧ b1_2 < wr.heap.size ∧ b2_2 < wr.heap.size) (fun _ wr => natAt wr (b1_2))
  case atStart => exact ⟨a.toNat, m, a, 0, 1, true, rfl, Nat.le_refl _, EI.start h0 h1, by omega, by have := hm.1; omega, rfl, HB2, (K2.cv 2), by rw [LN_0]; exact (K2.cv 3), (K2.cv 4), (K2.cv 5), (K2.lt 4), (K2.lt 5)⟩
  case round =>
    obtain ⟨k, d, r, f, n, b, rfl, hk, hE, hdm, hfm, hg, HBr, Kd, Kf, Kr, Kn, lr, ln⟩ := hrel
    have id : In d := In_le hm (by have := hE.r0; have := hE.rd; omega) hdm
    have ir : In r := In_le hm hE.r0 (by have := hE.rd; omega)
    have if' : In f := In_le hm hE.f0 hfm
    have inn : In n := In_le hm hE.n0 hE.nm
    clear HB2
    have hn := K2.n
    simp at hn
    have ho4 := K2.lo 4
    have ho5 := K2.lo 5
    by_cases h2 : r = 0
    · have hz : decide (r = 0) = !false := by simp [h2]
      have hgx : eu m a = (d, f, b) := by rw [← hg.out, h2, euF_end]
      have Hg : Hid _ := hgx
      clear hgx hg h2
      have K2_1 : Bk w.heap.size wr [(true, w.heap.size + 1 + 1, LN d), (true, w.heap.size + 1 + 1 + 1, LN f), (false, b1_2, LN r), (false, b2_2, LN n)] := ⟨.o (by omega) (K2.lo 2) Kd <| .o (by omega) (K2.lo 3) Kf <| .c lr Kr <| .c ln Kn <| trivial, by simp; omega⟩
      go_upto_region 4 with fail
      refine rgP K2_1 HBr HBr.size [] [] [(0, 17, NV r), (1, 18, A4 (0) (0) (0) (0)), (2, 19, .bool false)] [] [] [true, true, false, false] ?_ ?_
      · refine oc (g_ld 2 uN iN) ?_
        refine oc (g_bd zN) ?_
        exact oc (g_bn (fun uZ => neq_0 _ _ ir _ hz uZ)) on
      intro u3 HB3 sz3 K3
      simp only [fX, nK, nP, Wr.f, aK, pM] at K3
      simp only [setG, setN, List.set_cons_zero, List.set_cons_succ]
      go_upto_region 10 with fail
      refine rgD K3 HB3 HB3.size [.all 3 (LN d), .all 4 (LN f)] [] [(0, 41, NV d), (1, 42, NV f), (2, 43, .bool b), (5, 6, .bool b)] [(3, 0), (4, 1), (5, 2)] [(5, 6)] [] ?_ ?_
      · refine oc (g_ld 0 uN iN) ?_
        refine oc (g_ld 1 uN iN) ?_
        refine oc g_mv ?_
        refine oc (g_st 0 iN) ?_
        refine oc (g_st 1 iN) ?_
        exact oc g_as on
      intro u4 HB4 sz4 K4
      simp only [fX, nK, nP, Wr.f, aK, pM] at K4
      simp only [setG, setN, List.set_cons_zero, List.set_cons_succ]
      clear K3 HB3
      have c4_0 := ((K4.cv 0) 0 _ rfl).1
      have c4_1 := ((K4.cv 0) 1 _ rfl).1
      have c4_2 := ((K4.cv 0) 2 _ rfl).1
      have c4_3 := ((K4.cv 0) 3 _ rfl).1
      have c5_0 := ((K4.cv 1) 0 _ rfl).1
      have c5_1 := ((K4.cv 1) 1 _ rfl).1
      have c5_2 := ((K4.cv 1) 2 _ rfl).1
      have c5_3 := ((K4.cv 1) 3 _ rfl).1
      go_wp2
      refine bodyPost_ret (v := .tuple #[NV d, NV f, .bool b]) (by simp [results, Try.results58, go_sem, c4_0, c4_1, c4_2, c4_3, c5_0, c5_1, c5_2, c5_3]) rfl ⟨by rw [Hg.out], HB4⟩
    · have hz : decide (r = 0) = !true := by simp [h2]
      have hs := hE.step h2
      obtain ⟨k', rfl⟩ : ∃ k', k = k' + 1 := ⟨k - 1, by have := hE.r0; omega⟩
      have hgx : Hid (euF k' r (d % r) n (f + d / r * n) (!b) = eu m a) := by rw [← euF_step k' d r f n b h2]; exact hg
      have i1 : In (d % r) := In_mod ir h2
      have q0 : 0 ≤ d / r * n := Int.mul_nonneg (Int.ediv_nonneg id.1 ir.1) inn.1
      have i3 : In (f + d / r * n) := In_le hm hs.n0 hs.nm
      have i2 : In (d / r * n) := In_le hm q0 (by have := hs.nm; have := if'.1; omega)
      have i4 : In (d / r) := In_div id ir h2
      have i5 : f + d / r * n < 115792089237316195423570985008687907853269984665640564039457584007913129639936 := i3.2
      have n0 : Hid _ := natAt_of Kr ir
      clear hg
      have K2_1 : Bk w.heap.size wr [(true, w.heap.size + 1 + 1, LN d), (true, w.heap.size + 1 + 1 + 1, LN f), (true, b1_2, LN r), (true, b2_2, LN n)] := ⟨.o (by omega) (K2.lo 2) Kd <| .o (by omega) (K2.lo 3) Kf <| .o lr (K2.lo 4) Kr <| .o ln (K2.lo 5) Kn <| trivial, by simp; omega⟩
      go_upto_region 4 with fail
      refine rgP K2_1 HBr HBr.size [] [] [(0, 17, NV r), (1, 18, A4 (0) (0) (0) (0)), (2, 19, .bool true)] [] [] [] ?_ ?_
      · refine oc (g_ld 2 uN iN) ?_
        refine oc (g_bd zN) ?_
        exact oc (g_bn (fun uZ => neq_0 _ _ ir _ hz uZ)) on
      intro u3 HB3 sz3 K3
      simp only [fX, nK, nP, Wr.f, aK, pM] at K3
      simp only [setG, setN, List.set_cons_zero, List.set_cons_succ]
      go_upto_region 5 with fail
      refine rgP K3 HB3 HB3.size [] [(6, 9, L0s, some (8, LN (d / r))), (7, 10, L0s, some (9, LN (d % r)))] [(0, 21, NV d), (1, 22, NV r), (2, 23, .tuple #[NV (d / r), NV (d % r)]), (3, 20, .tuple #[NV (d / r), NV (d % r)]), (4, 24, NV (d / r)), (5, 25, NV (d % r))] [(8, 6), (9, 7)] [] [] ?_ ?_
      · refine oc (g_ld 0 uN iN) ?_
        refine oc (g_ld 2 uN iN) ?_
        refine oc (g_cl ent_mod_divide (fun uZ => mdivide d r uZ id ir h2)) ?_
        refine oc g_mv ?_
        refine oc g_ex ?_
        refine oc g_ex ?_
        refine oc (g_al 0 aN) ?_
        refine oc (g_al 1 aN) ?_
        refine oc (g_sn 0 iN) ?_
        exact oc (g_sn 1 iN) on
      intro u4 b4_6 b4_7 HB4 sz4 K4
      simp only [fX, nK, nP, Wr.f, aK, pM] at K4
      simp only [setG, setN, List.set_cons_zero, List.set_cons_succ]
      clear K3 HB3
      go_upto_region 6 with fail
      refine rgD K4 HB4 HB4.size [.all 2 (LN r), .no, .all 3 (LN (d % r))] [] [(0, 26, NV r), (1, 27, NV (d % r))] [(3, 0)] [] [true, true, true, true, true, false] ?_ ?_
      · refine oc (g_ld 2 uN iN) ?_
        refine oc (g_ld 5 uN iN) ?_
        refine oc (g_st 0 iN) ?_
        exact oc (g_st 2 iN) on
      intro u5 HB5 sz5 K5
      simp only [fX, nK, nP, Wr.f, aK, pM] at K5
      simp only [setG, setN, List.set_cons_zero, List.set_cons_succ]
      clear K4 HB4
      go_upto_region 7 with fail
      refine rgD K5 HB5 HB5.size [] [(9, 11, L0s, some (10, LN (f + d / r * n)))] [(0, 29, NV f), (1, 30, NV (d / r)), (2, 31, NV n), (3, 32, WV (d / r * n)), (4, 33, NV (d / r * n)), (5, 34, .tuple #[NV (f + d / r * n), .bool false]), (6, 28, .tuple #[NV (f + d / r * n), .bool false]), (7, 35, NV (f + d / r * n)), (8, 36, .bool false), (11, 12, .bool false)] [(10, 9)] [] [true, true, true, true, false] ?_ ?_
      · refine oc (g_ld 1 uN iN) ?_
        refine oc (g_ld 4 uN iN) ?_
        refine oc (g_ld 3 uN iN) ?_
        refine oc (g_cl ent_limb_Mul (fun uZ => nMul (d / r) n uZ i4 inn)) ?_
        refine oc (g_cl ent_mod_low (fun uZ => mlowI (d / r * n) uZ i2)) ?_
        refine oc (g_cl ent_limb_Add (fun uZ => nAdd_lt f (d / r * n) uZ if' i2 i5)) ?_
        refine oc g_mv ?_
        refine oc g_ex ?_
        refine oc g_ex ?_
        refine oc (g_al 0 aN) ?_
        refine oc (g_sn 0 iN) ?_
        exact oc g_as on
      intro u6 b6_9 HB6 sz6 K6
      simp only [fX, nK, nP, Wr.f, aK, pM] at K6
      simp only [setG, setN, List.set_cons_zero, List.set_cons_succ]
      clear K5 HB5
      go_upto_region 8 with fail
      refine rgD K6 HB6 HB6.size [.no, .all 2 (LN n), .no, .all 3 (LN (f + d / r * n))] [] [(0, 37, NV n), (1, 38, NV (f + d / r * n))] [(3, 0)] [] [true, true, true, true, false] ?_ ?_
      · refine oc (g_ld 3 uN iN) ?_
        refine oc (g_ld 4 uN iN) ?_
        refine oc (g_st 1 iN) ?_
        exact oc (g_st 3 iN) on
      intro u7 HB7 sz7 K7
      simp only [fX, nK, nP, Wr.f, aK, pM] at K7
      simp only [setG, setN, List.set_cons_zero, List.set_cons_succ]
      clear K6 HB6
      go_upto_region 9 with fail
      refine rgP K7 HB7 HB7.size [] [] [(0, 39, .bool b), (1, 40, .bool (!b)), (2, 6, .bool (!b))] [(2, 0)] [(2, 6)] [] ?_ ?_
      · refine oc g_mv ?_
        refine oc (g_un (fun uZ => rfl)) ?_
        exact oc g_as on
      intro u8 HB8 sz8 K8
      simp only [fX, nK, nP, Wr.f, aK, pM] at K8
      simp only [setG, setN, List.set_cons_zero, List.set_cons_succ]
      clear K7 HB7
      go_wp2
      refine ⟨⟨k', r, d % r, n, f + d / r * n, !b, rfl, by have := hs.rd; have := hs.r0; omega, hs, by have := hE.rd; omega, hE.nm, hgx, HB8, (K8.cv 0), (K8.cv 1), (K8.cv 2), (K8.cv 3), (K8.lt 2), (K8.lt 3)⟩, ?_⟩
      rw [natAt_of (K8.cv 2) i1, n0.out]
      have := hs.rd; have := hs.r0; omega
end Go.Proofs.Ytkpnjmfndgfogaa

/- Numbers modulo one: Inverse. -/
namespace Go.Proofs.Ytkpnjmfndgfogaa
open Go.RowKit
set_option linter.unusedVariables false
set_option linter.unusedSimpArgs false
theorem NV_0 : NV 0 = A4 0 0 0 0 := NV_small (by omega) (by omega)
theorem In_0 : In 0 := ⟨by omega, by omega⟩
theorem In_1 : In 1 := ⟨by omega, by omega⟩
theorem mSub0 (b m : Int) (w : World) (hb : In b) (hm : In m) (h : m ≠ 0) : Calls Try.prog 59 #[A4 0 0 0 0, NV b, NV m] w fun e w' => e = .returned (.tuple #[NV ((0 - b) % m), .int .i64 0]) ∧ Below w.heap.size w w' := by
  rw [← NV_0]; exact mSub 0 b m w In_0 hb hm h
theorem In_gI {a b : Int} (ha : In a) (hb : In b) (h : b ≠ 0) : In (gI b a) := by
  unfold gI
  have h1 : Nat.gcd b.toNat a.toNat ≤ b.toNat := Nat.gcd_le_left _ (by have := hb.1; omega)
  exact In_le hb (by omega) (by have := hb.1; omega)
set_option maxRecDepth 100000 in
set_option maxHeartbeats 4000000 in
theorem mInverse_no (a m : Int) (w : World) (ha : In a) (hm : In m) (h : m ≠ 0) (hg : gI m (a % m) ≠ 1) :
    Calls Try.prog 21 #[NV a, NV m] w fun e w' => e = .returned (.tuple #[A4 0 0 0 0, .int .i64 20]) ∧ Below w.heap.size w w' := by
  have ia : In (a % m) := In_mod hm h
  have h0 : 0 ≤ a % m := ia.1
  have h1 : a % m < m := Int.emod_lt_of_pos a (by have := hm.1; omega)
  obtain ⟨e1, e2, e3, e4⟩ := eu_spec h0 h1
  have id := In_gI ia hm h
  have hE := fun w => meuclid m (a % m) w hm ia h0 h1
  rw [e1] at hE
  generalize gI m (a % m) = d at *
  generalize (eu m (a % m)).2.1 = f at *
  generalize (eu m (a % m)).2.2 = s at *
  have hE' : Hid _ := hE
  clear hE
  have hz : decide (d = 1) = !true := by simp [hg]
  clear e1 e4 hg
  go_enter Try.func21, Try.ntmps21
  go_upto_region 1 with fail
  generalize hC : (((w.alloc (.cells (LN a : List Value).toArray 25)).alloc (.cells (LN m : List Value).toArray 25)).alloc (.cells (L0s : List Value).toArray 25)) = v0 at *
  have HB0 : Below w.heap.size w v0 := by rw [← hC]; exact balloc (balloc (balloc (bself w) _) _) _
  have K0 : Bk w.heap.size v0 [(true, w.heap.size, LN a), (true, w.heap.size + 1, LN m), (true, w.heap.size + 1 + 1, L0s)] := by rw [← hC]; exact (Bk.nil _ w).ad.ad.ad
  clear hC
  refine rgD K0 HB0 HB0.size [.all 7 (LN (a % m))] [] [(0, 11, NV a), (1, 12, WV a), (2, 13, NV m), (3, 14, .tuple #[NV (a % m), .int .i64 0]), (4, 10, .tuple #[NV (a % m), .int .i64 0]), (5, 15, NV (a % m)), (6, 16, .int .i64 0), (8, 6, .int .i64 0)] [(7, 0)] [] [] ?_ ?_
  · refine oc (g_ld 0 uN iN) ?_
    refine oc (g_cl ent_limb_Widen (fun uZ => nWiden a uZ ha)) ?_
    refine oc (g_ld 1 uN iN) ?_
    refine oc (g_cl ent_mod_Reduce (fun uZ => mReduce a m uZ ha.wide hm h)) ?_
    refine oc g_mv ?_
    refine oc g_ex ?_
    refine oc g_ex ?_
    refine oc (g_st 0 iN) ?_
    exact oc g_as on
  intro u1 HB1 sz1 K1
  simp only [fX, nK, nP, Wr.f, aK, pM] at K1
  simp only [setG, setN, List.set_cons_zero, List.set_cons_succ]
  clear K0 HB0
  go_upto_region 4 with fail
  refine rgP K1 HB1 HB1.size [] [(7, 7, L0s, some (9, LN d)), (8, 8, L0s, some (10, LN f))] [(0, 22, NV m), (1, 23, NV (a % m)), (2, 24, .tuple #[NV d, NV f, .bool s]), (3, 21, .tuple #[NV d, NV f, .bool s]), (4, 25, NV d), (5, 26, NV f), (6, 27, .bool s), (11, 9, .bool s)] [(9, 7), (10, 8)] [] [false, false, true, true, false] ?_ ?_
  · refine oc (g_ld 1 uN iN) ?_
    refine oc (g_ld 0 uN iN) ?_
    refine oc (g_cl ent_mod_euclid (fun uZ => hE'.out uZ)) ?_
    refine oc g_mv ?_
    refine oc g_ex ?_
    refine oc g_ex ?_
    refine oc g_ex ?_
    refine oc (g_al 0 aN) ?_
    refine oc (g_al 1 aN) ?_
    refine oc (g_sn 0 iN) ?_
    refine oc (g_sn 1 iN) ?_
    exact oc g_as on
  intro u2 b2_7 b2_8 HB2 sz2 K2
  simp only [fX, nK, nP, Wr.f, aK, pM] at K2
  simp only [setG, setN, List.set_cons_zero, List.set_cons_succ]
  clear K1 HB1
  go_upto_region 5 with fail
  refine rgD K2 HB2 HB2.size [] [] [(0, 29, NV d), (1, 30, NV 1), (2, 31, .bool true), (3, 28, .bool true)] [] [] [true, false] ?_ ?_
  · refine oc (g_ld 1 uN iN) ?_
    refine oc (g_cl ent_limb_Of (fun uZ => nOf 1 uZ (by omega) (by omega))) ?_
    refine oc (g_bn (fun uZ => neq_n _ _ id In_1 _ hz uZ)) ?_
    exact oc g_as on
  intro u3 HB3 sz3 K3
  simp only [fX, nK, nP, Wr.f, aK, pM] at K3
  simp only [setG, setN, List.set_cons_zero, List.set_cons_succ]
  clear K2 HB2
  go_upto_region 6 with fail
  refine rgP K3 HB3 HB3.size [.all 1 ([.int .u64 (0), .int .u64 (0), .int .u64 (0), .int .u64 (0)])] [] [(0, 32, A4 (0) (0) (0) (0)), (2, 5, (Go.Value.int Go.IntKind.i64 20))] [] [] [] ?_ ?_
  · refine oc (g_bd zN) ?_
    refine oc (g_st 0 iN) ?_
    exact oc g_as on
  intro u4 HB4 sz4 K4
  simp only [fX, nK, nP, Wr.f, aK, pM] at K4
  simp only [setG, setN, List.set_cons_zero, List.set_cons_succ]
  clear K3 HB3
  have c4_0 := ((K4.cv 0) 0 _ rfl).1
  have c4_1 := ((K4.cv 0) 1 _ rfl).1
  have c4_2 := ((K4.cv 0) 2 _ rfl).1
  have c4_3 := ((K4.cv 0) 3 _ rfl).1
  go_wp2
  refine bodyPost_ret (v := .tuple #[A4 0 0 0 0, .int .i64 20]) (by simp [results, Try.results21, go_sem, c4_0, c4_1, c4_2, c4_3]) rfl ⟨rfl, HB4⟩
set_option maxRecDepth 100000 in
set_option maxHeartbeats 4000000 in
theorem mInverse_neg (a m x : Int) (w : World) (ha : In a) (hm : In m) (h : m ≠ 0) (hg : gI m (a % m) = 1) (hx : IsInv (a % m) m x) (hb : (eu m (a % m)).2.2 = true) :
    Calls Try.prog 21 #[NV a, NV m] w fun e w' => e = .returned (.tuple #[NV x, .int .i64 0]) ∧ Below w.heap.size w w' := by
  have ia : In (a % m) := In_mod hm h
  have h0 : 0 ≤ a % m := ia.1
  have h1 : a % m < m := Int.emod_lt_of_pos a (by have := hm.1; omega)
  obtain ⟨e1, e2, e3, e4⟩ := eu_spec h0 h1
  have hE := fun w => meuclid m (a % m) w hm ia h0 h1
  have hx' := hx.uniq (eu_neg h0 h1 hg hb)
  rw [e1, hg, hb] at hE
  generalize (eu m (a % m)).2.1 = f at *
  obtain ⟨d, hd⟩ : ∃ d : Int, d = 1 := ⟨1, rfl⟩
  rw [← hd] at hE
  have id : In d := by rw [hd]; exact In_1
  have if' : In f := In_le hm e2 e3
  have hz : decide (d = 1) = !false := by simp [hd]
  have hE' : Hid _ := hE
  have Hx : Hid _ := hx'
  clear hE hx' e1 e4 hg hb hx hd
  go_enter Try.func21, Try.ntmps21
  go_upto_region 1 with fail
  generalize hC : (((w.alloc (.cells (LN a : List Value).toArray 25)).alloc (.cells (LN m : List Value).toArray 25)).alloc (.cells (L0s : List Value).toArray 25)) = v0 at *
  have HB0 : Below w.heap.size w v0 := by rw [← hC]; exact balloc (balloc (balloc (bself w) _) _) _
  have K0 : Bk w.heap.size v0 [(true, w.heap.size, LN a), (true, w.heap.size + 1, LN m), (true, w.heap.size + 1 + 1, L0s)] := by rw [← hC]; exact (Bk.nil _ w).ad.ad.ad
  clear hC
  refine rgD K0 HB0 HB0.size [.all 7 (LN (a % m))] [] [(0, 11, NV a), (1, 12, WV a), (2, 13, NV m), (3, 14, .tuple #[NV (a % m), .int .i64 0]), (4, 10, .tuple #[NV (a % m), .int .i64 0]), (5, 15, NV (a % m)), (6, 16, .int .i64 0), (8, 6, .int .i64 0)] [(7, 0)] [] [] ?_ ?_
  · refine oc (g_ld 0 uN iN) ?_
    refine oc (g_cl ent_limb_Widen (fun uZ => nWiden a uZ ha)) ?_
    refine oc (g_ld 1 uN iN) ?_
    refine oc (g_cl ent_mod_Reduce (fun uZ => mReduce a m uZ ha.wide hm h)) ?_
    refine oc g_mv ?_
    refine oc g_ex ?_
    refine oc g_ex ?_
    refine oc (g_st 0 iN) ?_
    exact oc g_as on
  intro u1 HB1 sz1 K1
  simp only [fX, nK, nP, Wr.f, aK, pM] at K1
  simp only [setG, setN, List.set_cons_zero, List.set_cons_succ]
  clear K0 HB0
  go_upto_region 4 with fail
  refine rgP K1 HB1 HB1.size [] [(7, 7, L0s, some (9, LN d)), (8, 8, L0s, some (10, LN f))] [(0, 22, NV m), (1, 23, NV (a % m)), (2, 24, .tuple #[NV d, NV f, .bool true]), (3, 21, .tuple #[NV d, NV f, .bool true]), (4, 25, NV d), (5, 26, NV f), (6, 27, .bool true), (11, 9, .bool true)] [(9, 7), (10, 8)] [] [false] ?_ ?_
  · refine oc (g_ld 1 uN iN) ?_
    refine oc (g_ld 0 uN iN) ?_
    refine oc (g_cl ent_mod_euclid (fun uZ => hE'.out uZ)) ?_
    refine oc g_mv ?_
    refine oc g_ex ?_
    refine oc g_ex ?_
    refine oc g_ex ?_
    refine oc (g_al 0 aN) ?_
    refine oc (g_al 1 aN) ?_
    refine oc (g_sn 0 iN) ?_
    refine oc (g_sn 1 iN) ?_
    exact oc g_as on
  intro u2 b2_7 b2_8 HB2 sz2 K2
  simp only [fX, nK, nP, Wr.f, aK, pM] at K2
  simp only [setG, setN, List.set_cons_zero, List.set_cons_succ]
  clear K1 HB1
  go_upto_region 5 with fail
  refine rgD K2 HB2 HB2.size [] [] [(0, 29, NV d), (1, 30, NV 1), (2, 31, .bool false), (3, 28, .bool false)] [] [] [true, true, false] ?_ ?_
  · refine oc (g_ld 2 uN iN) ?_
    refine oc (g_cl ent_limb_Of (fun uZ => nOf 1 uZ (by omega) (by omega))) ?_
    refine oc (g_bn (fun uZ => neq_n _ _ id In_1 _ hz uZ)) ?_
    exact oc g_as on
  intro u3 HB3 sz3 K3
  simp only [fX, nK, nP, Wr.f, aK, pM] at K3
  simp only [setG, setN, List.set_cons_zero, List.set_cons_succ]
  clear K2 HB2
  go_upto_region 7 with fail
  refine rgP K3 HB3 HB3.size [] [] [(0, 34, .bool true), (1, 33, .bool true)] [] [] [] ?_ ?_
  · refine oc g_mv ?_
    exact oc g_as on
  intro u4 HB4 sz4 K4
  simp only [fX, nK, nP, Wr.f, aK, pM] at K4
  simp only [setG, setN, List.set_cons_zero, List.set_cons_succ]
  clear K3 HB3
  go_upto_region 8 with fail
  refine rgP K4 HB4 HB4.size [.no, .all 6 (LN ((0 - f) % m))] [] [(0, 35, A4 (0) (0) (0) (0)), (1, 36, NV f), (2, 37, NV m), (3, 38, .tuple #[NV ((0 - f) % m), .int .i64 0]), (4, 39, NV ((0 - f) % m)), (5, 40, .int .i64 0), (7, 5, .int .i64 0)] [] [] [false, true, false] ?_ ?_
  · refine oc (g_bd zN) ?_
    refine oc (g_ld 2 uN iN) ?_
    refine oc (g_ld 0 uN iN) ?_
    refine oc (g_cl ent_mod_Sub (fun uZ => mSub0 f m uZ if' hm h)) ?_
    refine oc g_ex ?_
    refine oc g_ex ?_
    refine oc (g_st 1 iN) ?_
    exact oc g_as on
  intro u5 HB5 sz5 K5
  simp only [fX, nK, nP, Wr.f, aK, pM] at K5
  simp only [setG, setN, List.set_cons_zero, List.set_cons_succ]
  clear K4 HB4
  have c4_0 := ((K5.cv 0) 0 _ rfl).1
  have c4_1 := ((K5.cv 0) 1 _ rfl).1
  have c4_2 := ((K5.cv 0) 2 _ rfl).1
  have c4_3 := ((K5.cv 0) 3 _ rfl).1
  go_wp2
  refine bodyPost_ret (v := .tuple #[NV ((0 - f) % m), .int .i64 0]) (by simp [results, Try.results21, go_sem, c4_0, c4_1, c4_2, c4_3]) rfl ⟨by rw [Hx.out], HB5⟩
set_option maxRecDepth 100000 in
set_option maxHeartbeats 4000000 in
theorem mInverse_pos (a m x : Int) (w : World) (ha : In a) (hm : In m) (h : m ≠ 0) (hg : gI m (a % m) = 1) (hx : IsInv (a % m) m x) (hb : (eu m (a % m)).2.2 = false) :
    Calls Try.prog 21 #[NV a, NV m] w fun e w' => e = .returned (.tuple #[NV x, .int .i64 0]) ∧ Below w.heap.size w w' := by
  have ia : In (a % m) := In_mod hm h
  have h0 : 0 ≤ a % m := ia.1
  have h1 : a % m < m := Int.emod_lt_of_pos a (by have := hm.1; omega)
  obtain ⟨e1, e2, e3, e4⟩ := eu_spec h0 h1
  have hE := fun w => meuclid m (a % m) w hm ia h0 h1
  have hx' := hx.uniq (eu_pos h0 h1 hg hb)
  rw [e1, hg, hb] at hE
  generalize (eu m (a % m)).2.1 = f at *
  obtain ⟨d, hd⟩ : ∃ d : Int, d = 1 := ⟨1, rfl⟩
  rw [← hd] at hE
  have id : In d := by rw [hd]; exact In_1
  have if' : In f := In_le hm e2 e3
  have hz : decide (d = 1) = !false := by simp [hd]
  have hE' : Hid _ := hE
  have Hx : Hid _ := hx'
  clear hE hx' e1 e4 hg hb hx hd
  go_enter Try.func21, Try.ntmps21
  go_upto_region 1 with fail
  generalize hC : (((w.alloc (.cells (LN a : List Value).toArray 25)).alloc (.cells (LN m : List Value).toArray 25)).alloc (.cells (L0s : List Value).toArray 25)) = v0 at *
  have HB0 : Below w.heap.size w v0 := by rw [← hC]; exact balloc (balloc (balloc (bself w) _) _) _
  have K0 : Bk w.heap.size v0 [(true, w.heap.size, LN a), (true, w.heap.size + 1, LN m), (true, w.heap.size + 1 + 1, L0s)] := by rw [← hC]; exact (Bk.nil _ w).ad.ad.ad
  clear hC
  refine rgD K0 HB0 HB0.size [.all 7 (LN (a % m))] [] [(0, 11, NV a), (1, 12, WV a), (2, 13, NV m), (3, 14, .tuple #[NV (a % m), .int .i64 0]), (4, 10, .tuple #[NV (a % m), .int .i64 0]), (5, 15, NV (a % m)), (6, 16, .int .i64 0), (8, 6, .int .i64 0)] [(7, 0)] [] [] ?_ ?_
  · refine oc (g_ld 0 uN iN) ?_
    refine oc (g_cl ent_limb_Widen (fun uZ => nWiden a uZ ha)) ?_
    refine oc (g_ld 1 uN iN) ?_
    refine oc (g_cl ent_mod_Reduce (fun uZ => mReduce a m uZ ha.wide hm h)) ?_
    refine oc g_mv ?_
    refine oc g_ex ?_
    refine oc g_ex ?_
    refine oc (g_st 0 iN) ?_
    exact oc g_as on
  intro u1 HB1 sz1 K1
  simp only [fX, nK, nP, Wr.f, aK, pM] at K1
  simp only [setG, setN, List.set_cons_zero, List.set_cons_succ]
  clear K0 HB0
  go_upto_region 4 with fail
  refine rgP K1 HB1 HB1.size [] [(7, 7, L0s, some (9, LN d)), (8, 8, L0s, some (10, LN f))] [(0, 22, NV m), (1, 23, NV (a % m)), (2, 24, .tuple #[NV d, NV f, .bool false]), (3, 21, .tuple #[NV d, NV f, .bool false]), (4, 25, NV d), (5, 26, NV f), (6, 27, .bool false), (11, 9, .bool false)] [(9, 7), (10, 8)] [] [false, false] ?_ ?_
  · refine oc (g_ld 1 uN iN) ?_
    refine oc (g_ld 0 uN iN) ?_
    refine oc (g_cl ent_mod_euclid (fun uZ => hE'.out uZ)) ?_
    refine oc g_mv ?_
    refine oc g_ex ?_
    refine oc g_ex ?_
    refine oc g_ex ?_
    refine oc (g_al 0 aN) ?_
    refine oc (g_al 1 aN) ?_
    refine oc (g_sn 0 iN) ?_
    refine oc (g_sn 1 iN) ?_
    exact oc g_as on
  intro u2 b2_7 b2_8 HB2 sz2 K2
  simp only [fX, nK, nP, Wr.f, aK, pM] at K2
  simp only [setG, setN, List.set_cons_zero, List.set_cons_succ]
  clear K1 HB1
  go_upto_region 5 with fail
  refine rgD K2 HB2 HB2.size [] [] [(0, 29, NV d), (1, 30, NV 1), (2, 31, .bool false), (3, 28, .bool false)] [] [] [true, false] ?_ ?_
  · refine oc (g_ld 1 uN iN) ?_
    refine oc (g_cl ent_limb_Of (fun uZ => nOf 1 uZ (by omega) (by omega))) ?_
    refine oc (g_bn (fun uZ => neq_n _ _ id In_1 _ hz uZ)) ?_
    exact oc g_as on
  intro u3 HB3 sz3 K3
  simp only [fX, nK, nP, Wr.f, aK, pM] at K3
  simp only [setG, setN, List.set_cons_zero, List.set_cons_succ]
  clear K2 HB2
  go_upto_region 7 with fail
  refine rgP K3 HB3 HB3.size [] [] [(0, 34, .bool false), (1, 33, .bool false)] [] [] [] ?_ ?_
  · refine oc g_mv ?_
    exact oc g_as on
  intro u4 HB4 sz4 K4
  simp only [fX, nK, nP, Wr.f, aK, pM] at K4
  simp only [setG, setN, List.set_cons_zero, List.set_cons_succ]
  clear K3 HB3
  go_upto_region 9 with fail
  refine rgP K4 HB4 HB4.size [.all 1 (LN f)] [] [(0, 41, NV f), (2, 5, (Go.Value.int Go.IntKind.i64 0))] [] [] [true, false] ?_ ?_
  · refine oc (g_ld 1 uN iN) ?_
    refine oc (g_st 0 iN) ?_
    exact oc g_as on
  intro u5 HB5 sz5 K5
  simp only [fX, nK, nP, Wr.f, aK, pM] at K5
  simp only [setG, setN, List.set_cons_zero, List.set_cons_succ]
  clear K4 HB4
  have c4_0 := ((K5.cv 0) 0 _ rfl).1
  have c4_1 := ((K5.cv 0) 1 _ rfl).1
  have c4_2 := ((K5.cv 0) 2 _ rfl).1
  have c4_3 := ((K5.cv 0) 3 _ rfl).1
  go_wp2
  refine bodyPost_ret (v := .tuple #[NV f, .int .i64 0]) (by simp [results, Try.results21, go_sem, c4_0, c4_1, c4_2, c4_3]) rfl ⟨by rw [Hx.out], HB5⟩
theorem mInverse (a m x : Int) (w : World) (ha : In a) (hm : In m) (h : m ≠ 0) (hg : gI m (a % m) = 1) (hx : IsInv (a % m) m x) :
    Calls Try.prog 21 #[NV a, NV m] w fun e w' => e = .returned (.tuple #[NV x, .int .i64 0]) ∧ Below w.heap.size w w' := by
  cases hb : (eu m (a % m)).2.2
  · exact mInverse_pos a m x w ha hm h hg hx hb
  · exact mInverse_neg a m x w ha hm h hg hx hb
set_option maxRecDepth 100000 in
set_option maxHeartbeats 4000000 in
theorem mInverse0 (a : Int) (w : World) (ha : In a) :
    Calls Try.prog 21 #[NV a, A4 0 0 0 0] w fun e w' => e = .returned (.tuple #[A4 0 0 0 0, .int .i64 20]) ∧ Below w.heap.size w w' := by
  go_enter Try.func21, Try.ntmps21
  go_upto_region 1 with fail
  generalize hC : (((w.alloc (.cells (LN a : List Value).toArray 25)).alloc (.cells ([.int .u64 (0), .int .u64 (0), .int .u64 (0), .int .u64 (0)] : List Value).toArray 25)).alloc (.cells (L0s : List Value).toArray 25)) = v0 at *
  have HB0 : Below w.heap.size w v0 := by rw [← hC]; exact balloc (balloc (balloc (bself w) _) _) _
  have K0 : Bk w.heap.size v0 [(true, w.heap.size, LN a), (true, w.heap.size + 1, [.int .u64 (0), .int .u64 (0), .int .u64 (0), .int .u64 (0)]), (true, w.heap.size + 1 + 1, L0s)] := by rw [← hC]; exact (Bk.nil _ w).ad.ad.ad
  clear hC
  refine rgD K0 HB0 HB0.size [.all 7 ([.int .u64 (0), .int .u64 (0), .int .u64 (0), .int .u64 (0)])] [] [(0, 11, NV a), (1, 12, WV a), (2, 13, .agg #[.int .u64 (0), .int .u64 (0), .int .u64 (0), .int .u64 (0)]), (3, 14, .tuple #[A4 (0) (0) (0) (0), .int .i64 20]), (4, 10, .tuple #[A4 (0) (0) (0) (0), .int .i64 20]), (5, 15, A4 (0) (0) (0) (0)), (6, 16, .int .i64 20), (8, 6, .int .i64 20)] [(7, 0)] [] [false, false] ?_ ?_
  · refine oc (g_ld 0 uN iN) ?_
    refine oc (g_cl ent_limb_Widen (fun uZ => nWiden a uZ ha)) ?_
    refine oc (g_ld 1 uN iN) ?_
    refine oc (g_cl ent_mod_Reduce (fun uZ => mReduce0 a uZ)) ?_
    refine oc g_mv ?_
    refine oc g_ex ?_
    refine oc g_ex ?_
    refine oc (g_st 0 iN) ?_
    exact oc g_as on
  intro u1 HB1 sz1 K1
  simp only [fX, nK, nP, Wr.f, aK, pM] at K1
  simp only [setG, setN, List.set_cons_zero, List.set_cons_succ]
  clear K0 HB0
  go_upto_region 3 with fail
  refine rgP K1 HB1 HB1.size [.all 2 ([.int .u64 (0), .int .u64 (0), .int .u64 (0), .int .u64 (0)])] [] [(0, 19, A4 (0) (0) (0) (0)), (1, 20, .int .i64 20), (3, 5, .int .i64 20)] [] [] [] ?_ ?_
  · refine oc (g_bd zN) ?_
    refine oc g_mv ?_
    refine oc (g_st 0 iN) ?_
    exact oc g_as on
  intro u2 HB2 sz2 K2
  simp only [fX, nK, nP, Wr.f, aK, pM] at K2
  simp only [setG, setN, List.set_cons_zero, List.set_cons_succ]
  clear K1 HB1
  have c4_0 := ((K2.cv 0) 0 _ rfl).1
  have c4_1 := ((K2.cv 0) 1 _ rfl).1
  have c4_2 := ((K2.cv 0) 2 _ rfl).1
  have c4_3 := ((K2.cv 0) 3 _ rfl).1
  go_wp2
  refine bodyPost_ret (v := .tuple #[A4 0 0 0 0, .int .i64 20]) (by simp [results, Try.results21, go_sem, c4_0, c4_1, c4_2, c4_3]) rfl ⟨rfl, HB2⟩
end Go.Proofs.Ytkpnjmfndgfogaa
