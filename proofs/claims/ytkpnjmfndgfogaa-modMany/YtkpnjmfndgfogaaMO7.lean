/- Numbers modulo one: Exp. -/
import Derived.Test.YtkpnjmfndgfogaaRC
import Derived.Test.YtkpnjmfndgfogaaMO4
import Derived.Test.YtkpnjmfndgfogaaMQ
namespace Go.Proofs.Ytkpnjmfndgfogaa
open Go.RowKit
set_option linter.unusedVariables false
set_option linter.unusedSimpArgs false
theorem In_R4 (n : Int) : In (n % 115792089237316195423570985008687907853269984665640564039457584007913129639936) := ⟨Int.emod_nonneg _ (by decide), Int.emod_lt_of_pos _ (by decide)⟩
theorem mraise_low (a e : Int) (bo : Nat) (w : World) (ha : In a) (he : In e) (lb : bo < w.heap.size) :
    Calls Try.prog 88 #[NV a, NV e, NV 1, .func (.func 89) #[] #[]] w fun en w' => en = .returned (NV (a ^ e.toNat % 115792089237316195423570985008687907853269984665640564039457584007913129639936)) ∧ Below w.heap.size w w' := by
  have hT : Hid (∀ (i j : Nat) (u : World), CV u bo [] → bo < u.heap.size → Calls Try.prog 89 (([] : List Value) ++ [NV (a ^ i % 115792089237316195423570985008687907853269984665640564039457584007913129639936), NV (a ^ j % 115792089237316195423570985008687907853269984665640564039457584007913129639936)]).toArray u fun en u' => en = .returned (NV (a ^ (i + j) % 115792089237316195423570985008687907853269984665640564039457584007913129639936)) ∧ Below u.heap.size u u') := fun i j u _ _ => by
    have k := mlowProduct (a ^ i % 115792089237316195423570985008687907853269984665640564039457584007913129639936) (a ^ j % 115792089237316195423570985008687907853269984665640564039457584007913129639936) u (In_R4 _) (In_R4 _)
    rw [← Int.mul_emod, ← Int.pow_add] at k
    exact k
  have k := mraise 89 [] (fun k => a ^ k % 115792089237316195423570985008687907853269984665640564039457584007913129639936) e bo [] w ent_mod_lowProduct hT he (fun j v hj => by simp at hj) lb
  have e0 : a ^ 0 % 115792089237316195423570985008687907853269984665640564039457584007913129639936 = 1 := by rw [Int.pow_zero]; decide
  have e1 : a ^ 1 % 115792089237316195423570985008687907853269984665640564039457584007913129639936 = a := by rw [Int.pow_succ, Int.pow_zero, Int.one_mul]; exact In_lo ha
  simp only [e0, e1] at k
  exact k
set_option maxRecDepth 100000 in
set_option maxHeartbeats 16000000 in
theorem mExp0 (a e : Int) (w : World) :
    Calls Try.prog 64 #[NV a, NV e, A4 0 0 0 0] w fun en w' => en = .returned (.tuple #[A4 0 0 0 0, .int .i64 20]) ∧ Below w.heap.size w w' := by
  go_enter Try.func64, Try.ntmps64
  go_upto_region 1 with fail
  generalize hC : ((((w.alloc (.cells (LN a : List Value).toArray 25)).alloc (.cells (LN e : List Value).toArray 25)).alloc (.cells ([.int .u64 (0), .int .u64 (0), .int .u64 (0), .int .u64 (0)] : List Value).toArray 25)).alloc (.cells (L0s : List Value).toArray 25)) = v0 at *
  have HB0 : Below w.heap.size w v0 := by rw [← hC]; exact balloc (balloc (balloc (balloc (bself w) _) _) _) _
  have K0 : Bk w.heap.size v0 [(true, w.heap.size, LN a), (true, w.heap.size + 1, LN e), (true, w.heap.size + 1 + 1, [.int .u64 (0), .int .u64 (0), .int .u64 (0), .int .u64 (0)]), (true, w.heap.size + 1 + 1 + 1, L0s)] := by rw [← hC]; exact (Bk.nil _ w).ad.ad.ad.ad
  clear hC
  refine rgD K0 HB0 HB0.size [] [(2, 8, L0s, some (4, [.int .u64 (0), .int .u64 (0), .int .u64 (0), .int .u64 (0)])), (3, 9, L0s, some (5, LN 1))] [(0, 12, .agg #[.int .u64 (0), .int .u64 (0), .int .u64 (0), .int .u64 (0)]), (1, 13, NV 1)] [(4, 2), (5, 3)] [] [false, false, true, true, false, false] ?_ ?_
  · refine oc (g_ld 2 uN iN) ?_
    refine oc (g_cl ent_limb_Of (fun uZ => nOf 1 uZ (by omega) (by omega))) ?_
    refine oc (g_al 0 aN) ?_
    refine oc (g_al 1 aN) ?_
    refine oc (g_sn 0 iN) ?_
    exact oc (g_sn 1 iN) on
  intro u1 b1_2 b1_3 HB1 sz1 K1
  simp only [fX, nK, nP, Wr.f, aK, pM] at K1
  simp only [setG, setN, List.set_cons_zero, List.set_cons_succ]
  clear K0 HB0
  go_upto_region 2 with fail
  refine rgP K1 HB1 HB1.size [] [(0, 10, L0s, none), (1, 11, L0s, none)] [] [] [] [true, true, false, false] ?_ ?_
  · refine oc (g_al 0 aN) ?_
    exact oc (g_al 1 aN) on
  intro u2 b2_0 b2_1 HB2 sz2 K2
  simp only [fX, nK, nP, Wr.f, aK, pM] at K2
  simp only [setG, setN, List.set_cons_zero, List.set_cons_succ]
  clear K1 HB1
  go_upto_region 3 with fail
  refine rgP K2 HB2 HB2.size [] [] [(0, 15, .agg #[.int .u64 (0), .int .u64 (0), .int .u64 (0), .int .u64 (0)]), (1, 16, A4 (0) (0) (0) (0)), (2, 17, .bool true), (3, 14, .bool true)] [] [] [false] ?_ ?_
  · refine oc (g_ld 0 uN iN) ?_
    refine oc (g_bd zN) ?_
    refine oc (g_bn (fun uZ => by rw [eql_w])) ?_
    exact oc g_as on
  intro u3 HB3 sz3 K3
  simp only [fX, nK, nP, Wr.f, aK, pM] at K3
  simp only [setG, setN, List.set_cons_zero, List.set_cons_succ]
  clear K2 HB2
  go_upto_region 5 with fail
  refine rgP K3 HB3 HB3.size [.all 1 ([.int .u64 (0), .int .u64 (0), .int .u64 (0), .int .u64 (0)])] [] [(0, 22, A4 (0) (0) (0) (0)), (2, 7, (Go.Value.int Go.IntKind.i64 20))] [] [] [] ?_ ?_
  · refine oc (g_bd zN) ?_
    refine oc (g_st 0 iN) ?_
    exact oc g_as on
  intro u4 HB4 sz4 K4
  simp only [fX, nK, nP, Wr.f, aK, pM] at K4
  simp only [setG, setN, List.set_cons_zero, List.set_cons_succ]
  clear K3 HB3
  have c6_0 := ((K4.cv 0) 0 _ rfl).1
  have c6_1 := ((K4.cv 0) 1 _ rfl).1
  have c6_2 := ((K4.cv 0) 2 _ rfl).1
  have c6_3 := ((K4.cv 0) 3 _ rfl).1
  go_wp2
  refine bodyPost_ret (v := .tuple #[A4 0 0 0 0, .int .i64 20]) (by simp [results, Try.results64, go_sem, c6_0, c6_1, c6_2, c6_3]) rfl ⟨rfl, HB4⟩
set_option maxRecDepth 100000 in
set_option maxHeartbeats 16000000 in
theorem mExp_odd (a e m : Int) (w : World) (ha : In a) (he : In e) (hm : In m) (h : m ≠ 0) (hodd : m % 2 = 1) :
    Calls Try.prog 64 #[NV a, NV e, NV m] w fun en w' => en = .returned (.tuple #[NV (a ^ e.toNat % m), .int .i64 0]) ∧ Below w.heap.size w w' := by
  have hz : decide (m = 0) = false := by simp [h]
  have hB : Hid (∀ u, Calls Try.prog 86 #[NV m, .int .i64 0] u fun en u' => en = .returned (.bool true) ∧ Below u.heap.size u u') := fun u => by
    have k := nBit m 0 u (by omega) (by omega)
    have e : bitI m 0 = true := by unfold bitI; simp; omega
    rw [e] at k; exact k
  have hJ : Hid (∀ u, Calls Try.prog 91 #[NV (a ^ e.toNat % m), NV m, A4 0 0 0 0, NV 1] u fun en u' => en = .returned (NV (a ^ e.toNat % m)) ∧ Below u.heap.size u u') := fun u => by
    rw [← NV_0]; exact mjoin_1 _ m 0 1 u In_1 rfl
  go_enter Try.func64, Try.ntmps64
  go_upto_region 1 with fail
  generalize hC : ((((w.alloc (.cells (LN a : List Value).toArray 25)).alloc (.cells (LN e : List Value).toArray 25)).alloc (.cells (LN m : List Value).toArray 25)).alloc (.cells (L0s : List Value).toArray 25)) = v0 at *
  have HB0 : Below w.heap.size w v0 := by rw [← hC]; exact balloc (balloc (balloc (balloc (bself w) _) _) _) _
  have K0 : Bk w.heap.size v0 [(true, w.heap.size, LN a), (true, w.heap.size + 1, LN e), (true, w.heap.size + 1 + 1, LN m), (true, w.heap.size + 1 + 1 + 1, L0s)] := by rw [← hC]; exact (Bk.nil _ w).ad.ad.ad.ad
  clear hC
  refine rgD K0 HB0 HB0.size [] [(2, 8, L0s, some (4, LN m)), (3, 9, L0s, some (5, LN 1))] [(0, 12, NV m), (1, 13, NV 1)] [(4, 2), (5, 3)] [] [] ?_ ?_
  · refine oc (g_ld 2 uN iN) ?_
    refine oc (g_cl ent_limb_Of (fun uZ => nOf 1 uZ (by omega) (by omega))) ?_
    refine oc (g_al 0 aN) ?_
    refine oc (g_al 1 aN) ?_
    refine oc (g_sn 0 iN) ?_
    exact oc (g_sn 1 iN) on
  intro u1 b1_2 b1_3 HB1 sz1 K1
  simp only [fX, nK, nP, Wr.f, aK, pM] at K1
  simp only [setG, setN, List.set_cons_zero, List.set_cons_succ]
  clear K0 HB0
  go_upto_region 2 with fail
  refine rgP K1 HB1 HB1.size [] [(0, 10, L0s, none), (1, 11, L0s, none)] [] [] [] [] ?_ ?_
  · refine oc (g_al 0 aN) ?_
    exact oc (g_al 1 aN) on
  intro u2 b2_0 b2_1 HB2 sz2 K2
  simp only [fX, nK, nP, Wr.f, aK, pM] at K2
  simp only [setG, setN, List.set_cons_zero, List.set_cons_succ]
  clear K1 HB1
  go_upto_region 3 with fail
  refine rgP K2 HB2 HB2.size [] [] [(0, 15, NV m), (1, 16, A4 (0) (0) (0) (0)), (2, 17, .bool false), (3, 14, .bool false)] [] [] [] ?_ ?_
  · refine oc (g_ld 2 uN iN) ?_
    refine oc (g_bd zN) ?_
    refine oc (g_bn (fun uZ => eql_0 _ _ hm _ hz uZ)) ?_
    exact oc g_as on
  intro u3 HB3 sz3 K3
  simp only [fX, nK, nP, Wr.f, aK, pM] at K3
  simp only [setG, setN, List.set_cons_zero, List.set_cons_succ]
  clear K2 HB2
  go_upto_region 4 with fail
  refine rgP K3 HB3 HB3.size [] [] [(0, 19, NV m), (1, 20, .bool true), (2, 21, .bool false), (3, 18, .bool false)] [] [] [true, true, false] ?_ ?_
  · refine oc (g_ld 2 uN iN) ?_
    refine oc (g_cl ent_limb_Bit (fun uZ => hB.out uZ)) ?_
    refine oc (g_un (fun uZ => rfl)) ?_
    exact oc g_as on
  intro u4 HB4 sz4 K4
  simp only [fX, nK, nP, Wr.f, aK, pM] at K4
  simp only [setG, setN, List.set_cons_zero, List.set_cons_succ]
  clear K3 HB3
  go_upto_region 8 with fail
  refine rgP K4 HB4 HB4.size [.no, .no, .no, .no, .no, .all 4 (LN (a ^ e.toNat % m))] [] [(0, 32, NV a), (1, 33, NV e), (2, 34, NV m), (3, 35, NV (a ^ e.toNat % m))] [] [] [false, false] ?_ ?_
  · refine oc (g_ld 0 uN iN) ?_
    refine oc (g_ld 1 uN iN) ?_
    refine oc (g_ld 3 uN iN) ?_
    refine oc (g_cl ent_mod_powerOfOdd (fun uZ => mpow a e m uZ ha he hm h hodd)) ?_
    exact oc (g_st 5 iN) on
  intro u5 HB5 sz5 K5
  simp only [fX, nK, nP, Wr.f, aK, pM] at K5
  simp only [setG, setN, List.set_cons_zero, List.set_cons_succ]
  clear K4 HB4
  go_upto_region 9 with fail
  refine rgP K5 HB5 HB5.size [.all 5 (LN (a ^ e.toNat % m))] [] [(0, 36, NV (a ^ e.toNat % m)), (1, 37, NV m), (2, 38, A4 (0) (0) (0) (0)), (3, 39, NV 1), (4, 40, NV (a ^ e.toNat % m)), (6, 7, (Go.Value.int Go.IntKind.i64 0))] [] [] [true, false, false, false, false] ?_ ?_
  · refine oc (g_ld 3 uN iN) ?_
    refine oc (g_ld 1 uN iN) ?_
    refine oc (g_ld 4 uN iN) ?_
    refine oc (g_ld 2 uN iN) ?_
    refine oc (g_cl ent_mod_join (fun uZ => hJ.out uZ)) ?_
    refine oc (g_st 0 iN) ?_
    exact oc g_as on
  intro u6 HB6 sz6 K6
  simp only [fX, nK, nP, Wr.f, aK, pM] at K6
  simp only [setG, setN, List.set_cons_zero, List.set_cons_succ]
  clear K5 HB5
  have c6_0 := ((K6.cv 0) 0 _ rfl).1
  have c6_1 := ((K6.cv 0) 1 _ rfl).1
  have c6_2 := ((K6.cv 0) 2 _ rfl).1
  have c6_3 := ((K6.cv 0) 3 _ rfl).1
  go_wp2
  refine bodyPost_ret (v := .tuple #[NV (a ^ e.toNat % m), .int .i64 0]) (by simp [results, Try.results64, go_sem, c6_0, c6_1, c6_2, c6_3]) rfl ⟨rfl, HB6⟩
set_option maxRecDepth 100000 in
set_option maxHeartbeats 16000000 in
theorem mExp_even (a e m : Int) (w : World) (ha : In a) (he : In e) (hm : In m) (h : m ≠ 0) (hev : m % 2 = 0) :
    Calls Try.prog 64 #[NV a, NV e, NV m] w fun en w' => en = .returned (.tuple #[NV (a ^ e.toNat % m), .int .i64 0]) ∧ Below w.heap.size w w' := by
  have hz : decide (m = 0) = false := by simp [h]
  have hB : Hid (∀ u, Calls Try.prog 86 #[NV m, .int .i64 0] u fun en u' => en = .returned (.bool false) ∧ Below u.heap.size u u') := fun u => by
    have k := nBit m 0 u (by omega) (by omega)
    have e : bitI m 0 = false := by unfold bitI; simp; omega
    rw [e] at k; exact k
  obtain ⟨s, hs, w0, w1, w2, w3, hdv, hod, hmd⟩ := low_words m hm h
  have hSp : Hid (∀ u, Calls Try.prog 87 #[NV m] u fun en u' => en = .returned (.tuple #[NV (m / 2 ^ s), NV (2 ^ s)]) ∧ Below u.heap.size u u') := fun u => msplit m s u hm h hs w0 w1 w2 w3
  have ip := In_pow hs
  have hp : (0 : Int) < 2 ^ s := Int.pow_pos (by decide)
  have io : In (m / 2 ^ s) := In_div hm ip (by omega)
  have hmot : m / 2 ^ s * 2 ^ s = m := Int.ediv_mul_cancel hdv
  have hs1 : (2 : Int) ^ s ≠ 1 := by
    intro e1
    rw [e1] at hod
    simp at hod; omega
  have hdR : (2 : Int) ^ s ∣ 115792089237316195423570985008687907853269984665640564039457584007913129639936 := by
    have e : (115792089237316195423570985008687907853269984665640564039457584007913129639936 : Int) = 2 ^ 256 := by decide
    rw [e]; exact ⟨2 ^ (256 - s), by rw [← Int.pow_add, show s + (256 - s) = 256 by omega]⟩
  have hpc := fun (o : Int) (ho : o % 2 = 1) (h0 : 0 < o) => pow_coprime o ho h0 s
  clear w0 w1 w2 w3 hmd
  generalize m / 2 ^ s = o at *
  generalize (2 : Int) ^ s = t at *
  have ho0 : o ≠ 0 := by intro e; subst e; simp at hod
  have hop : 0 < o := by have := io.1; omega
  have hoo : o % 2 = 1 := hod
  have hJ : Hid (∀ u, Calls Try.prog 91 #[NV (a ^ e.toNat % o), NV o, NV (a ^ e.toNat % 115792089237316195423570985008687907853269984665640564039457584007913129639936), NV t] u fun en u' => en = .returned (NV (a ^ e.toNat % m)) ∧ Below u.heap.size u u') := fun u => by
    have hg := hpc o hoo hop
    obtain ⟨i, hi⟩ := IsInv.ex (m := t) (a := o % t) (Int.emod_nonneg _ (by omega)) (Int.emod_lt_of_pos _ hp) hg
    have k := mjoin (a ^ e.toNat % o) o (a ^ e.toNat % 115792089237316195423570985008687907853269984665640564039457584007913129639936) t i u (In_mod io ho0) io (In_R4 _) ip (by omega) hs1 hg hi (Int.emod_lt_of_pos _ hop) (by rw [hmot]; have := hm.2; omega)
    have hti : t ∣ i * o - 1 := by
      obtain ⟨q, hq⟩ := hi.2.2
      have e3 := Int.mul_ediv_add_emod o t
      refine ⟨q + i * (o / t), ?_⟩
      generalize o / t = z at *
      generalize o % t = r at *
      have : r = o - t * z := by omega
      subst this; grind
    have hA := crt_join (a ^ e.toNat) o t i (a ^ e.toNat % o) (a ^ e.toNat % 115792089237316195423570985008687907853269984665640564039457584007913129639936) hop hp (Int.emod_nonneg _ ho0) (Int.emod_lt_of_pos _ hop) (Int.dvd_self_sub_emod) (Int.dvd_trans hdR Int.dvd_self_sub_emod) hti
    rw [hmot] at hA
    rw [hA] at k
    exact k
  clear hpc hmot hdR hod hs1
  go_enter Try.func64, Try.ntmps64
  go_upto_region 1 with fail
  generalize hC : ((((w.alloc (.cells (LN a : List Value).toArray 25)).alloc (.cells (LN e : List Value).toArray 25)).alloc (.cells (LN m : List Value).toArray 25)).alloc (.cells (L0s : List Value).toArray 25)) = v0 at *
  have HB0 : Below w.heap.size w v0 := by rw [← hC]; exact balloc (balloc (balloc (balloc (bself w) _) _) _) _
  have K0 : Bk w.heap.size v0 [(true, w.heap.size, LN a), (true, w.heap.size + 1, LN e), (true, w.heap.size + 1 + 1, LN m), (true, w.heap.size + 1 + 1 + 1, L0s)] := by rw [← hC]; exact (Bk.nil _ w).ad.ad.ad.ad
  clear hC
  refine rgD K0 HB0 HB0.size [] [(2, 8, L0s, some (4, LN m)), (3, 9, L0s, some (5, LN 1))] [(0, 12, NV m), (1, 13, NV 1)] [(4, 2), (5, 3)] [] [] ?_ ?_
  · refine oc (g_ld 2 uN iN) ?_
    refine oc (g_cl ent_limb_Of (fun uZ => nOf 1 uZ (by omega) (by omega))) ?_
    refine oc (g_al 0 aN) ?_
    refine oc (g_al 1 aN) ?_
    refine oc (g_sn 0 iN) ?_
    exact oc (g_sn 1 iN) on
  intro u1 b1_2 b1_3 HB1 sz1 K1
  simp only [fX, nK, nP, Wr.f, aK, pM] at K1
  simp only [setG, setN, List.set_cons_zero, List.set_cons_succ]
  clear K0 HB0
  go_upto_region 2 with fail
  refine rgP K1 HB1 HB1.size [] [(0, 10, L0s, none), (1, 11, L0s, none)] [] [] [] [] ?_ ?_
  · refine oc (g_al 0 aN) ?_
    exact oc (g_al 1 aN) on
  intro u2 b2_0 b2_1 HB2 sz2 K2
  simp only [fX, nK, nP, Wr.f, aK, pM] at K2
  simp only [setG, setN, List.set_cons_zero, List.set_cons_succ]
  clear K1 HB1
  go_upto_region 3 with fail
  refine rgP K2 HB2 HB2.size [] [] [(0, 15, NV m), (1, 16, A4 (0) (0) (0) (0)), (2, 17, .bool false), (3, 14, .bool false)] [] [] [] ?_ ?_
  · refine oc (g_ld 2 uN iN) ?_
    refine oc (g_bd zN) ?_
    refine oc (g_bn (fun uZ => eql_0 _ _ hm _ hz uZ)) ?_
    exact oc g_as on
  intro u3 HB3 sz3 K3
  simp only [fX, nK, nP, Wr.f, aK, pM] at K3
  simp only [setG, setN, List.set_cons_zero, List.set_cons_succ]
  clear K2 HB2
  go_upto_region 4 with fail
  refine rgP K3 HB3 HB3.size [] [] [(0, 19, NV m), (1, 20, .bool false), (2, 21, .bool true), (3, 18, .bool true)] [] [] [] ?_ ?_
  · refine oc (g_ld 2 uN iN) ?_
    refine oc (g_cl ent_limb_Bit (fun uZ => hB.out uZ)) ?_
    refine oc (g_un (fun uZ => rfl)) ?_
    exact oc g_as on
  intro u4 HB4 sz4 K4
  simp only [fX, nK, nP, Wr.f, aK, pM] at K4
  simp only [setG, setN, List.set_cons_zero, List.set_cons_succ]
  clear K3 HB3
  go_upto_region 6 with fail
  refine rgP K4 HB4 HB4.size [.no, .no, .no, .no, .all 5 (LN o), .all 6 (LN t)] [] [(0, 24, NV m), (1, 25, .tuple #[NV o, NV t]), (2, 23, .tuple #[NV o, NV t]), (3, 26, NV o), (4, 27, NV t)] [] [] [true, true, false] ?_ ?_
  · refine oc (g_ld 2 uN iN) ?_
    refine oc (g_cl ent_mod_split (fun uZ => hSp.out uZ)) ?_
    refine oc g_mv ?_
    refine oc g_ex ?_
    refine oc g_ex ?_
    refine oc (g_st 4 iN) ?_
    exact oc (g_st 5 iN) on
  intro u5 HB5 sz5 K5
  simp only [fX, nK, nP, Wr.f, aK, pM] at K5
  simp only [setG, setN, List.set_cons_zero, List.set_cons_succ]
  clear K4 HB4
  go_upto_region 7 with fail
  refine rgD K5 HB5 HB5.size [.no, .no, .no, .no, .no, .no, .all 4 (LN (a ^ e.toNat % 115792089237316195423570985008687907853269984665640564039457584007913129639936))] [] [(0, 28, NV a), (1, 29, NV e), (2, 30, NV 1), (3, 31, NV (a ^ e.toNat % 115792089237316195423570985008687907853269984665640564039457584007913129639936))] [] [] [] ?_ ?_
  · refine oc (g_ld 0 uN iN) ?_
    refine oc (g_ld 1 uN iN) ?_
    refine oc (g_cl ent_limb_Of (fun uZ => nOf 1 uZ (by omega) (by omega))) ?_
    refine oc (g_ck ent_mod_raise (fun fZ uZ kZ sZ => mraise_low a e (w.heap.size) uZ ha he (kZ.lb sZ 0))) ?_
    exact oc (g_st 6 iN) on
  intro u6 HB6 sz6 K6
  simp only [fX, nK, nP, Wr.f, aK, pM] at K6
  simp only [setG, setN, List.set_cons_zero, List.set_cons_succ]
  clear K5 HB5
  go_upto_region 8 with fail
  refine rgP K6 HB6 HB6.size [.no, .no, .no, .no, .no, .all 4 (LN (a ^ e.toNat % o))] [] [(0, 32, NV a), (1, 33, NV e), (2, 34, NV o), (3, 35, NV (a ^ e.toNat % o))] [] [] [false, false] ?_ ?_
  · refine oc (g_ld 0 uN iN) ?_
    refine oc (g_ld 1 uN iN) ?_
    refine oc (g_ld 3 uN iN) ?_
    refine oc (g_cl ent_mod_powerOfOdd (fun uZ => mpow a e o uZ ha he io ho0 hoo)) ?_
    exact oc (g_st 5 iN) on
  intro u7 HB7 sz7 K7
  simp only [fX, nK, nP, Wr.f, aK, pM] at K7
  simp only [setG, setN, List.set_cons_zero, List.set_cons_succ]
  clear K6 HB6
  go_upto_region 9 with fail
  refine rgP K7 HB7 HB7.size [.all 5 (LN (a ^ e.toNat % m))] [] [(0, 36, NV (a ^ e.toNat % o)), (1, 37, NV o), (2, 38, NV (a ^ e.toNat % 115792089237316195423570985008687907853269984665640564039457584007913129639936)), (3, 39, NV t), (4, 40, NV (a ^ e.toNat % m)), (6, 7, (Go.Value.int Go.IntKind.i64 0))] [] [] [true, false, false, false, false] ?_ ?_
  · refine oc (g_ld 3 uN iN) ?_
    refine oc (g_ld 1 uN iN) ?_
    refine oc (g_ld 4 uN iN) ?_
    refine oc (g_ld 2 uN iN) ?_
    refine oc (g_cl ent_mod_join (fun uZ => hJ.out uZ)) ?_
    refine oc (g_st 0 iN) ?_
    exact oc g_as on
  intro u8 HB8 sz8 K8
  simp only [fX, nK, nP, Wr.f, aK, pM] at K8
  simp only [setG, setN, List.set_cons_zero, List.set_cons_succ]
  clear K7 HB7
  have c6_0 := ((K8.cv 0) 0 _ rfl).1
  have c6_1 := ((K8.cv 0) 1 _ rfl).1
  have c6_2 := ((K8.cv 0) 2 _ rfl).1
  have c6_3 := ((K8.cv 0) 3 _ rfl).1
  go_wp2
  refine bodyPost_ret (v := .tuple #[NV (a ^ e.toNat % m), .int .i64 0]) (by simp [results, Try.results64, go_sem, c6_0, c6_1, c6_2, c6_3]) rfl ⟨rfl, HB8⟩
theorem mExp (a e m : Int) (w : World) (ha : In a) (he : In e) (hm : In m) (h : m ≠ 0) :
    Calls Try.prog 64 #[NV a, NV e, NV m] w fun en w' => en = .returned (.tuple #[NV (a ^ e.toNat % m), .int .i64 0]) ∧ Below w.heap.size w w' := by
  rcases Int.emod_two_eq m with h2 | h2
  · exact mExp_even a e m w ha he hm h h2
  · exact mExp_odd a e m w ha he hm h h2
end Go.Proofs.Ytkpnjmfndgfogaa
