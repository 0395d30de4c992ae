import Derived.Test.YtgfggkinmhhdnaaRC
import Derived.Test.YtgfggkinmhhdnaaMA1
import Derived.Test.YtgfggkinmhhdnaaNN
import Derived.Test.YtgfggkinmhhdnaaB45
import Derived.Test.YtgfggkinmhhdnaaRS
import Derived.Test.YtgfggkinmhhdnaaMO5
import Derived.Test.YtgfggkinmhhdnaaL0
import Derived.Test.YtgfggkinmhhdnaaEE
/- The reference's Exp. -/
namespace Go.Proofs.Ytgfggkinmhhdnaa
open Go.RowKit
set_option linter.unusedVariables false
set_option linter.unusedSimpArgs false
theorem nrLen (e : Int) (w : World) : Calls Try.prog 54 #[NV e] w fun en w' => en = .returned (.int .i64 (lenI e)) ∧ Below w.heap.size w w' :=
  rLength_any _ _ _ _ w (W_D0 e) (W_D1 e) (W_D2 e) (W_D3 e)
theorem nrBit (e i : Int) (w : World) (h0 : 0 ≤ i) (h1 : i < 256) : Calls Try.prog 56 #[NV e, .int .i64 i] w fun en w' => en = .returned (.bool (bitI e i)) ∧ Below w.heap.size w w' := by
  rw [← bitv_I h0 h1]; exact rBit_any _ _ _ _ i w (W_D0 e) (W_D1 e) (W_D2 e) (W_D3 e)
theorem bdw1 (w : World) : (Instr.build 45 [(0, .int .u64 1)].toArray).run Try.prog w = .ok (WV 1) w := by
  have e : WV 1 = A8 1 0 0 0 0 0 0 0 := WV_of 1 1 0 0 0 0 0 0 0 ⟨by omega, by omega⟩ W_0 W_0 W_0 W_0 W_0 W_0 W_0 (by simp [V])
  have k : (Instr.build 45 [(0, .int .u64 1)].toArray).run Try.prog w = .ok (A8 1 0 0 0 0 0 0 0) w := by kernel_rfl
  rw [e]; exact k
theorem geq_i (p q : Operand) (x y : Int) (b : Bool) (w : World) (h : decide (y ≤ x) = b) : (do eqGuard .geq 3 p q (.int .i64 x) (.int .i64 y); binOp .geq 3 (.int .i64 x) (.int .i64 y) : Sem Value).run Try.prog w = .ok (.bool b) w := by
  subst h; go_simp
set_option maxRecDepth 100000 in
set_option maxHeartbeats 2000000 in
theorem xExpP (P : Nat → Int) (a e m : Int) (w : World) (ha : In a) (he : In e) (hm : In m) (h : m ≠ 0) (hP0 : P 0 = 1 % m)
    (hQ : Hid (∀ i j u, Calls Try.prog 55 #[NV (P i), NV (P j), NV m] u fun en u' => en = .returned (.tuple #[NV (P (i + j)), .int .i64 0]) ∧ Below u.heap.size u u'))
    (hU : Hid (∀ i u, Calls Try.prog 55 #[NV (P i), NV a, NV m] u fun en u' => en = .returned (.tuple #[NV (P (i + 1)), .int .i64 0]) ∧ Below u.heap.size u u')) :
    Calls Try.prog 33 #[NV a, NV e, NV m] w fun en w' => en = .returned (.tuple #[NV (P e.toNat), .int .i64 0]) ∧ Below w.heap.size w w' := by
  have hb := lenI_bd e
  obtain ⟨L, hLe⟩ : ∃ L : Nat, lenI e = (L : Int) := ⟨(lenI e).toNat, by omega⟩
  have hL : Hid (∀ u, Calls Try.prog 54 #[NV e] u fun en u' => en = .returned (.int .i64 (L : Int)) ∧ Below u.heap.size u u') := fun u => by rw [← hLe]; exact nrLen e u
  have hlt := lenI_lt he
  rw [hLe] at hlt hb
  have h0 : Hid (P (e / 2 ^ L).toNat = 1 % m) := by
    show P (e / 2 ^ L).toNat = 1 % m
    rw [Int.ediv_eq_zero_of_lt he.1 (by simpa using hlt), ← hP0]; rfl
  have hL256 : L ≤ 256 := by omega
  clear hLe hlt hb hP0
  go_enter Try.func33, Try.ntmps33
  go_upto_region 1 with fail
  generalize hC : ((((w.alloc (.cells (LN a : List Value).toArray 24)).alloc (.cells (LN e : List Value).toArray 24)).alloc (.cells (LN m : List Value).toArray 24)).alloc (.cells (L0s : List Value).toArray 24)) = v0 at *
  have HB0 : Below w.heap.size w v0 := by rw [← hC]; exact balloc (balloc (balloc (balloc (bself w) _) _) _) _
  have K0 : Bk w.heap.size v0 [(true, w.heap.size, LN a), (true, w.heap.size + 1, LN e), (true, w.heap.size + 1 + 1, LN m), (true, w.heap.size + 1 + 1 + 1, L0s)] := by rw [← hC]; exact (Bk.nil _ w).ad.ad.ad.ad
  clear hC
  refine rgP K0 HB0 HB0.size [] [(6, 8, L0s, some (7, LN (1 % m)))] [(0, 12, WV 1), (1, 13, NV m), (2, 14, .tuple #[NV (1 % m), .int .i64 0]), (3, 11, .tuple #[NV (1 % m), .int .i64 0]), (4, 15, NV (1 % m)), (5, 16, .int .i64 0), (8, 9, .int .i64 0)] [(7, 6)] [] [] ?_ ?_
  · refine oc (g_bd (fun uZ => bdw1 uZ)) ?_
    refine oc (g_ld 2 uN iN) ?_
    refine oc (g_cl ent_seneschalref02_Reduce (fun uZ => xReduce 1 m uZ In_1.wide hm h)) ?_
    refine oc g_mv ?_
    refine oc g_ex ?_
    refine oc g_ex ?_
    refine oc (g_al 0 aN) ?_
    refine oc (g_sn 0 iN) ?_
    exact oc g_as on
  intro u1 b1_6 HB1 sz1 K1
  simp only [fX, nK, nP, Wr.f, aK, pM] at K1
  simp only [setG, setN, List.set_cons_zero, List.set_cons_succ]
  clear K0 HB0
  go_upto_region 4 with fail
  refine rgP K1 HB1 HB1.size [] [] [(0, 21, NV e), (1, 22, .int .i64 (L : Int)), (2, 23, .int .i64 ((L : Int) - 1)), (3, 10, .int .i64 ((L : Int) - 1))] [] [] [] ?_ ?_
  · refine oc (g_ld 1 uN iN) ?_
    refine oc (g_cl ent_seneschalref01_Length (fun uZ => hL.out uZ)) ?_
    refine oc (g_bn (fun uZ => sub_i _ _ (L : Int) 1 ((L : Int) - 1) uZ rfl (by omega) (by omega))) ?_
    exact oc g_as on
  intro u2 HB2 sz2 K2
  simp only [fX, nK, nP, Wr.f, aK, pM] at K2
  simp only [setG, setN, List.set_cons_zero, List.set_cons_succ]
  clear K1 HB1
  go_wp2_with fail
  go_loopw [10] (fun s10 wr => ∃ (j : Nat), j ≤ L ∧ s10 = .int .i64 ((j : Int) - 1) ∧ Below w.heap.size w wr ∧ CV wr (w.heap.size) (LN a) ∧ CV wr (w.heap.size + 1) (LN e) ∧ CV wr (w.heap.size + 1 + 1) (LN m) ∧ CV wr (w.heap.size + 1 + 1 + 1) L0s ∧ CV wr b1_6 (LN (P (e / 2 ^ j).toNat)) ∧ b1_6 < wr.heap.size) (fun s10 _ => (intOf s10 + 1).toNat)
  case atStart => exact ⟨L, by omega, rfl, HB2, (K2.cv 0), (K2.cv 1), (K2.cv 2), (K2.cv 3), by rw [h0.out]; exact (K2.cv 4), (K2.lt 4)⟩
  case round =>
    obtain ⟨j, hj, rfl, HBr, Ka, Ke, Km, Kr, Kp, lp⟩ := hrel
    clear HB2
    have hn := K2.n
    simp at hn
    have ho4 := K2.lo 4
    by_cases hj0 : j = 0
    · have hb : decide (0 ≤ (j : Int) - 1) = false := by simp; omega
      have hend : (e / 2 ^ j).toNat = e.toNat := by rw [hj0]; simp
      have Kp : CV wr b1_6 (LN (P e.toNat)) := by rw [← hend]; exact Kp
      clear hend
      have K2_1 : Bk w.heap.size wr [(false, w.heap.size, LN a), (false, w.heap.size + 1, LN e), (false, w.heap.size + 1 + 1, LN m), (true, w.heap.size + 1 + 1 + 1, L0s), (false, b1_6, LN (P e.toNat))] := ⟨.c (by omega) Ka <| .c (by omega) Ke <| .c (by omega) Km <| .o (by omega) (K2.lo 3) Kr <| .c lp Kp <| trivial, by simp; omega⟩
      go_upto_region 5 with fail
      refine rgP K2_1 HBr HBr.size [] [] [(0, 24, .int .i64 ((j : Int) - 1)), (1, 25, .bool false)] [] [] [false, false, false] ?_ ?_
      · refine oc g_mv ?_
        exact oc (g_bn (fun uZ => geq_i _ _ ((j : Int) - 1) 0 _ uZ hb)) on
      intro u3 HB3 sz3 K3
      simp only [fX, nK, nP, Wr.f, aK, pM] at K3
      simp only [setG, setN, List.set_cons_zero, List.set_cons_succ]
      go_upto_region 10 with fail
      refine rgP K3 HB3 HB3.size [.all 1 (LN (P e.toNat))] [] [(0, 45, NV (P e.toNat)), (2, 7, (Go.Value.int Go.IntKind.i64 0))] [] [] [true, false] ?_ ?_
      · refine oc (g_ld 1 uN iN) ?_
        refine oc (g_st 0 iN) ?_
        exact oc g_as on
      intro u4 HB4 sz4 K4
      simp only [fX, nK, nP, Wr.f, aK, pM] at K4
      simp only [setG, setN, List.set_cons_zero, List.set_cons_succ]
      clear K3 HB3
      have c6_0 := ((K4.cv 0) 0 _ rfl).1
      have c6_1 := ((K4.cv 0) 1 _ rfl).1
      have c6_2 := ((K4.cv 0) 2 _ rfl).1
      have c6_3 := ((K4.cv 0) 3 _ rfl).1
      go_wp2
      refine bodyPost_ret (v := .tuple #[NV (P e.toNat), .int .i64 0]) (by simp [results, Try.results33, go_sem, c6_0, c6_1, c6_2, c6_3]) rfl ⟨rfl, HB4⟩
    · obtain ⟨k, rfl⟩ : ∃ k, j = k + 1 := ⟨j - 1, by omega⟩
      have hb : decide (0 ≤ ((k + 1 : Nat) : Int) - 1) = true := by simp
      obtain ⟨n, hn⟩ : ∃ n : Nat, (e / 2 ^ (k + 1)).toNat = n := ⟨_, rfl⟩
      have hts := top_step e he.1 k
      have hnn : 0 ≤ e / 2 ^ (k + 1) := Int.ediv_nonneg he.1 (Int.le_of_lt (Int.pow_pos (by decide)))
      have Kp : CV wr b1_6 (LN (P n)) := by rw [← hn]; exact Kp
      have hnx : Hid ((e / 2 ^ k).toNat = n + n + (if bitI e k then 1 else 0)) := by
        show (e / 2 ^ k).toNat = _
        rw [hts]
        split <;> omega
      clear hts hn hnn hj0
      have K2_1 : Bk w.heap.size wr [(false, w.heap.size, LN a), (false, w.heap.size + 1, LN e), (false, w.heap.size + 1 + 1, LN m), (false, w.heap.size + 1 + 1 + 1, L0s), (true, b1_6, LN (P n))] := ⟨.c (by omega) Ka <| .c (by omega) Ke <| .c (by omega) Km <| .c (by omega) Kr <| .o lp (K2.lo 4) Kp <| trivial, by simp; omega⟩
      go_upto_region 5 with fail
      refine rgP K2_1 HBr HBr.size [] [] [(0, 24, .int .i64 (((k + 1 : Nat) : Int) - 1)), (1, 25, .bool true)] [] [] [] ?_ ?_
      · refine oc g_mv ?_
        exact oc (g_bn (fun uZ => geq_i _ _ (((k + 1 : Nat) : Int) - 1) 0 _ uZ hb)) on
      intro u3 HB3 sz3 K3
      simp only [fX, nK, nP, Wr.f, aK, pM] at K3
      simp only [setG, setN, List.set_cons_zero, List.set_cons_succ]
      go_upto_region 7 with fail
      refine rgP K3 HB3 HB3.size [.no, .no, .no, .no, .all 7 (LN (P (n + n)))] [] [(0, 29, NV (P n)), (1, 30, NV (P n)), (2, 31, NV m), (3, 32, .tuple #[NV (P (n + n)), .int .i64 0]), (4, 28, .tuple #[NV (P (n + n)), .int .i64 0]), (5, 33, NV (P (n + n))), (6, 34, .int .i64 0)] [(7, 0), (7, 1)] [] [] ?_ ?_
      · refine oc (g_ld 4 uN iN) ?_
        refine oc (g_ld 4 uN iN) ?_
        refine oc (g_ld 2 uN iN) ?_
        refine oc (g_cl ent_seneschalref02_Mul (fun uZ => hQ.out n n uZ)) ?_
        refine oc g_mv ?_
        refine oc g_ex ?_
        refine oc g_ex ?_
        exact oc (g_st 4 iN) on
      intro u4 HB4 sz4 K4
      simp only [fX, nK, nP, Wr.f, aK, pM] at K4
      simp only [setG, setN, List.set_cons_zero, List.set_cons_succ]
      clear K3 HB3
      cases hbit : bitI e k
      · have Hb : Hid (bitI e k = false) := hbit
        clear hbit
        go_upto_region 8 with fail
        refine rgP K4 HB4 HB4.size [] [] [(0, 35, NV e), (1, 36, .int .i64 (((k + 1 : Nat) : Int) - 1)), (2, 37, .bool false)] [] [] [] ?_ ?_
        · refine oc (g_ld 1 uN iN) ?_
          refine oc g_mv ?_
          exact oc (g_cl ent_seneschalref01_Bit (fun uZ => by have h1 := nrBit e k uZ (by omega) (by omega); rw [Hb.out, show (k : Int) = ((k + 1 : Nat) : Int) - 1 by omega] at h1; exact h1)) on
        intro u5 HB5 sz5 K5
        simp only [fX, nK, nP, Wr.f, aK, pM] at K5
        simp only [setG, setN, List.set_cons_zero, List.set_cons_succ]
        clear K4 HB4
        go_upto_region 6 with fail
        refine rgP K5 HB5 HB5.size [] [] [(0, 26, .int .i64 (((k + 1 : Nat) : Int) - 1)), (1, 27, .int .i64 ((k : Int) - 1)), (2, 10, .int .i64 ((k : Int) - 1))] [(2, 0)] [(2, 10)] [] ?_ ?_
        · refine oc g_mv ?_
          refine oc (g_bn (fun uZ => sub_i _ _ (((k + 1 : Nat) : Int) - 1) 1 ((k : Int) - 1) uZ (by omega) (by omega) (by omega))) ?_
          exact oc g_as on
        intro u6 HB6 sz6 K6
        simp only [fX, nK, nP, Wr.f, aK, pM] at K6
        simp only [setG, setN, List.set_cons_zero, List.set_cons_succ]
        clear K5 HB5
        go_wp2
        refine ⟨⟨k, by omega, rfl, HB6, (K6.cv 0), (K6.cv 1), (K6.cv 2), (K6.cv 3), by rw [hnx.out]; simp only [Hb.out]; exact (K6.cv 4), (K6.lt 4)⟩, ?_⟩
        simp [intOf] <;> omega
      · have Hb : Hid (bitI e k = true) := hbit
        clear hbit
        go_upto_region 8 with fail
        refine rgP K4 HB4 HB4.size [] [] [(0, 35, NV e), (1, 36, .int .i64 (((k + 1 : Nat) : Int) - 1)), (2, 37, .bool true)] [] [] [] ?_ ?_
        · refine oc (g_ld 1 uN iN) ?_
          refine oc g_mv ?_
          exact oc (g_cl ent_seneschalref01_Bit (fun uZ => by have h1 := nrBit e k uZ (by omega) (by omega); rw [Hb.out, show (k : Int) = ((k + 1 : Nat) : Int) - 1 by omega] at h1; exact h1)) on
        intro u5 HB5 sz5 K5
        simp only [fX, nK, nP, Wr.f, aK, pM] at K5
        simp only [setG, setN, List.set_cons_zero, List.set_cons_succ]
        clear K4 HB4
        go_upto_region 9 with fail
        refine rgP K5 HB5 HB5.size [.no, .no, .no, .no, .all 7 (LN (P (n + n + 1)))] [] [(0, 39, NV (P (n + n))), (1, 40, NV a), (2, 41, NV m), (3, 42, .tuple #[NV (P (n + n + 1)), .int .i64 0]), (4, 38, .tuple #[NV (P (n + n + 1)), .int .i64 0]), (5, 43, NV (P (n + n + 1))), (6, 44, .int .i64 0)] [(7, 0)] [] [] ?_ ?_
        · refine oc (g_ld 4 uN iN) ?_
          refine oc (g_ld 0 uN iN) ?_
          refine oc (g_ld 2 uN iN) ?_
          refine oc (g_cl ent_seneschalref02_Mul (fun uZ => hU.out (n + n) uZ)) ?_
          refine oc g_mv ?_
          refine oc g_ex ?_
          refine oc g_ex ?_
          exact oc (g_st 4 iN) on
        intro u6 HB6 sz6 K6
        simp only [fX, nK, nP, Wr.f, aK, pM] at K6
        simp only [setG, setN, List.set_cons_zero, List.set_cons_succ]
        clear K5 HB5
        go_upto_region 6 with fail
        refine rgP K6 HB6 HB6.size [] [] [(0, 26, .int .i64 (((k + 1 : Nat) : Int) - 1)), (1, 27, .int .i64 ((k : Int) - 1)), (2, 10, .int .i64 ((k : Int) - 1))] [(2, 0)] [(2, 10)] [] ?_ ?_
        · refine oc g_mv ?_
          refine oc (g_bn (fun uZ => sub_i _ _ (((k + 1 : Nat) : Int) - 1) 1 ((k : Int) - 1) uZ (by omega) (by omega) (by omega))) ?_
          exact oc g_as on
        intro u7 HB7 sz7 K7
        simp only [fX, nK, nP, Wr.f, aK, pM] at K7
        simp only [setG, setN, List.set_cons_zero, List.set_cons_succ]
        clear K6 HB6
        go_wp2
        refine ⟨⟨k, by omega, rfl, HB7, (K7.cv 0), (K7.cv 1), (K7.cv 2), (K7.cv 3), by rw [hnx.out]; simp only [Hb.out]; exact (K7.cv 4), (K7.lt 4)⟩, ?_⟩
        simp [intOf] <;> omega
theorem xExp (a e m : Int) (w : World) (ha : In a) (he : In e) (hm : In m) (h : m ≠ 0) :
    Calls Try.prog 33 #[NV a, NV e, NV m] w fun en w' => en = .returned (.tuple #[NV (a ^ e.toNat % m), .int .i64 0]) ∧ Below w.heap.size w w' := by
  refine xExpP (fun k => a ^ k % m) a e m w ha he hm h (by simp only [Int.pow_zero]) (fun i j u => ?_) (fun i u => ?_)
  · have k := xMul (a ^ i % m) (a ^ j % m) m u (In_mod hm h) (In_mod hm h) hm h
    rw [← Int.mul_emod, ← Int.pow_add] at k
    exact k
  · have k := xMul (a ^ i % m) a m u (In_mod hm h) ha hm h
    rw [Int.mul_emod, Int.emod_emod, ← Int.mul_emod, ← Int.pow_succ] at k
    exact k
end Go.Proofs.Ytgfggkinmhhdnaa
/- The reference's Sub. -/
namespace Go.Proofs.Ytgfggkinmhhdnaa
open Go.RowKit
set_option linter.unusedVariables false
set_option linter.unusedSimpArgs false
theorem nrAdd_lt (a b : Int) (w : World) (ha : In a) (hb : In b) (h : a + b < 115792089237316195423570985008687907853269984665640564039457584007913129639936) : Calls Try.prog 28 #[NV a, NV b] w fun e w' => e = .returned (.tuple #[NV (a + b), .bool false]) ∧ Below w.heap.size w w' := by
  have e : ovB a b = false := by unfold ovB; simp; omega
  have k := nrAdd a b w ha hb
  rw [e] at k; exact k
theorem nrAdd_ge (a b : Int) (w : World) (ha : In a) (hb : In b) (h : 115792089237316195423570985008687907853269984665640564039457584007913129639936 ≤ a + b) : Calls Try.prog 28 #[NV a, NV b] w fun e w' => e = .returned (.tuple #[NV (a + b - 115792089237316195423570985008687907853269984665640564039457584007913129639936), .bool true]) ∧ Below w.heap.size w w' := by
  have e : ovB a b = true := by unfold ovB; simp; omega
  have k := nrAdd a b w ha hb
  rw [e] at k; rw [NV_less]; exact k
theorem nrSub_ge (a b : Int) (w : World) (ha : In a) (hb : In b) (h : b ≤ a) : Calls Try.prog 29 #[NV a, NV b] w fun e w' => e = .returned (.tuple #[NV (a - b), .bool false]) ∧ Below w.heap.size w w' := by
  have e : ltB a b = false := by unfold ltB; simp; omega
  have k := nrSub a b w ha hb
  rw [e] at k; exact k
theorem nrSub_lt (a b : Int) (w : World) (ha : In a) (hb : In b) (h : a < b) : Calls Try.prog 29 #[NV a, NV b] w fun e w' => e = .returned (.tuple #[NV (a - b + 115792089237316195423570985008687907853269984665640564039457584007913129639936), .bool true]) ∧ Below w.heap.size w w' := by
  have e : ltB a b = true := by unfold ltB; simp; omega
  have k := nrSub a b w ha hb
  rw [e] at k; rw [NV_more]; exact k
set_option maxRecDepth 100000 in
set_option maxHeartbeats 2000000 in
theorem xSub (a b m : Int) (w : World) (ha : In a) (hb : In b) (hm : In m) (h : m ≠ 0) : Calls Try.prog 34 #[NV a, NV b, NV m] w fun e w' => e = .returned (.tuple #[NV ((a - b) % m), .int .i64 0]) ∧ Below w.heap.size w w' := by
  have hm0 := hm.1; have hm2 := hm.2
  obtain ⟨x, hx⟩ : ∃ x, a % m = x := ⟨_, rfl⟩
  obtain ⟨y, hy⟩ : ∃ y, b % m = y := ⟨_, rfl⟩
  obtain ⟨r, hr0⟩ : ∃ r, (a - b) % m = r := ⟨_, rfl⟩
  have x0 := Int.emod_nonneg a h; have x1 := Int.emod_lt_of_pos a (show 0 < m by omega)
  have y0 := Int.emod_nonneg b h; have y1 := Int.emod_lt_of_pos b (show 0 < m by omega)
  rw [hx] at x0 x1; rw [hy] at y0 y1
  have ix : In x := ⟨by omega, by omega⟩
  have iy : In y := ⟨by omega, by omega⟩
  have hX : Hid (∀ u, Calls Try.prog 53 #[WV a, NV m] u fun e u' => e = .returned (.tuple #[NV x, .int .i64 0]) ∧ Below u.heap.size u u') := fun u => by rw [← hx]; exact xReduce a m u ha.wide hm h
  have hY : Hid (∀ u, Calls Try.prog 53 #[WV b, NV m] u fun e u' => e = .returned (.tuple #[NV y, .int .i64 0]) ∧ Below u.heap.size u u') := fun u => by rw [← hy]; exact xReduce b m u hb.wide hm h
  have hr : Hid (r = if x < y then x - y + m else x - y) := by
    show r = _
    rw [← hr0, Int.sub_emod, hx, hy]
    split
    · rw [← Int.add_emod_right (x - y) m, Int.emod_eq_of_lt (by omega) (by omega)]
    · exact Int.emod_eq_of_lt (by omega) (by omega)
  rw [hr0]
  clear hx hy hr0
  go_enter Try.func34, Try.ntmps34
  go_upto_region 1 with fail
  generalize hC : ((((w.alloc (.cells (LN a : List Value).toArray 24)).alloc (.cells (LN b : List Value).toArray 24)).alloc (.cells (LN m : List Value).toArray 24)).alloc (.cells (L0s : List Value).toArray 24)) = v0 at *
  have HB0 : Below w.heap.size w v0 := by rw [← hC]; exact balloc (balloc (balloc (balloc (bself w) _) _) _) _
  have K0 : Bk w.heap.size v0 [(true, w.heap.size, LN a), (true, w.heap.size + 1, LN b), (true, w.heap.size + 1 + 1, LN m), (true, w.heap.size + 1 + 1 + 1, L0s)] := by rw [← hC]; exact (Bk.nil _ w).ad.ad.ad.ad
  clear hC
  refine rgD K0 HB0 HB0.size [] [(7, 8, L0s, some (8, LN x))] [(0, 15, NV a), (1, 16, WV a), (2, 17, NV m), (3, 18, .tuple #[NV x, .int .i64 0]), (4, 14, .tuple #[NV x, .int .i64 0]), (5, 19, NV x), (6, 20, .int .i64 0), (9, 9, .int .i64 0)] [(8, 7)] [] [false] ?_ ?_
  · refine oc (g_ld 0 uN iN) ?_
    refine oc (g_cl ent_seneschalref01_Widen (fun uZ => nrWiden a uZ ha)) ?_
    refine oc (g_ld 2 uN iN) ?_
    refine oc (g_cl ent_seneschalref02_Reduce (fun uZ => hX.out uZ)) ?_
    refine oc g_mv ?_
    refine oc g_ex ?_
    refine oc g_ex ?_
    refine oc (g_al 0 aN) ?_
    refine oc (g_sn 0 iN) ?_
    exact oc g_as on
  intro u1 b1_7 HB1 sz1 K1
  simp only [fX, nK, nP, Wr.f, aK, pM] at K1
  simp only [setG, setN, List.set_cons_zero, List.set_cons_succ]
  clear K0 HB0
  go_upto_region 4 with fail
  refine rgD K1 HB1 HB1.size [] [(7, 10, L0s, some (8, LN y))] [(0, 26, NV b), (1, 27, WV b), (2, 28, NV m), (3, 29, .tuple #[NV y, .int .i64 0]), (4, 25, .tuple #[NV y, .int .i64 0]), (5, 30, NV y), (6, 31, .int .i64 0), (9, 11, .int .i64 0)] [(8, 7)] [] [false] ?_ ?_
  · refine oc (g_ld 0 uN iN) ?_
    refine oc (g_cl ent_seneschalref01_Widen (fun uZ => nrWiden b uZ hb)) ?_
    refine oc (g_ld 1 uN iN) ?_
    refine oc (g_cl ent_seneschalref02_Reduce (fun uZ => hY.out uZ)) ?_
    refine oc g_mv ?_
    refine oc g_ex ?_
    refine oc g_ex ?_
    refine oc (g_al 0 aN) ?_
    refine oc (g_sn 0 iN) ?_
    exact oc g_as on
  intro u2 b2_7 HB2 sz2 K2
  simp only [fX, nK, nP, Wr.f, aK, pM] at K2
  simp only [setG, setN, List.set_cons_zero, List.set_cons_succ]
  clear K1 HB1
  by_cases hc : x < y
  · have hi : In (x - y + 115792089237316195423570985008687907853269984665640564039457584007913129639936) := ⟨by omega, by omega⟩
    obtain ⟨z, hz1⟩ : ∃ z, x - y + 115792089237316195423570985008687907853269984665640564039457584007913129639936 = z := ⟨_, rfl⟩
    have h1 : Hid (∀ u, Calls Try.prog 29 #[NV x, NV y] u fun e u' => e = .returned (.tuple #[NV z, .bool true]) ∧ Below u.heap.size u u') := fun u => by rw [← hz1]; exact nrSub_lt x y u ix iy hc
    have h2 : Hid (∀ u, Calls Try.prog 28 #[NV z, NV m] u fun e u' => e = .returned (.tuple #[NV r, .bool true]) ∧ Below u.heap.size u u') := fun u => by
      have k := nrAdd_ge z m u (by rw [← hz1]; exact hi) hm (by omega)
      rw [hr.out, if_pos hc, show x - y + m = z + m - 115792089237316195423570985008687907853269984665640564039457584007913129639936 by omega]; exact k
    clear hi hz1 hc hr
    go_upto_region 5 with fail
    refine rgP K2 HB2 HB2.size [] [(6, 12, L0s, some (7, LN z))] [(0, 33, NV x), (1, 34, NV y), (2, 35, .tuple #[NV z, .bool true]), (3, 32, .tuple #[NV z, .bool true]), (4, 36, NV z), (5, 37, .bool true), (8, 13, .bool true)] [(7, 6)] [] [true, true, false, false] ?_ ?_
    · refine oc (g_ld 2 uN iN) ?_
      refine oc (g_ld 3 uN iN) ?_
      refine oc (g_cl ent_seneschalref01_Sub (fun uZ => h1.out uZ)) ?_
      refine oc g_mv ?_
      refine oc g_ex ?_
      refine oc g_ex ?_
      refine oc (g_al 0 aN) ?_
      refine oc (g_sn 0 iN) ?_
      exact oc g_as on
    intro u3 b3_6 HB3 sz3 K3
    simp only [fX, nK, nP, Wr.f, aK, pM] at K3
    simp only [setG, setN, List.set_cons_zero, List.set_cons_succ]
    clear K2 HB2
    go_upto_region 7 with fail
    refine rgP K3 HB3 HB3.size [.no, .no, .all 6 (LN r)] [] [(0, 40, NV z), (1, 41, NV m), (2, 42, .tuple #[NV r, .bool true]), (3, 39, .tuple #[NV r, .bool true]), (4, 43, NV r), (5, 44, .bool true)] [(6, 0)] [] [false] ?_ ?_
    · refine oc (g_ld 2 uN iN) ?_
      refine oc (g_ld 0 uN iN) ?_
      refine oc (g_cl ent_seneschalref01_Add (fun uZ => h2.out uZ)) ?_
      refine oc g_mv ?_
      refine oc g_ex ?_
      refine oc g_ex ?_
      exact oc (g_st 2 iN) on
    intro u4 HB4 sz4 K4
    simp only [fX, nK, nP, Wr.f, aK, pM] at K4
    simp only [setG, setN, List.set_cons_zero, List.set_cons_succ]
    clear K3 HB3
    go_upto_region 8 with fail
    refine rgP K4 HB4 HB4.size [.all 1 (LN r)] [] [(0, 45, NV r), (2, 7, (Go.Value.int Go.IntKind.i64 0))] [] [] [true, false] ?_ ?_
    · refine oc (g_ld 1 uN iN) ?_
      refine oc (g_st 0 iN) ?_
      exact oc g_as on
    intro u5 HB5 sz5 K5
    simp only [fX, nK, nP, Wr.f, aK, pM] at K5
    simp only [setG, setN, List.set_cons_zero, List.set_cons_succ]
    clear K4 HB4
    have c6_0 := ((K5.cv 0) 0 _ rfl).1
    have c6_1 := ((K5.cv 0) 1 _ rfl).1
    have c6_2 := ((K5.cv 0) 2 _ rfl).1
    have c6_3 := ((K5.cv 0) 3 _ rfl).1
    go_wp2
    refine bodyPost_ret (v := .tuple #[NV r, .int .i64 0]) (by simp [results, Try.results34, go_sem, c6_0, c6_1, c6_2, c6_3]) rfl ⟨rfl, HB5⟩
  · have h1 : Hid (∀ u, Calls Try.prog 29 #[NV x, NV y] u fun e u' => e = .returned (.tuple #[NV r, .bool false]) ∧ Below u.heap.size u u') := fun u => by rw [hr.out, if_neg hc]; exact nrSub_ge x y u ix iy (by omega)
    clear hr hc
    go_upto_region 5 with fail
    refine rgP K2 HB2 HB2.size [] [(6, 12, L0s, some (7, LN r))] [(0, 33, NV x), (1, 34, NV y), (2, 35, .tuple #[NV r, .bool false]), (3, 32, .tuple #[NV r, .bool false]), (4, 36, NV r), (5, 37, .bool false), (8, 13, .bool false)] [(7, 6)] [] [false, true, false, false] ?_ ?_
    · refine oc (g_ld 2 uN iN) ?_
      refine oc (g_ld 3 uN iN) ?_
      refine oc (g_cl ent_seneschalref01_Sub (fun uZ => h1.out uZ)) ?_
      refine oc g_mv ?_
      refine oc g_ex ?_
      refine oc g_ex ?_
      refine oc (g_al 0 aN) ?_
      refine oc (g_sn 0 iN) ?_
      exact oc g_as on
    intro u3 b3_6 HB3 sz3 K3
    simp only [fX, nK, nP, Wr.f, aK, pM] at K3
    simp only [setG, setN, List.set_cons_zero, List.set_cons_succ]
    clear K2 HB2
    go_upto_region 8 with fail
    refine rgP K3 HB3 HB3.size [.all 1 (LN r)] [] [(0, 45, NV r), (2, 7, (Go.Value.int Go.IntKind.i64 0))] [] [] [true, false] ?_ ?_
    · refine oc (g_ld 1 uN iN) ?_
      refine oc (g_st 0 iN) ?_
      exact oc g_as on
    intro u4 HB4 sz4 K4
    simp only [fX, nK, nP, Wr.f, aK, pM] at K4
    simp only [setG, setN, List.set_cons_zero, List.set_cons_succ]
    clear K3 HB3
    have c6_0 := ((K4.cv 0) 0 _ rfl).1
    have c6_1 := ((K4.cv 0) 1 _ rfl).1
    have c6_2 := ((K4.cv 0) 2 _ rfl).1
    have c6_3 := ((K4.cv 0) 3 _ rfl).1
    go_wp2
    refine bodyPost_ret (v := .tuple #[NV r, .int .i64 0]) (by simp [results, Try.results34, go_sem, c6_0, c6_1, c6_2, c6_3]) rfl ⟨rfl, HB4⟩
end Go.Proofs.Ytgfggkinmhhdnaa
/- The reference's Gcd, Inverse. -/
namespace Go.Proofs.Ytgfggkinmhhdnaa
open Go.RowKit
set_option linter.unusedVariables false
set_option linter.unusedSimpArgs false
def P512 : Int := 115792089237316195423570985008687907853269984665640564039457584007913129639936 * 115792089237316195423570985008687907853269984665640564039457584007913129639936
theorem half {x y : Int} (hx : 0 ≤ x) (hy : 0 < y) (h : y ≤ x) : 2 * (x % y) ≤ x := by
  have e := Int.mul_ediv_add_emod x y
  have l := Int.emod_lt_of_pos x hy
  have n := Int.emod_nonneg x (show y ≠ 0 by omega)
  have q : 1 ≤ x / y := by
    by_cases h1 : x / y < 1
    · have hq : 0 ≤ x / y := Int.ediv_nonneg hx (by omega)
      have : x / y = 0 := by omega
      rw [this] at e; simp at e; omega
    · omega
  have m := Int.mul_le_mul_of_nonneg_left q (show 0 ≤ y by omega)
  omega
/-- After k rounds. -/
def PBk (k : Nat) (x y : Int) : Prop := y = 0 ∨ k = 0 ∨ (y ≤ x ∧ x * y * 2 ^ (k - 1) < P512)
theorem P512_e : P512 = 115792089237316195423570985008687907853269984665640564039457584007913129639936 * 115792089237316195423570985008687907853269984665640564039457584007913129639936 := rfl
theorem P_le (k : Nat) : P512 ≤ 2 ^ (512 + k) := by
  rw [show 512 + k = 256 + (256 + k) by omega, Int.pow_add, Int.pow_add, show (2 : Int) ^ 256 = 115792089237316195423570985008687907853269984665640564039457584007913129639936 by decide]
  have p : (0 : Int) < 2 ^ k := Int.pow_pos (by omega)
  unfold P512
  omega
theorem prod_lt {x y : Int} (hx : In x) (hy : In y) : x * y < P512 := by
  rw [P512_e]
  have h1 := Int.mul_le_mul_of_nonneg_right (show x ≤ 115792089237316195423570985008687907853269984665640564039457584007913129639935 by have := hx.2; omega) hy.1
  have h2 := hy.2
  omega
theorem PBk.step {k : Nat} {x y : Int} (hx : In x) (hy : In y) (h : y ≠ 0) (hP : PBk k x y) : PBk (k + 1) y (x % y) := by
  have y1 : 0 < y := by have := hy.1; omega
  have l := Int.emod_lt_of_pos x y1
  have n := Int.emod_nonneg x h
  have ir : In (x % y) := In_mod hy h
  have base : y * (x % y) < P512 := prod_lt hy ir
  refine .inr (.inr ⟨by omega, ?_⟩)
  rcases hP with h0 | h0 | ⟨h1, h2⟩
  · exact absurd h0 h
  · subst h0; simpa using base
  · by_cases hk : k = 0
    · subst hk; simpa using base
    · obtain ⟨j, rfl⟩ : ∃ j, k = j + 1 := ⟨k - 1, by omega⟩
      simp only [Nat.add_sub_cancel] at h2 ⊢
      have hh := half hx.1 y1 h1
      have p : (0 : Int) < 2 ^ j := Int.pow_pos (by omega)
      have m1 : y * (2 * (x % y)) ≤ y * x := Int.mul_le_mul_of_nonneg_left hh (by omega)
      have m2 := Int.mul_le_mul_of_nonneg_right m1 (Int.le_of_lt p)
      have e : y * (x % y) * 2 ^ (j + 1) = y * (2 * (x % y)) * 2 ^ j := by rw [Int.pow_succ]; grind
      have e2 : y * x = x * y := Int.mul_comm _ _
      rw [e]; rw [e2] at m2; omega
theorem PBk.fin {x y : Int} (hy : In y) (hP : PBk 600 x y) : y = 0 := by
  rcases hP with h | h | ⟨h1, h2⟩
  · exact h
  · omega
  · by_cases h : y < 1
    · have := hy.1; omega
    · exfalso
      have m0 : 1 * 1 ≤ x * y := Int.mul_le_mul (by omega) (by omega) (by omega) (by omega)
      have p : (0 : Int) ≤ 2 ^ (512 + 87) := Int.le_of_lt (Int.pow_pos (by omega))
      have m := Int.mul_le_mul_of_nonneg_right m0 p
      have c := P_le 87
      have h2' : x * y * 2 ^ (512 + 87) < P512 := h2
      generalize (2 : Int) ^ (512 + 87) = z at *
      omega
/-- The reference's numbers on the way to an inverse. -/
structure RV (m a x y fx fy : Int) (k : Nat) : Prop where
  x0 : 0 ≤ x
  xy : x < y
  ym : y ≤ m
  g : gI y x = gI m a
  dx : m ∣ fx * a - x
  dy : m ∣ fy * a - y
  fx0 : 0 ≤ fx ∧ fx < m
  fy0 : 0 ≤ fy ∧ fy < m
  b : y * x * 2 ^ k < P512
theorem RV.start {m a : Int} (hm : In m) (h1 : 1 < m) (h0 : 0 ≤ a) (ha : a < m) : RV m a a m 1 0 0 where
  x0 := h0
  xy := ha
  ym := Int.le_refl _
  g := rfl
  dx := ⟨0, by omega⟩
  dy := ⟨-1, by omega⟩
  fx0 := ⟨by omega, h1⟩
  fy0 := ⟨by omega, by omega⟩
  b := by
    have := prod_lt hm (show In a from ⟨h0, by have := hm.2; omega⟩)
    simpa using this
theorem RV.step {m a x y fx fy : Int} {k : Nat} (h : RV m a x y fx fy k) (hx : x ≠ 0) : RV m a (y % x) x ((fy - y / x * fx % m) % m) fx (k + 1) where
  x0 := Int.emod_nonneg _ hx
  xy := Int.emod_lt_of_pos _ (by have := h.x0; omega)
  ym := by have := h.xy; have := h.ym; omega
  g := by rw [gI_step y x (by have := h.x0; have := h.xy; omega) h.x0 hx]; exact h.g
  dx := by
    obtain ⟨p, hp⟩ := h.dx
    obtain ⟨q, hq⟩ := h.dy
    have e1 := Int.mul_ediv_add_emod (y / x * fx) m
    have e2 := Int.mul_ediv_add_emod (fy - y / x * fx % m) m
    have e3 := Int.mul_ediv_add_emod y x
    generalize (fy - y / x * fx % m) % m = u at *
    generalize (fy - y / x * fx % m) / m = u1 at *
    generalize y / x * fx % m = v at *
    generalize y / x * fx / m = v1 at *
    generalize y % x = r at *
    generalize y / x = s at *
    exact ⟨q - s * p + v1 * a - u1 * a, by grind⟩
  dy := h.dx
  fx0 := by
    have m0 : 0 < m := by have := h.x0; have := h.xy; have := h.ym; omega
    exact ⟨Int.emod_nonneg _ (by omega), Int.emod_lt_of_pos _ m0⟩
  fy0 := h.fx0
  b := by
    have x1 : 0 < x := by have := h.x0; omega
    have hh := half (show 0 ≤ y by have := h.xy; omega) x1 (by have := h.xy; omega)
    have p : (0 : Int) < 2 ^ k := Int.pow_pos (by omega)
    have m1 : x * (2 * (y % x)) ≤ x * y := Int.mul_le_mul_of_nonneg_left hh (by omega)
    have m2 := Int.mul_le_mul_of_nonneg_right m1 (Int.le_of_lt p)
    have e : x * (y % x) * 2 ^ (k + 1) = x * (2 * (y % x)) * 2 ^ k := by rw [Int.pow_succ]; grind
    have hb := h.b
    have e2 : x * y = y * x := Int.mul_comm _ _
    rw [e]; rw [e2] at m2; omega
theorem RV.fin {m a x y fx fy : Int} (h : RV m a x y fx fy 600) : x = 0 := by
  by_cases h1 : x < 1
  · have := h.x0; omega
  · exfalso
    have hb := h.b
    have m0 : 1 * 1 ≤ y * x := Int.mul_le_mul (by have := h.xy; omega) (by omega) (by omega) (by have := h.xy; omega)
    have p : (0 : Int) ≤ 2 ^ (512 + 88) := Int.le_of_lt (Int.pow_pos (by omega))
    have m := Int.mul_le_mul_of_nonneg_right m0 p
    have c := P_le 88
    have hb : y * x * 2 ^ (512 + 88) < P512 := hb
    generalize (2 : Int) ^ (512 + 88) = z at *
    omega
theorem lss_i (p q : Operand) (x y : Int) (b : Bool) (w : World) (h : decide (x < y) = b) : (do eqGuard .lss 3 p q (.int .i64 x) (.int .i64 y); binOp .lss 3 (.int .i64 x) (.int .i64 y) : Sem Value).run Try.prog w = .ok (.bool b) w := by
  subst h; go_simp
theorem bd4 (x y z t : Int) (w : World) : (Instr.build 24 [(0, .int .u64 x), (1, .int .u64 y), (2, .int .u64 z), (3, .int .u64 t)].toArray).run Try.prog w = .ok (A4 x y z t) w := by kernel_rfl
set_option maxRecDepth 100000 in
set_option maxHeartbeats 2000000 in
theorem xGcd (a b : Int) (w : World) (ha : In a) (hb : In b) :
    Calls Try.prog 35 #[NV a, NV b] w fun e w' => e = .returned (NV (gI a b)) ∧ Below w.heap.size w w' := by
  go_enter Try.func35, Try.ntmps35
  go_upto_region 1 with fail
  generalize hC : (((w.alloc (.cells (LN a : List Value).toArray 24)).alloc (.cells (LN b : List Value).toArray 24)).alloc (.cells (L0s : List Value).toArray 24)) = v0 at *
  have HB0 : Below w.heap.size w v0 := by rw [← hC]; exact balloc (balloc (balloc (bself w) _) _) _
  have K0 : Bk w.heap.size v0 [(true, w.heap.size, LN a), (true, w.heap.size + 1, LN b), (true, w.heap.size + 1 + 1, L0s)] := by rw [← hC]; exact (Bk.nil _ w).ad.ad.ad
  clear hC
  refine rgP K0 HB0 HB0.size [] [] [(0, 5, (Go.Value.int Go.IntKind.i64 0))] [] [] [] ?_ ?_
  · exact oc g_as on
  intro u1 HB1 sz1 K1
  simp only [fX, nK, nP, Wr.f, aK, pM] at K1
  simp only [setG, setN, List.set_cons_zero, List.set_cons_succ]
  clear K0 HB0
  go_wp2_with fail
  go_loopw [5] (fun s5 wr => ∃ (k : Nat) (x y : Int), s5 = .int .i64 (k : Int) ∧ k ≤ 600 ∧ In x ∧ In y ∧ Hid (gI x y = gI a b) ∧ Hid (PBk k x y) ∧ Below w.heap.size w wr ∧ CV wr (w.heap.size) (LN x) ∧ CV wr (w.heap.size + 1) (LN y) ∧ CV wr (w.heap.size + 1 + 1) L0s ∧ w.heap.size + 1 + 1 < wr.heap.size) (fun s5 _ => 600 - (intOf s5).toNat)
  case atStart => exact ⟨0, a, b, rfl, by omega, ha, hb, rfl, .inr (.inl rfl), HB1, (K1.cv 0), (K1.cv 1), (K1.cv 2), (K1.lt 2)⟩
  case round =>
    obtain ⟨k, x, y, rfl, hk, ix, iy, hg, hP, HBr, Kx, Ky, Kr, lr⟩ := hrel
    clear HB1
    have hn := K1.n
    simp at hn
    by_cases h2 : y = 0
    · have hgx : Hid (gI a b = x) := by show _ = _; rw [← hg.out, h2, gI_0 x ix.1]
      have hz : decide (y = 0) = !false := by simp [h2]
      clear hg hP
      by_cases h6 : k < 600
      · have hl : decide ((k : Int) < 600) = true := by simp; omega
        have K1_1 : Bk w.heap.size wr [(false, w.heap.size, LN x), (false, w.heap.size + 1, LN y), (true, w.heap.size + 1 + 1, L0s)] := ⟨.c (by omega) Kx <| .c (by omega) Ky <| .o lr (K1.lo 2) Kr <| trivial, by simp; omega⟩
        go_upto_region 2 with fail
        refine rgP K1_1 HBr HBr.size [] [] [(0, 8, .int .i64 (k : Int)), (1, 9, .bool true), (2, 10, .bool true), (3, 11, NV y), (4, 12, A4 (0) (0) (0) (0)), (5, 13, .bool false), (6, 14, .bool false)] [] [] [true, false] ?_ ?_
        · refine oc g_mv ?_
          refine oc (g_bn (fun uZ => lss_i _ _ (k : Int) 600 _ uZ hl)) ?_
          refine oc g_mv ?_
          refine oc (g_ld 1 uN iN) ?_
          refine oc (g_bd zN) ?_
          refine oc (g_bn (fun uZ => neq_0 _ _ iy _ hz uZ)) ?_
          exact oc g_pk on
        intro u2 HB2 sz2 K2
        simp only [fX, nK, nP, Wr.f, aK, pM] at K2
        simp only [setG, setN, List.set_cons_zero, List.set_cons_succ]
        go_upto_region 6 with fail
        refine rgP K2 HB2 HB2.size [.no, .all 1 (LN x)] [] [(0, 26, NV x)] [] [] [false] ?_ ?_
        · refine oc (g_ld 0 uN iN) ?_
          exact oc (g_st 1 iN) on
        intro u3 HB3 sz3 K3
        simp only [fX, nK, nP, Wr.f, aK, pM] at K3
        simp only [setG, setN, List.set_cons_zero, List.set_cons_succ]
        clear K2 HB2
        have c4_0 := ((K3.cv 0) 0 _ rfl).1
        have c4_1 := ((K3.cv 0) 1 _ rfl).1
        have c4_2 := ((K3.cv 0) 2 _ rfl).1
        have c4_3 := ((K3.cv 0) 3 _ rfl).1
        go_wp2
        refine bodyPost_ret (v := NV x) (by simp [results, Try.results35, go_sem, c4_0, c4_1, c4_2, c4_3]) rfl ⟨by rw [hgx.out], HB3⟩
      · have hl : decide ((k : Int) < 600) = false := by simp; omega
        have K1_1 : Bk w.heap.size wr [(false, w.heap.size, LN x), (false, w.heap.size + 1, LN y), (true, w.heap.size + 1 + 1, L0s)] := ⟨.c (by omega) Kx <| .c (by omega) Ky <| .o lr (K1.lo 2) Kr <| trivial, by simp; omega⟩
        go_upto_region 2 with fail
        refine rgP K1_1 HBr HBr.size [] [] [(0, 8, .int .i64 (k : Int)), (1, 9, .bool false), (2, 10, .bool false), (3, 11, undef), (4, 12, undef), (5, 13, undef), (6, 14, (Go.Value.bool Bool.false))] [] [] [true, false] ?_ ?_
        · refine oc g_mv ?_
          refine oc (g_bn (fun uZ => lss_i _ _ (k : Int) 600 _ uZ hl)) ?_
          refine oc g_mv ?_
          refine oc g_sk ?_
          refine oc g_sk ?_
          refine oc g_sk ?_
          exact oc g_pk on
        intro u2 HB2 sz2 K2
        simp only [fX, nK, nP, Wr.f, aK, pM] at K2
        simp only [setG, setN, List.set_cons_zero, List.set_cons_succ]
        go_upto_region 6 with fail
        refine rgP K2 HB2 HB2.size [.no, .all 1 (LN x)] [] [(0, 26, NV x)] [] [] [false] ?_ ?_
        · refine oc (g_ld 0 uN iN) ?_
          exact oc (g_st 1 iN) on
        intro u3 HB3 sz3 K3
        simp only [fX, nK, nP, Wr.f, aK, pM] at K3
        simp only [setG, setN, List.set_cons_zero, List.set_cons_succ]
        clear K2 HB2
        have c4_0 := ((K3.cv 0) 0 _ rfl).1
        have c4_1 := ((K3.cv 0) 1 _ rfl).1
        have c4_2 := ((K3.cv 0) 2 _ rfl).1
        have c4_3 := ((K3.cv 0) 3 _ rfl).1
        go_wp2
        refine bodyPost_ret (v := NV x) (by simp [results, Try.results35, go_sem, c4_0, c4_1, c4_2, c4_3]) rfl ⟨by rw [hgx.out], HB3⟩
    · have h6 : k < 600 := by
        rcases Nat.lt_or_ge k 600 with h | h
        · exact h
        · have : k = 600 := by omega
          subst this; exact absurd (PBk.fin iy hP.out) h2
      have hl : decide ((k : Int) < 600) = true := by simp; omega
      have hz : decide (y = 0) = !true := by simp [h2]
      have i1 : In (x % y) := In_mod iy h2
      have hgx : Hid (gI y (x % y) = gI a b) := by rw [← hg.out]; exact gI_step x y ix.1 iy.1 h2
      have hPx : Hid _ := PBk.step ix iy h2 hP.out
      clear hg hP
      have K1_1 : Bk w.heap.size wr [(true, w.heap.size, LN x), (true, w.heap.size + 1, LN y), (false, w.heap.size + 1 + 1, L0s)] := ⟨.o (by omega) (K1.lo 0) Kx <| .o (by omega) (K1.lo 1) Ky <| .c lr Kr <| trivial, by simp; omega⟩
      go_upto_region 2 with fail
      refine rgP K1_1 HBr HBr.size [] [] [(0, 8, .int .i64 (k : Int)), (1, 9, .bool true), (2, 10, .bool true), (3, 11, NV y), (4, 12, A4 (0) (0) (0) (0)), (5, 13, .bool true), (6, 14, .bool true)] [] [] [] ?_ ?_
      · refine oc g_mv ?_
        refine oc (g_bn (fun uZ => lss_i _ _ (k : Int) 600 _ uZ hl)) ?_
        refine oc g_mv ?_
        refine oc (g_ld 1 uN iN) ?_
        refine oc (g_bd zN) ?_
        refine oc (g_bn (fun uZ => neq_0 _ _ iy _ hz uZ)) ?_
        exact oc g_pk on
      intro u2 HB2 sz2 K2
      simp only [fX, nK, nP, Wr.f, aK, pM] at K2
      simp only [setG, setN, List.set_cons_zero, List.set_cons_succ]
      go_upto_region 4 with fail
      refine rgD K2 HB2 HB2.size [] [(7, 6, L0s, some (8, LN (x % y)))] [(0, 18, NV x), (1, 19, WV x), (2, 20, NV y), (3, 21, .tuple #[NV (x % y), .int .i64 0]), (4, 17, .tuple #[NV (x % y), .int .i64 0]), (5, 22, NV (x % y)), (6, 23, .int .i64 0), (9, 7, .int .i64 0)] [(8, 7)] [] [] ?_ ?_
      · refine oc (g_ld 0 uN iN) ?_
        refine oc (g_cl ent_seneschalref01_Widen (fun uZ => nrWiden x uZ ix)) ?_
        refine oc (g_ld 1 uN iN) ?_
        refine oc (g_cl ent_seneschalref02_Reduce (fun uZ => xReduce x y uZ ix.wide iy h2)) ?_
        refine oc g_mv ?_
        refine oc g_ex ?_
        refine oc g_ex ?_
        refine oc (g_al 0 aN) ?_
        refine oc (g_sn 0 iN) ?_
        exact oc g_as on
      intro u3 b3_7 HB3 sz3 K3
      simp only [fX, nK, nP, Wr.f, aK, pM] at K3
      simp only [setG, setN, List.set_cons_zero, List.set_cons_succ]
      clear K2 HB2
      go_upto_region 5 with fail
      refine rgD K3 HB3 HB3.size [.all 2 (LN y), .all 3 (LN (x % y))] [] [(0, 24, NV y), (1, 25, NV (x % y))] [(3, 0)] [] [true, true, true, false] ?_ ?_
      · refine oc (g_ld 1 uN iN) ?_
        refine oc (g_ld 3 uN iN) ?_
        refine oc (g_st 0 iN) ?_
        exact oc (g_st 1 iN) on
      intro u4 HB4 sz4 K4
      simp only [fX, nK, nP, Wr.f, aK, pM] at K4
      simp only [setG, setN, List.set_cons_zero, List.set_cons_succ]
      clear K3 HB3
      go_upto_region 3 with fail
      refine rgP K4 HB4 HB4.size [] [] [(0, 15, .int .i64 (k : Int)), (1, 16, .int .i64 ((k : Int) + 1)), (2, 5, .int .i64 ((k : Int) + 1))] [(2, 0)] [(2, 5)] [] ?_ ?_
      · refine oc g_mv ?_
        refine oc (g_bn (fun uZ => add_i _ _ (k : Int) 1 ((k : Int) + 1) uZ rfl (by omega) (by omega))) ?_
        exact oc g_as on
      intro u5 HB5 sz5 K5
      simp only [fX, nK, nP, Wr.f, aK, pM] at K5
      simp only [setG, setN, List.set_cons_zero, List.set_cons_succ]
      clear K4 HB4
      go_wp2
      refine ⟨⟨k + 1, y, x % y, by simp, by omega, iy, i1, hgx, hPx, HB5, (K5.cv 0), (K5.cv 1), (K5.cv 2), (K5.lt 2)⟩, ?_⟩
      simp [intOf] <;> omega
end Go.Proofs.Ytgfggkinmhhdnaa
