/- The reference's Gcd, Inverse. -/
import Derived.Test.YtkpnjmfndgfogaaRC
import Derived.Test.YtkpnjmfndgfogaaMRS
import Derived.Test.YtkpnjmfndgfogaaEU1
import Derived.Test.YtkpnjmfndgfogaaMO4
namespace Go.Proofs.Ytkpnjmfndgfogaa
open Go.RowKit
set_option linter.unusedVariables false
set_option linter.unusedSimpArgs false
def P512 : Int := 115792089237316195423570985008687907853269984665640564039457584007913129639936 * 115792089237316195423570985008687907853269984665640564039457584007913129639936
theorem half {x y : Int} (hx : 0 ≤ x) (hy : 0 < y) (h : y ≤ x) : 2 * (x % y) ≤ x := by
  have e := Int.mul_ediv_add_emod x y
  have l := Int.emod_lt_of_pos x hy
  have n := Int.emod_nonneg x (show y ≠ 0 by omega)
  have q : 1 ≤ x / y := by
    by_cases h1 : x / y < 1
    · have hq : 0 ≤ x / y := Int.ediv_nonneg hx (by omega)
      have : x / y = 0 := by omega
      rw [this] at e; simp at e; omega
    · omega
  have m := Int.mul_le_mul_of_nonneg_left q (show 0 ≤ y by omega)
  omega
/-- After k rounds. -/
def PBk (k : Nat) (x y : Int) : Prop := y = 0 ∨ k = 0 ∨ (y ≤ x ∧ x * y * 2 ^ (k - 1) < P512)
theorem P512_e : P512 = 115792089237316195423570985008687907853269984665640564039457584007913129639936 * 115792089237316195423570985008687907853269984665640564039457584007913129639936 := rfl
theorem P_le (k : Nat) : P512 ≤ 2 ^ (512 + k) := by
  rw [show 512 + k = 256 + (256 + k) by omega, Int.pow_add, Int.pow_add, show (2 : Int) ^ 256 = 115792089237316195423570985008687907853269984665640564039457584007913129639936 by decide]
  have p : (0 : Int) < 2 ^ k := Int.pow_pos (by omega)
  unfold P512
  omega
theorem prod_lt {x y : Int} (hx : In x) (hy : In y) : x * y < P512 := by
  rw [P512_e]
  have h1 := Int.mul_le_mul_of_nonneg_right (show x ≤ 115792089237316195423570985008687907853269984665640564039457584007913129639935 by have := hx.2; omega) hy.1
  have h2 := hy.2
  omega
theorem PBk.step {k : Nat} {x y : Int} (hx : In x) (hy : In y) (h : y ≠ 0) (hP : PBk k x y) : PBk (k + 1) y (x % y) := by
  have y1 : 0 < y := by have := hy.1; omega
  have l := Int.emod_lt_of_pos x y1
  have n := Int.emod_nonneg x h
  have ir : In (x % y) := In_mod hy h
  have base : y * (x % y) < P512 := prod_lt hy ir
  refine .inr (.inr ⟨by omega, ?_⟩)
  rcases hP with h0 | h0 | ⟨h1, h2⟩
  · exact absurd h0 h
  · subst h0; simpa using base
  · by_cases hk : k = 0
    · subst hk; simpa using base
    · obtain ⟨j, rfl⟩ : ∃ j, k = j + 1 := ⟨k - 1, by omega⟩
      simp only [Nat.add_sub_cancel] at h2 ⊢
      have hh := half hx.1 y1 h1
      have p : (0 : Int) < 2 ^ j := Int.pow_pos (by omega)
      have m1 : y * (2 * (x % y)) ≤ y * x := Int.mul_le_mul_of_nonneg_left hh (by omega)
      have m2 := Int.mul_le_mul_of_nonneg_right m1 (Int.le_of_lt p)
      have e : y * (x % y) * 2 ^ (j + 1) = y * (2 * (x % y)) * 2 ^ j := by rw [Int.pow_succ]; grind
      have e2 : y * x = x * y := Int.mul_comm _ _
      rw [e]; rw [e2] at m2; omega
theorem PBk.fin {x y : Int} (hy : In y) (hP : PBk 600 x y) : y = 0 := by
  rcases hP with h | h | ⟨h1, h2⟩
  · exact h
  · omega
  · by_cases h : y < 1
    · have := hy.1; omega
    · exfalso
      have m0 : 1 * 1 ≤ x * y := Int.mul_le_mul (by omega) (by omega) (by omega) (by omega)
      have p : (0 : Int) ≤ 2 ^ (512 + 87) := Int.le_of_lt (Int.pow_pos (by omega))
      have m := Int.mul_le_mul_of_nonneg_right m0 p
      have c := P_le 87
      have h2' : x * y * 2 ^ (512 + 87) < P512 := h2
      generalize (2 : Int) ^ (512 + 87) = z at *
      omega
/-- The reference's numbers on the way to an inverse. -/
structure RV (m a x y fx fy : Int) (k : Nat) : Prop where
  x0 : 0 ≤ x
  xy : x < y
  ym : y ≤ m
  g : gI y x = gI m a
  dx : m ∣ fx * a - x
  dy : m ∣ fy * a - y
  fx0 : 0 ≤ fx ∧ fx < m
  fy0 : 0 ≤ fy ∧ fy < m
  b : y * x * 2 ^ k < P512
theorem RV.start {m a : Int} (hm : In m) (h1 : 1 < m) (h0 : 0 ≤ a) (ha : a < m) : RV m a a m 1 0 0 where
  x0 := h0
  xy := ha
  ym := Int.le_refl _
  g := rfl
  dx := ⟨0, by omega⟩
  dy := ⟨-1, by omega⟩
  fx0 := ⟨by omega, h1⟩
  fy0 := ⟨by omega, by omega⟩
  b := by
    have := prod_lt hm (show In a from ⟨h0, by have := hm.2; omega⟩)
    simpa using this
theorem RV.step {m a x y fx fy : Int} {k : Nat} (h : RV m a x y fx fy k) (hx : x ≠ 0) : RV m a (y % x) x ((fy - y / x * fx % m) % m) fx (k + 1) where
  x0 := Int.emod_nonneg _ hx
  xy := Int.emod_lt_of_pos _ (by have := h.x0; omega)
  ym := by have := h.xy; have := h.ym; omega
  g := by rw [gI_step y x (by have := h.x0; have := h.xy; omega) h.x0 hx]; exact h.g
  dx := by
    obtain ⟨p, hp⟩ := h.dx
    obtain ⟨q, hq⟩ := h.dy
    have e1 := Int.mul_ediv_add_emod (y / x * fx) m
    have e2 := Int.mul_ediv_add_emod (fy - y / x * fx % m) m
    have e3 := Int.mul_ediv_add_emod y x
    generalize (fy - y / x * fx % m) % m = u at *
    generalize (fy - y / x * fx % m) / m = u1 at *
    generalize y / x * fx % m = v at *
    generalize y / x * fx / m = v1 at *
    generalize y % x = r at *
    generalize y / x = s at *
    exact ⟨q - s * p + v1 * a - u1 * a, by grind⟩
  dy := h.dx
  fx0 := by
    have m0 : 0 < m := by have := h.x0; have := h.xy; have := h.ym; omega
    exact ⟨Int.emod_nonneg _ (by omega), Int.emod_lt_of_pos _ m0⟩
  fy0 := h.fx0
  b := by
    have x1 : 0 < x := by have := h.x0; omega
    have hh := half (show 0 ≤ y by have := h.xy; omega) x1 (by have := h.xy; omega)
    have p : (0 : Int) < 2 ^ k := Int.pow_pos (by omega)
    have m1 : x * (2 * (y % x)) ≤ x * y := Int.mul_le_mul_of_nonneg_left hh (by omega)
    have m2 := Int.mul_le_mul_of_nonneg_right m1 (Int.le_of_lt p)
    have e : x * (y % x) * 2 ^ (k + 1) = x * (2 * (y % x)) * 2 ^ k := by rw [Int.pow_succ]; grind
    have hb := h.b
    have e2 : x * y = y * x := Int.mul_comm _ _
    rw [e]; rw [e2] at m2; omega
theorem RV.fin {m a x y fx fy : Int} (h : RV m a x y fx fy 600) : x = 0 := by
  by_cases h1 : x < 1
  · have := h.x0; omega
  · exfalso
    have hb := h.b
    have m0 : 1 * 1 ≤ y * x := Int.mul_le_mul (by have := h.xy; omega) (by omega) (by omega) (by have := h.xy; omega)
    have p : (0 : Int) ≤ 2 ^ (512 + 88) := Int.le_of_lt (Int.pow_pos (by omega))
    have m := Int.mul_le_mul_of_nonneg_right m0 p
    have c := P_le 88
    have hb : y * x * 2 ^ (512 + 88) < P512 := hb
    generalize (2 : Int) ^ (512 + 88) = z at *
    omega
theorem lss_i (p q : Operand) (x y : Int) (b : Bool) (w : World) (h : decide (x < y) = b) : (do eqGuard .lss 3 p q (.int .i64 x) (.int .i64 y); binOp .lss 3 (.int .i64 x) (.int .i64 y) : Sem Value).run Try.prog w = .ok (.bool b) w := by
  subst h; go_simp
theorem bd1 (w : World) : (Instr.build 25 [(0, .int .u64 1)].toArray).run Try.prog w = .ok (NV 1) w := by
  have k : (Instr.build 25 [(0, .int .u64 1)].toArray).run Try.prog w = .ok (A4 1 0 0 0) w := by kernel_rfl
  rw [NV_small (show (0 : Int) ≤ 1 by omega) (by omega)]; exact k
theorem bd4 (x y z t : Int) (w : World) : (Instr.build 25 [(0, .int .u64 x), (1, .int .u64 y), (2, .int .u64 z), (3, .int .u64 t)].toArray).run Try.prog w = .ok (A4 x y z t) w := by kernel_rfl
set_option maxRecDepth 100000 in
set_option maxHeartbeats 2000000 in
theorem xGcd (a b : Int) (w : World) (ha : In a) (hb : In b) :
    Calls Try.prog 24 #[NV a, NV b] w fun e w' => e = .returned (NV (gI a b)) ∧ Below w.heap.size w w' := by
  go_enter Try.func24, Try.ntmps24
  go_upto_region 1 with fail
  generalize hC : (((w.alloc (.cells (LN a : List Value).toArray 25)).alloc (.cells (LN b : List Value).toArray 25)).alloc (.cells (L0s : List Value).toArray 25)) = v0 at *
  have HB0 : Below w.heap.size w v0 := by rw [← hC]; exact balloc (balloc (balloc (bself w) _) _) _
  have K0 : Bk w.heap.size v0 [(true, w.heap.size, LN a), (true, w.heap.size + 1, LN b), (true, w.heap.size + 1 + 1, L0s)] := by rw [← hC]; exact (Bk.nil _ w).ad.ad.ad
  clear hC
  refine rgP K0 HB0 HB0.size [] [] [(0, 5, (Go.Value.int Go.IntKind.i64 0))] [] [] [] ?_ ?_
  · exact oc g_as on
  intro u1 HB1 sz1 K1
  simp only [fX, nK, nP, Wr.f, aK, pM] at K1
  simp only [setG, setN, List.set_cons_zero, List.set_cons_succ]
  clear K0 HB0
  go_wp2_with fail
  go_loopw [5] (fun s5 wr => ∃ (k : Nat) (x y : Int), s5 = .int .i64 (k : Int) ∧ k ≤ 600 ∧ In x ∧ In y ∧ Hid (gI x y = gI a b) ∧ Hid (PBk k x y) ∧ Below w.heap.size w wr ∧ CV wr (w.heap.size) (LN x) ∧ CV wr (w.heap.size + 1) (LN y) ∧ CV wr (w.heap.size + 1 + 1) L0s ∧ w.heap.size + 1 + 1 < wr.heap.size) (fun s5 _ => 600 - (intOf s5).toNat)
  case atStart => exact ⟨0, a, b, rfl, by omega, ha, hb, rfl, .inr (.inl rfl), HB1, (K1.cv 0), (K1.cv 1), (K1.cv 2), (K1.lt 2)⟩
  case round =>
    obtain ⟨k, x, y, rfl, hk, ix, iy, hg, hP, HBr, Kx, Ky, Kr, lr⟩ := hrel
    clear HB1
    have hn := K1.n
    simp at hn
    by_cases h2 : y = 0
    · have hgx : Hid (gI a b = x) := by show _ = _; rw [← hg.out, h2, gI_0 x ix.1]
      have hz : decide (y = 0) = !false := by simp [h2]
      clear hg hP
      by_cases h6 : k < 600
      · have hl : decide ((k : Int) < 600) = true := by simp; omega
        have K1_1 : Bk w.heap.size wr [(false, w.heap.size, LN x), (false, w.heap.size + 1, LN y), (true, w.heap.size + 1 + 1, L0s)] := ⟨.c (by omega) Kx <| .c (by omega) Ky <| .o lr (K1.lo 2) Kr <| trivial, by simp; omega⟩
        go_upto_region 2 with fail
        refine rgP K1_1 HBr HBr.size [] [] [(0, 8, .int .i64 (k : Int)), (1, 9, .bool true), (2, 10, .bool true), (3, 11, NV y), (4, 12, A4 (0) (0) (0) (0)), (5, 13, .bool false), (6, 14, .bool false)] [] [] [true, false] ?_ ?_
        · refine oc g_mv ?_
          refine oc (g_bn (fun uZ => lss_i _ _ (k : Int) 600 _ uZ hl)) ?_
          refine oc g_mv ?_
          refine oc (g_ld 1 uN iN) ?_
          refine oc (g_bd zN) ?_
          refine oc (g_bn (fun uZ => neq_0 _ _ iy _ hz uZ)) ?_
          exact oc g_pk on
        intro u2 HB2 sz2 K2
        simp only [fX, nK, nP, Wr.f, aK, pM] at K2
        simp only [setG, setN, List.set_cons_zero, List.set_cons_succ]
        go_upto_region 6 with fail
        refine rgP K2 HB2 HB2.size [.no, .all 1 (LN x)] [] [(0, 26, NV x)] [] [] [false] ?_ ?_
        · refine oc (g_ld 0 uN iN) ?_
          exact oc (g_st 1 iN) on
        intro u3 HB3 sz3 K3
        simp only [fX, nK, nP, Wr.f, aK, pM] at K3
        simp only [setG, setN, List.set_cons_zero, List.set_cons_succ]
        clear K2 HB2
        have c4_0 := ((K3.cv 0) 0 _ rfl).1
        have c4_1 := ((K3.cv 0) 1 _ rfl).1
        have c4_2 := ((K3.cv 0) 2 _ rfl).1
        have c4_3 := ((K3.cv 0) 3 _ rfl).1
        go_wp2
        refine bodyPost_ret (v := NV x) (by simp [results, Try.results24, go_sem, c4_0, c4_1, c4_2, c4_3]) rfl ⟨by rw [hgx.out], HB3⟩
      · have hl : decide ((k : Int) < 600) = false := by simp; omega
        have K1_1 : Bk w.heap.size wr [(false, w.heap.size, LN x), (false, w.heap.size + 1, LN y), (true, w.heap.size + 1 + 1, L0s)] := ⟨.c (by omega) Kx <| .c (by omega) Ky <| .o lr (K1.lo 2) Kr <| trivial, by simp; omega⟩
        go_upto_region 2 with fail
        refine rgP K1_1 HBr HBr.size [] [] [(0, 8, .int .i64 (k : Int)), (1, 9, .bool false), (2, 10, .bool false), (3, 11, undef), (4, 12, undef), (5, 13, undef), (6, 14, (Go.Value.bool Bool.false))] [] [] [true, false] ?_ ?_
        · refine oc g_mv ?_
          refine oc (g_bn (fun uZ => lss_i _ _ (k : Int) 600 _ uZ hl)) ?_
          refine oc g_mv ?_
          refine oc g_sk ?_
          refine oc g_sk ?_
          refine oc g_sk ?_
          exact oc g_pk on
        intro u2 HB2 sz2 K2
        simp only [fX, nK, nP, Wr.f, aK, pM] at K2
        simp only [setG, setN, List.set_cons_zero, List.set_cons_succ]
        go_upto_region 6 with fail
        refine rgP K2 HB2 HB2.size [.no, .all 1 (LN x)] [] [(0, 26, NV x)] [] [] [false] ?_ ?_
        · refine oc (g_ld 0 uN iN) ?_
          exact oc (g_st 1 iN) on
        intro u3 HB3 sz3 K3
        simp only [fX, nK, nP, Wr.f, aK, pM] at K3
        simp only [setG, setN, List.set_cons_zero, List.set_cons_succ]
        clear K2 HB2
        have c4_0 := ((K3.cv 0) 0 _ rfl).1
        have c4_1 := ((K3.cv 0) 1 _ rfl).1
        have c4_2 := ((K3.cv 0) 2 _ rfl).1
        have c4_3 := ((K3.cv 0) 3 _ rfl).1
        go_wp2
        refine bodyPost_ret (v := NV x) (by simp [results, Try.results24, go_sem, c4_0, c4_1, c4_2, c4_3]) rfl ⟨by rw [hgx.out], HB3⟩
    · have h6 : k < 600 := by
        rcases Nat.lt_or_ge k 600 with h | h
        · exact h
        · have : k = 600 := by omega
          subst this; exact absurd (PBk.fin iy hP.out) h2
      have hl : decide ((k : Int) < 600) = true := by simp; omega
      have hz : decide (y = 0) = !true := by simp [h2]
      have i1 : In (x % y) := In_mod iy h2
      have hgx : Hid (gI y (x % y) = gI a b) := by rw [← hg.out]; exact gI_step x y ix.1 iy.1 h2
      have hPx : Hid _ := PBk.step ix iy h2 hP.out
      clear hg hP
      have K1_1 : Bk w.heap.size wr [(true, w.heap.size, LN x), (true, w.heap.size + 1, LN y), (false, w.heap.size + 1 + 1, L0s)] := ⟨.o (by omega) (K1.lo 0) Kx <| .o (by omega) (K1.lo 1) Ky <| .c lr Kr <| trivial, by simp; omega⟩
      go_upto_region 2 with fail
      refine rgP K1_1 HBr HBr.size [] [] [(0, 8, .int .i64 (k : Int)), (1, 9, .bool true), (2, 10, .bool true), (3, 11, NV y), (4, 12, A4 (0) (0) (0) (0)), (5, 13, .bool true), (6, 14, .bool true)] [] [] [] ?_ ?_
      · refine oc g_mv ?_
        refine oc (g_bn (fun uZ => lss_i _ _ (k : Int) 600 _ uZ hl)) ?_
        refine oc g_mv ?_
        refine oc (g_ld 1 uN iN) ?_
        refine oc (g_bd zN) ?_
        refine oc (g_bn (fun uZ => neq_0 _ _ iy _ hz uZ)) ?_
        exact oc g_pk on
      intro u2 HB2 sz2 K2
      simp only [fX, nK, nP, Wr.f, aK, pM] at K2
      simp only [setG, setN, List.set_cons_zero, List.set_cons_succ]
      go_upto_region 4 with fail
      refine rgD K2 HB2 HB2.size [] [(7, 6, L0s, some (8, LN (x % y)))] [(0, 18, NV x), (1, 19, WV x), (2, 20, NV y), (3, 21, .tuple #[NV (x % y), .int .i64 0]), (4, 17, .tuple #[NV (x % y), .int .i64 0]), (5, 22, NV (x % y)), (6, 23, .int .i64 0), (9, 7, .int .i64 0)] [(8, 7)] [] [] ?_ ?_
      · refine oc (g_ld 0 uN iN) ?_
        refine oc (g_cl ent_seneschalref01_Widen (fun uZ => nrWiden x uZ ix)) ?_
        refine oc (g_ld 1 uN iN) ?_
        refine oc (g_cl ent_seneschalref02_Reduce (fun uZ => xReduce x y uZ ix.wide iy h2)) ?_
        refine oc g_mv ?_
        refine oc g_ex ?_
        refine oc g_ex ?_
        refine oc (g_al 0 aN) ?_
        refine oc (g_sn 0 iN) ?_
        exact oc g_as on
      intro u3 b3_7 HB3 sz3 K3
      simp only [fX, nK, nP, Wr.f, aK, pM] at K3
      simp only [setG, setN, List.set_cons_zero, List.set_cons_succ]
      clear K2 HB2
      go_upto_region 5 with fail
      refine rgD K3 HB3 HB3.size [.all 2 (LN y), .all 3 (LN (x % y))] [] [(0, 24, NV y), (1, 25, NV (x % y))] [(3, 0)] [] [true, true, true, false] ?_ ?_
      · refine oc (g_ld 1 uN iN) ?_
        refine oc (g_ld 3 uN iN) ?_
        refine oc (g_st 0 iN) ?_
        exact oc (g_st 1 iN) on
      intro u4 HB4 sz4 K4
      simp only [fX, nK, nP, Wr.f, aK, pM] at K4
      simp only [setG, setN, List.set_cons_zero, List.set_cons_succ]
      clear K3 HB3
      go_upto_region 3 with fail
      refine rgP K4 HB4 HB4.size [] [] [(0, 15, .int .i64 (k : Int)), (1, 16, .int .i64 ((k : Int) + 1)), (2, 5, .int .i64 ((k : Int) + 1))] [(2, 0)] [(2, 5)] [] ?_ ?_
      · refine oc g_mv ?_
        refine oc (g_bn (fun uZ => add_i _ _ (k : Int) 1 ((k : Int) + 1) uZ rfl (by omega) (by omega))) ?_
        exact oc g_as on
      intro u5 HB5 sz5 K5
      simp only [fX, nK, nP, Wr.f, aK, pM] at K5
      simp only [setG, setN, List.set_cons_zero, List.set_cons_succ]
      clear K4 HB4
      go_wp2
      refine ⟨⟨k + 1, y, x % y, by simp, by omega, iy, i1, hgx, hPx, HB5, (K5.cv 0), (K5.cv 1), (K5.cv 2), (K5.lt 2)⟩, ?_⟩
      simp [intOf] <;> omega
set_option maxRecDepth 100000 in
set_option maxHeartbeats 2000000 in
theorem xInverse1 (a m : Int) (w : World) (ha : In a) (hm : In m) (h : m ≠ 0) (h1 : decide (m = 1) = true) :
    Calls Try.prog 22 #[NV a, NV m] w fun e w' => e = .returned (.tuple #[A4 0 0 0 0, .int .i64 0]) ∧ Below w.heap.size w w' := by
  go_enter Try.func22, Try.ntmps22
  go_upto_region 1 with fail
  generalize hC : (((w.alloc (.cells (LN a : List Value).toArray 25)).alloc (.cells (LN m : List Value).toArray 25)).alloc (.cells (L0s : List Value).toArray 25)) = v0 at *
  have HB0 : Below w.heap.size w v0 := by rw [← hC]; exact balloc (balloc (balloc (bself w) _) _) _
  have K0 : Bk w.heap.size v0 [(true, w.heap.size, LN a), (true, w.heap.size + 1, LN m), (true, w.heap.size + 1 + 1, L0s)] := by rw [← hC]; exact (Bk.nil _ w).ad.ad.ad
  clear hC
  refine rgD K0 HB0 HB0.size [] [(7, 6, L0s, some (8, LN (a % m)))] [(0, 21, NV a), (1, 22, WV a), (2, 23, NV m), (3, 24, .tuple #[NV (a % m), .int .i64 0]), (4, 20, .tuple #[NV (a % m), .int .i64 0]), (5, 25, NV (a % m)), (6, 26, .int .i64 0), (9, 7, .int .i64 0)] [(8, 7)] [] [false, true, true, false] ?_ ?_
  · refine oc (g_ld 0 uN iN) ?_
    refine oc (g_cl ent_seneschalref01_Widen (fun uZ => nrWiden a uZ ha)) ?_
    refine oc (g_ld 1 uN iN) ?_
    refine oc (g_cl ent_seneschalref02_Reduce (fun uZ => xReduce a m uZ ha.wide hm h)) ?_
    refine oc g_mv ?_
    refine oc g_ex ?_
    refine oc g_ex ?_
    refine oc (g_al 0 aN) ?_
    refine oc (g_sn 0 iN) ?_
    exact oc g_as on
  intro u1 b1_7 HB1 sz1 K1
  simp only [fX, nK, nP, Wr.f, aK, pM] at K1
  simp only [setG, setN, List.set_cons_zero, List.set_cons_succ]
  clear K0 HB0
  go_upto_region 2 with fail
  refine rgP K1 HB1 HB1.size [] [] [(0, 27, .int .i64 0), (1, 28, .bool false)] [] [] [] ?_ ?_
  · refine oc g_mv ?_
    exact oc (g_bn (fun uZ => neq_i _ _ _ 0 0 _ uZ rfl)) on
  intro u2 HB2 sz2 K2
  simp only [fX, nK, nP, Wr.f, aK, pM] at K2
  simp only [setG, setN, List.set_cons_zero, List.set_cons_succ]
  clear K1 HB1
  go_upto_region 4 with fail
  refine rgP K2 HB2 HB2.size [] [] [(0, 31, NV m), (1, 32, NV 1), (2, 33, .bool true)] [] [] [false] ?_ ?_
  · refine oc (g_ld 0 uN iN) ?_
    refine oc (g_bd (fun uZ => bd1 uZ)) ?_
    exact oc (g_bn (fun uZ => eql_n _ _ hm In_1 _ h1 uZ)) on
  intro u3 HB3 sz3 K3
  simp only [fX, nK, nP, Wr.f, aK, pM] at K3
  simp only [setG, setN, List.set_cons_zero, List.set_cons_succ]
  clear K2 HB2
  go_upto_region 5 with fail
  refine rgP K3 HB3 HB3.size [.all 1 ([.int .u64 (0), .int .u64 (0), .int .u64 (0), .int .u64 (0)])] [] [(0, 34, A4 (0) (0) (0) (0)), (2, 5, (Go.Value.int Go.IntKind.i64 0))] [] [] [] ?_ ?_
  · refine oc (g_bd zN) ?_
    refine oc (g_st 0 iN) ?_
    exact oc g_as on
  intro u4 HB4 sz4 K4
  simp only [fX, nK, nP, Wr.f, aK, pM] at K4
  simp only [setG, setN, List.set_cons_zero, List.set_cons_succ]
  clear K3 HB3
  have c4_0 := ((K4.cv 0) 0 _ rfl).1
  have c4_1 := ((K4.cv 0) 1 _ rfl).1
  have c4_2 := ((K4.cv 0) 2 _ rfl).1
  have c4_3 := ((K4.cv 0) 3 _ rfl).1
  go_wp2
  refine bodyPost_ret (v := .tuple #[A4 0 0 0 0, .int .i64 0]) (by simp [results, Try.results22, go_sem, c4_0, c4_1, c4_2, c4_3]) rfl ⟨rfl, HB4⟩
set_option maxRecDepth 100000 in
set_option maxHeartbeats 2000000 in
theorem xInverseG (a m : Int) (R : Value) (w : World) (ha : In a) (hm : In m) (h : m ≠ 0) (hm1 : 1 < m) (h1 : decide (m = 1) = false) (hno : gI m (a % m) ≠ 1 → R = .tuple #[A4 0 0 0 0, .int .i64 20]) (hyes : gI m (a % m) = 1 → ∀ x, IsInv (a % m) m x → R = .tuple #[NV x, .int .i64 0]) :
    Calls Try.prog 22 #[NV a, NV m] w fun e w' => e = .returned R ∧ Below w.heap.size w w' := by
  go_enter Try.func22, Try.ntmps22
  go_upto_region 1 with fail
  generalize hC : (((w.alloc (.cells (LN a : List Value).toArray 25)).alloc (.cells (LN m : List Value).toArray 25)).alloc (.cells (L0s : List Value).toArray 25)) = v0 at *
  have HB0 : Below w.heap.size w v0 := by rw [← hC]; exact balloc (balloc (balloc (bself w) _) _) _
  have K0 : Bk w.heap.size v0 [(true, w.heap.size, LN a), (true, w.heap.size + 1, LN m), (true, w.heap.size + 1 + 1, L0s)] := by rw [← hC]; exact (Bk.nil _ w).ad.ad.ad
  clear hC
  refine rgD K0 HB0 HB0.size [] [(7, 6, L0s, some (8, LN (a % m)))] [(0, 21, NV a), (1, 22, WV a), (2, 23, NV m), (3, 24, .tuple #[NV (a % m), .int .i64 0]), (4, 20, .tuple #[NV (a % m), .int .i64 0]), (5, 25, NV (a % m)), (6, 26, .int .i64 0), (9, 7, .int .i64 0)] [(8, 7)] [] [false] ?_ ?_
  · refine oc (g_ld 0 uN iN) ?_
    refine oc (g_cl ent_seneschalref01_Widen (fun uZ => nrWiden a uZ ha)) ?_
    refine oc (g_ld 1 uN iN) ?_
    refine oc (g_cl ent_seneschalref02_Reduce (fun uZ => xReduce a m uZ ha.wide hm h)) ?_
    refine oc g_mv ?_
    refine oc g_ex ?_
    refine oc g_ex ?_
    refine oc (g_al 0 aN) ?_
    refine oc (g_sn 0 iN) ?_
    exact oc g_as on
  intro u1 b1_7 HB1 sz1 K1
  simp only [fX, nK, nP, Wr.f, aK, pM] at K1
  simp only [setG, setN, List.set_cons_zero, List.set_cons_succ]
  clear K0 HB0
  go_upto_region 2 with fail
  refine rgP K1 HB1 HB1.size [] [] [(0, 27, .int .i64 0), (1, 28, .bool false)] [] [] [] ?_ ?_
  · refine oc g_mv ?_
    exact oc (g_bn (fun uZ => neq_i _ _ _ 0 0 _ uZ rfl)) on
  intro u2 HB2 sz2 K2
  simp only [fX, nK, nP, Wr.f, aK, pM] at K2
  simp only [setG, setN, List.set_cons_zero, List.set_cons_succ]
  clear K1 HB1
  go_upto_region 4 with fail
  refine rgP K2 HB2 HB2.size [] [] [(0, 31, NV m), (1, 32, NV 1), (2, 33, .bool false)] [] [] [] ?_ ?_
  · refine oc (g_ld 0 uN iN) ?_
    refine oc (g_bd (fun uZ => bd1 uZ)) ?_
    exact oc (g_bn (fun uZ => eql_n _ _ hm In_1 _ h1 uZ)) on
  intro u3 HB3 sz3 K3
  simp only [fX, nK, nP, Wr.f, aK, pM] at K3
  simp only [setG, setN, List.set_cons_zero, List.set_cons_succ]
  clear K2 HB2
  go_upto_region 6 with fail
  refine rgP K3 HB3 HB3.size [] [(3, 8, L0s, some (6, LN m)), (4, 9, L0s, some (7, LN 1)), (5, 10, L0s, some (8, [.int .u64 (0), .int .u64 (0), .int .u64 (0), .int .u64 (0)]))] [(0, 35, NV m), (1, 36, NV 1), (2, 37, A4 (0) (0) (0) (0))] [(6, 3), (7, 4), (8, 5)] [] [] ?_ ?_
  · refine oc (g_ld 0 uN iN) ?_
    refine oc (g_bd (fun uZ => bd1 uZ)) ?_
    refine oc (g_bd zN) ?_
    refine oc (g_al 0 aN) ?_
    refine oc (g_al 1 aN) ?_
    refine oc (g_al 2 aN) ?_
    refine oc (g_sn 0 iN) ?_
    refine oc (g_sn 1 iN) ?_
    exact oc (g_sn 2 iN) on
  intro u4 b4_3 b4_4 b4_5 HB4 sz4 K4
  simp only [fX, nK, nP, Wr.f, aK, pM] at K4
  simp only [setG, setN, List.set_cons_zero, List.set_cons_succ]
  clear K3 HB3
  go_upto_region 7 with fail
  refine rgP K4 HB4 HB4.size [] [] [(0, 11, (Go.Value.int Go.IntKind.i64 0))] [] [] [] ?_ ?_
  · exact oc g_as on
  intro u5 HB5 sz5 K5
  simp only [fX, nK, nP, Wr.f, aK, pM] at K5
  simp only [setG, setN, List.set_cons_zero, List.set_cons_succ]
  clear K4 HB4
  go_wp2_with fail
  go_loopw [11] (fun s11 wr => ∃ (k : Nat) (x y fx fy : Int), s11 = .int .i64 (k : Int) ∧ k ≤ 600 ∧ RV m (a % m) x y fx fy k ∧ Below w.heap.size w wr ∧ CV wr (w.heap.size + 1) (LN m) ∧ CV wr (w.heap.size + 1 + 1) L0s ∧ CV wr b1_7 (LN x) ∧ CV wr b4_3 (LN y) ∧ CV wr b4_4 (LN fx) ∧ CV wr b4_5 (LN fy) ∧ w.heap.size + 1 + 1 < wr.heap.size ∧ b1_7 < wr.heap.size ∧ b4_3 < wr.heap.size ∧ b4_4 < wr.heap.size ∧ b4_5 < wr.heap.size) (fun s11 _ => 600 - (intOf s11).toNat)
  case atStart => exact ⟨0, a % m, m, 1, 0, rfl, by omega, RV.start hm hm1 (Int.emod_nonneg _ h) (Int.emod_lt_of_pos _ (by omega)), HB5, (K5.cv 0), (K5.cv 1), (K5.cv 2), (K5.cv 3), (K5.cv 4), by rw [LN_0]; exact (K5.cv 5), (K5.lt 1), (K5.lt 2), (K5.lt 3), (K5.lt 4), (K5.lt 5)⟩
  case round =>
    obtain ⟨k, x, y, fx, fy, rfl, hk, hR, HBr, Km, Kr, Kx, Ky, Kf, Kh, lr, lx, ly, lf, lh⟩ := hrel
    clear HB5
    have hn := K5.n
    simp at hn
    have ho2 := K5.lo 2
    have ho3 := K5.lo 3
    have ho4 := K5.lo 4
    have ho5 := K5.lo 5
    have ix : In x := In_le hm hR.x0 (by have := hR.xy; have := hR.ym; omega)
    have iy : In y := In_le hm (by have := hR.x0; have := hR.xy; omega) hR.ym
    have ifx : In fx := In_le hm hR.fx0.1 (by have := hR.fx0.2; omega)
    have ify : In fy := In_le hm hR.fy0.1 (by have := hR.fy0.2; omega)
    by_cases h2 : x = 0
    · have hz : decide (x = 0) = !false := by simp [h2]
      have hy : gI m (a % m) = y := by rw [← hR.g, h2, gI_0 y iy.1]
      have hI : y = 1 → IsInv (a % m) m fy := fun e => ⟨hR.fy0.1, hR.fy0.2, by have := hR.dy; rw [e] at this; exact this⟩
      have HI : Hid _ := hI
      have HY : Hid _ := hy
      clear hI hy hR
      by_cases h6 : k < 600
      · have hl : decide ((k : Int) < 600) = true := by simp; omega
        have K5_1 : Bk w.heap.size wr [(false, w.heap.size + 1, LN m), (true, w.heap.size + 1 + 1, L0s), (false, b1_7, LN x), (false, b4_3, LN y), (false, b4_4, LN fx), (false, b4_5, LN fy)] := ⟨.c (by omega) Km <| .o lr (K5.lo 1) Kr <| .c lx Kx <| .c ly Ky <| .c lf Kf <| .c lh Kh <| trivial, by simp; omega⟩
        go_upto_region 8 with fail
        refine rgP K5_1 HBr HBr.size [] [] [(0, 38, .int .i64 (k : Int)), (1, 39, .bool true), (2, 40, .bool true), (3, 41, NV x), (4, 42, A4 (0) (0) (0) (0)), (5, 43, .bool false), (6, 44, .bool false)] [] [] [false, true, false, true, false] ?_ ?_
        · refine oc g_mv ?_
          refine oc (g_bn (fun uZ => lss_i _ _ (k : Int) 600 _ uZ hl)) ?_
          refine oc g_mv ?_
          refine oc (g_ld 2 uN iN) ?_
          refine oc (g_bd zN) ?_
          refine oc (g_bn (fun uZ => neq_0 _ _ ix _ hz uZ)) ?_
          exact oc g_pk on
        intro u6 HB6 sz6 K6
        simp only [fX, nK, nP, Wr.f, aK, pM] at K6
        simp only [setG, setN, List.set_cons_zero, List.set_cons_succ]
        by_cases h7 : y = 1
        · have h8 : decide (y = 1) = !false := by simp [h7]
          go_upto_region 16 with fail
          refine rgP K6 HB6 HB6.size [] [] [(0, 82, NV y), (1, 83, NV 1), (2, 84, .bool false)] [] [] [true, false] ?_ ?_
          · refine oc (g_ld 1 uN iN) ?_
            refine oc (g_bd (fun uZ => bd1 uZ)) ?_
            exact oc (g_bn (fun uZ => neq_n _ _ iy In_1 _ h8 uZ)) on
          intro u7 HB7 sz7 K7
          simp only [fX, nK, nP, Wr.f, aK, pM] at K7
          simp only [setG, setN, List.set_cons_zero, List.set_cons_succ]
          clear K6 HB6
          go_upto_region 18 with fail
          refine rgP K7 HB7 HB7.size [.all 1 (LN fy)] [] [(0, 86, NV fy), (2, 5, (Go.Value.int Go.IntKind.i64 0))] [] [] [true, false] ?_ ?_
          · refine oc (g_ld 1 uN iN) ?_
            refine oc (g_st 0 iN) ?_
            exact oc g_as on
          intro u8 HB8 sz8 K8
          simp only [fX, nK, nP, Wr.f, aK, pM] at K8
          simp only [setG, setN, List.set_cons_zero, List.set_cons_succ]
          clear K7 HB7
          have c4_0 := ((K8.cv 0) 0 _ rfl).1
          have c4_1 := ((K8.cv 0) 1 _ rfl).1
          have c4_2 := ((K8.cv 0) 2 _ rfl).1
          have c4_3 := ((K8.cv 0) 3 _ rfl).1
          go_wp2
          refine bodyPost_ret (v := .tuple #[NV fy, .int .i64 0]) (by simp [results, Try.results22, go_sem, c4_0, c4_1, c4_2, c4_3]) rfl ⟨by rw [hyes (by rw [HY.out]; exact h7) _ (HI.out h7)], HB8⟩
        · have h8 : decide (y = 1) = !true := by simp [h7]
          go_upto_region 16 with fail
          refine rgP K6 HB6 HB6.size [] [] [(0, 82, NV y), (1, 83, NV 1), (2, 84, .bool true)] [] [] [true, false, false] ?_ ?_
          · refine oc (g_ld 1 uN iN) ?_
            refine oc (g_bd (fun uZ => bd1 uZ)) ?_
            exact oc (g_bn (fun uZ => neq_n _ _ iy In_1 _ h8 uZ)) on
          intro u7 HB7 sz7 K7
          simp only [fX, nK, nP, Wr.f, aK, pM] at K7
          simp only [setG, setN, List.set_cons_zero, List.set_cons_succ]
          clear K6 HB6
          go_upto_region 17 with fail
          refine rgP K7 HB7 HB7.size [.all 1 ([.int .u64 (0), .int .u64 (0), .int .u64 (0), .int .u64 (0)])] [] [(0, 85, A4 (0) (0) (0) (0)), (2, 5, (Go.Value.int Go.IntKind.i64 20))] [] [] [] ?_ ?_
          · refine oc (g_bd zN) ?_
            refine oc (g_st 0 iN) ?_
            exact oc g_as on
          intro u8 HB8 sz8 K8
          simp only [fX, nK, nP, Wr.f, aK, pM] at K8
          simp only [setG, setN, List.set_cons_zero, List.set_cons_succ]
          clear K7 HB7
          have c4_0 := ((K8.cv 0) 0 _ rfl).1
          have c4_1 := ((K8.cv 0) 1 _ rfl).1
          have c4_2 := ((K8.cv 0) 2 _ rfl).1
          have c4_3 := ((K8.cv 0) 3 _ rfl).1
          go_wp2
          refine bodyPost_ret (v := .tuple #[A4 0 0 0 0, .int .i64 20]) (by simp [results, Try.results22, go_sem, c4_0, c4_1, c4_2, c4_3]) rfl ⟨by rw [hno (by rw [HY.out]; exact h7)], HB8⟩
      · have hl : decide ((k : Int) < 600) = false := by simp; omega
        have K5_1 : Bk w.heap.size wr [(false, w.heap.size + 1, LN m), (true, w.heap.size + 1 + 1, L0s), (false, b1_7, LN x), (false, b4_3, LN y), (false, b4_4, LN fx), (false, b4_5, LN fy)] := ⟨.c (by omega) Km <| .o lr (K5.lo 1) Kr <| .c lx Kx <| .c ly Ky <| .c lf Kf <| .c lh Kh <| trivial, by simp; omega⟩
        go_upto_region 8 with fail
        refine rgP K5_1 HBr HBr.size [] [] [(0, 38, .int .i64 (k : Int)), (1, 39, .bool false), (2, 40, .bool false), (3, 41, undef), (4, 42, undef), (5, 43, undef), (6, 44, (Go.Value.bool Bool.false))] [] [] [false, true, false, true, false] ?_ ?_
        · refine oc g_mv ?_
          refine oc (g_bn (fun uZ => lss_i _ _ (k : Int) 600 _ uZ hl)) ?_
          refine oc g_mv ?_
          refine oc g_sk ?_
          refine oc g_sk ?_
          refine oc g_sk ?_
          exact oc g_pk on
        intro u6 HB6 sz6 K6
        simp only [fX, nK, nP, Wr.f, aK, pM] at K6
        simp only [setG, setN, List.set_cons_zero, List.set_cons_succ]
        by_cases h7 : y = 1
        · have h8 : decide (y = 1) = !false := by simp [h7]
          go_upto_region 16 with fail
          refine rgP K6 HB6 HB6.size [] [] [(0, 82, NV y), (1, 83, NV 1), (2, 84, .bool false)] [] [] [true, false] ?_ ?_
          · refine oc (g_ld 1 uN iN) ?_
            refine oc (g_bd (fun uZ => bd1 uZ)) ?_
            exact oc (g_bn (fun uZ => neq_n _ _ iy In_1 _ h8 uZ)) on
          intro u7 HB7 sz7 K7
          simp only [fX, nK, nP, Wr.f, aK, pM] at K7
          simp only [setG, setN, List.set_cons_zero, List.set_cons_succ]
          clear K6 HB6
          go_upto_region 18 with fail
          refine rgP K7 HB7 HB7.size [.all 1 (LN fy)] [] [(0, 86, NV fy), (2, 5, (Go.Value.int Go.IntKind.i64 0))] [] [] [true, false] ?_ ?_
          · refine oc (g_ld 1 uN iN) ?_
            refine oc (g_st 0 iN) ?_
            exact oc g_as on
          intro u8 HB8 sz8 K8
          simp only [fX, nK, nP, Wr.f, aK, pM] at K8
          simp only [setG, setN, List.set_cons_zero, List.set_cons_succ]
          clear K7 HB7
          have c4_0 := ((K8.cv 0) 0 _ rfl).1
          have c4_1 := ((K8.cv 0) 1 _ rfl).1
          have c4_2 := ((K8.cv 0) 2 _ rfl).1
          have c4_3 := ((K8.cv 0) 3 _ rfl).1
          go_wp2
          refine bodyPost_ret (v := .tuple #[NV fy, .int .i64 0]) (by simp [results, Try.results22, go_sem, c4_0, c4_1, c4_2, c4_3]) rfl ⟨by rw [hyes (by rw [HY.out]; exact h7) _ (HI.out h7)], HB8⟩
        · have h8 : decide (y = 1) = !true := by simp [h7]
          go_upto_region 16 with fail
          refine rgP K6 HB6 HB6.size [] [] [(0, 82, NV y), (1, 83, NV 1), (2, 84, .bool true)] [] [] [true, false, false] ?_ ?_
          · refine oc (g_ld 1 uN iN) ?_
            refine oc (g_bd (fun uZ => bd1 uZ)) ?_
            exact oc (g_bn (fun uZ => neq_n _ _ iy In_1 _ h8 uZ)) on
          intro u7 HB7 sz7 K7
          simp only [fX, nK, nP, Wr.f, aK, pM] at K7
          simp only [setG, setN, List.set_cons_zero, List.set_cons_succ]
          clear K6 HB6
          go_upto_region 17 with fail
          refine rgP K7 HB7 HB7.size [.all 1 ([.int .u64 (0), .int .u64 (0), .int .u64 (0), .int .u64 (0)])] [] [(0, 85, A4 (0) (0) (0) (0)), (2, 5, (Go.Value.int Go.IntKind.i64 20))] [] [] [] ?_ ?_
          · refine oc (g_bd zN) ?_
            refine oc (g_st 0 iN) ?_
            exact oc g_as on
          intro u8 HB8 sz8 K8
          simp only [fX, nK, nP, Wr.f, aK, pM] at K8
          simp only [setG, setN, List.set_cons_zero, List.set_cons_succ]
          clear K7 HB7
          have c4_0 := ((K8.cv 0) 0 _ rfl).1
          have c4_1 := ((K8.cv 0) 1 _ rfl).1
          have c4_2 := ((K8.cv 0) 2 _ rfl).1
          have c4_3 := ((K8.cv 0) 3 _ rfl).1
          go_wp2
          refine bodyPost_ret (v := .tuple #[A4 0 0 0 0, .int .i64 20]) (by simp [results, Try.results22, go_sem, c4_0, c4_1, c4_2, c4_3]) rfl ⟨by rw [hno (by rw [HY.out]; exact h7)], HB8⟩
    · have h6 : k < 600 := by
        rcases Nat.lt_or_ge k 600 with h | h
        · exact h
        · have : k = 600 := by omega
          subst this; exact absurd hR.fin h2
      have hl : decide ((k : Int) < 600) = true := by simp; omega
      have hz : decide (x = 0) = !true := by simp [h2]
      have hS := hR.step h2
      have i1 : In (y % x) := In_mod ix h2
      have i2 : In (y / x) := In_div iy ix h2
      have i3 : In (y / x * fx % m) := In_mod hm h
      clear hR
      have K5_1 : Bk w.heap.size wr [(false, w.heap.size + 1, LN m), (false, w.heap.size + 1 + 1, L0s), (true, b1_7, LN x), (true, b4_3, LN y), (true, b4_4, LN fx), (true, b4_5, LN fy)] := ⟨.c (by omega) Km <| .c lr Kr <| .o lx (K5.lo 2) Kx <| .o ly (K5.lo 3) Ky <| .o lf (K5.lo 4) Kf <| .o lh (K5.lo 5) Kh <| trivial, by simp; omega⟩
      go_upto_region 8 with fail
      refine rgP K5_1 HBr HBr.size [] [] [(0, 38, .int .i64 (k : Int)), (1, 39, .bool true), (2, 40, .bool true), (3, 41, NV x), (4, 42, A4 (0) (0) (0) (0)), (5, 43, .bool true), (6, 44, .bool true)] [] [] [] ?_ ?_
      · refine oc g_mv ?_
        refine oc (g_bn (fun uZ => lss_i _ _ (k : Int) 600 _ uZ hl)) ?_
        refine oc g_mv ?_
        refine oc (g_ld 2 uN iN) ?_
        refine oc (g_bd zN) ?_
        refine oc (g_bn (fun uZ => neq_0 _ _ ix _ hz uZ)) ?_
        exact oc g_pk on
      intro u6 HB6 sz6 K6
      simp only [fX, nK, nP, Wr.f, aK, pM] at K6
      simp only [setG, setN, List.set_cons_zero, List.set_cons_succ]
      go_upto_region 10 with fail
      refine rgD K6 HB6 HB6.size [] [(8, 12, L0w, some (10, LW (y / x))), (9, 13, L0s, some (11, LN (y % x)))] [(0, 48, NV y), (1, 49, WV y), (2, 50, NV x), (3, 51, .tuple #[WV (y / x), NV (y % x), .int .i64 0]), (4, 47, .tuple #[WV (y / x), NV (y % x), .int .i64 0]), (5, 52, WV (y / x)), (6, 53, NV (y % x)), (7, 54, .int .i64 0), (12, 14, .int .i64 0)] [(10, 8), (11, 9)] [] [] ?_ ?_
      · refine oc (g_ld 3 uN iN) ?_
        refine oc (g_cl ent_seneschalref01_Widen (fun uZ => nrWiden y uZ iy)) ?_
        refine oc (g_ld 2 uN iN) ?_
        refine oc (g_cl ent_seneschalref01_Divide (fun uZ => nrDivide y x uZ iy.wide ix h2)) ?_
        refine oc g_mv ?_
        refine oc g_ex ?_
        refine oc g_ex ?_
        refine oc g_ex ?_
        refine oc (g_al 0 aW) ?_
        refine oc (g_al 1 aN) ?_
        refine oc (g_sn 0 iW) ?_
        refine oc (g_sn 1 iN) ?_
        exact oc g_as on
      intro u7 b7_8 b7_9 HB7 sz7 K7
      simp only [fX, nK, nP, Wr.f, aK, pM] at K7
      simp only [setG, setN, List.set_cons_zero, List.set_cons_succ]
      clear K6 HB6
      go_upto_region 11 with fail
      refine rgP K7 HB7 HB7.size [] [(9, 15, L0s, some (10, LN (y / x)))] [(0, 55, .pointer (some ⟨b7_8, 0, none⟩)), (1, 56, .int .u64 (D0 (y / x))), (2, 57, .pointer (some ⟨b7_8, 1, none⟩)), (3, 58, .int .u64 (D1 (y / x))), (4, 59, .pointer (some ⟨b7_8, 2, none⟩)), (5, 60, .int .u64 (D2 (y / x))), (6, 61, .pointer (some ⟨b7_8, 3, none⟩)), (7, 62, .int .u64 (D3 (y / x))), (8, 63, NV (y / x))] [(10, 9)] [] [true, true, true, true, true, true, false] ?_ ?_
      · refine oc (g_ix (jW 0)) ?_
        refine oc (g_lc 6 0 lU) ?_
        refine oc (g_ix (jW 1)) ?_
        refine oc (g_lc 6 1 lU) ?_
        refine oc (g_ix (jW 2)) ?_
        refine oc (g_lc 6 2 lU) ?_
        refine oc (g_ix (jW 3)) ?_
        refine oc (g_lc 6 3 lU) ?_
        refine oc (g_bd (fun uZ => bd4 _ _ _ _ uZ)) ?_
        refine oc (g_al 0 aN) ?_
        exact oc (g_sn 0 iN) on
      intro u8 b8_9 HB8 sz8 K8
      simp only [fX, nK, nP, Wr.f, aK, pM] at K8
      simp only [setG, setN, List.set_cons_zero, List.set_cons_succ]
      clear K7 HB7
      go_upto_region 12 with fail
      refine rgP K8 HB8 HB8.size [] [(7, 16, L0s, some (8, LN (y / x * fx % m)))] [(0, 65, NV (y / x)), (1, 66, NV fx), (2, 67, NV m), (3, 68, .tuple #[NV (y / x * fx % m), .int .i64 0]), (4, 64, .tuple #[NV (y / x * fx % m), .int .i64 0]), (5, 69, NV (y / x * fx % m)), (6, 70, .int .i64 0), (9, 17, .int .i64 0)] [(8, 7)] [] [true, true, true, true, true, true, true, false] ?_ ?_
      · refine oc (g_ld 7 uN iN) ?_
        refine oc (g_ld 4 uN iN) ?_
        refine oc (g_ld 0 uN iN) ?_
        refine oc (g_cl ent_seneschalref02_Mul (fun uZ => xMul (y / x) fx m uZ i2 ifx hm h)) ?_
        refine oc g_mv ?_
        refine oc g_ex ?_
        refine oc g_ex ?_
        refine oc (g_al 0 aN) ?_
        refine oc (g_sn 0 iN) ?_
        exact oc g_as on
      intro u9 b9_7 HB9 sz9 K9
      simp only [fX, nK, nP, Wr.f, aK, pM] at K9
      simp only [setG, setN, List.set_cons_zero, List.set_cons_succ]
      clear K8 HB8
      go_upto_region 13 with fail
      refine rgP K9 HB9 HB9.size [] [(7, 18, L0s, some (8, LN ((fy - y / x * fx % m) % m)))] [(0, 72, NV fy), (1, 73, NV (y / x * fx % m)), (2, 74, NV m), (3, 75, .tuple #[NV ((fy - y / x * fx % m) % m), .int .i64 0]), (4, 71, .tuple #[NV ((fy - y / x * fx % m) % m), .int .i64 0]), (5, 76, NV ((fy - y / x * fx % m) % m)), (6, 77, .int .i64 0), (9, 19, .int .i64 0)] [(8, 7)] [] [true, true, true, true, true, true, true, false] ?_ ?_
      · refine oc (g_ld 5 uN iN) ?_
        refine oc (g_ld 7 uN iN) ?_
        refine oc (g_ld 0 uN iN) ?_
        refine oc (g_cl ent_seneschalref02_Sub (fun uZ => xSub fy (y / x * fx % m) m uZ ify i3 hm h)) ?_
        refine oc g_mv ?_
        refine oc g_ex ?_
        refine oc g_ex ?_
        refine oc (g_al 0 aN) ?_
        refine oc (g_sn 0 iN) ?_
        exact oc g_as on
      intro u10 b10_7 HB10 sz10 K10
      simp only [fX, nK, nP, Wr.f, aK, pM] at K10
      simp only [setG, setN, List.set_cons_zero, List.set_cons_succ]
      clear K9 HB9
      go_upto_region 14 with fail
      refine rgD K10 HB10 HB10.size [.no, .no, .no, .all 2 (LN x), .no, .all 3 (LN fx)] [] [(0, 78, NV x), (1, 79, NV fx)] [] [] [] ?_ ?_
      · refine oc (g_ld 2 uN iN) ?_
        refine oc (g_ld 4 uN iN) ?_
        refine oc (g_st 3 iN) ?_
        exact oc (g_st 5 iN) on
      intro u11 HB11 sz11 K11
      simp only [fX, nK, nP, Wr.f, aK, pM] at K11
      simp only [setG, setN, List.set_cons_zero, List.set_cons_succ]
      clear K10 HB10
      go_upto_region 15 with fail
      refine rgD K11 HB11 HB11.size [.no, .no, .all 2 (LN (y % x)), .no, .all 3 (LN ((fy - y / x * fx % m) % m))] [] [(0, 80, NV (y % x)), (1, 81, NV ((fy - y / x * fx % m) % m))] [] [] [true, true, true, true, true, true, false, false] ?_ ?_
      · refine oc (g_ld 6 uN iN) ?_
        refine oc (g_ld 7 uN iN) ?_
        refine oc (g_st 2 iN) ?_
        exact oc (g_st 4 iN) on
      intro u12 HB12 sz12 K12
      simp only [fX, nK, nP, Wr.f, aK, pM] at K12
      simp only [setG, setN, List.set_cons_zero, List.set_cons_succ]
      clear K11 HB11
      go_upto_region 9 with fail
      refine rgP K12 HB12 HB12.size [] [] [(0, 45, .int .i64 (k : Int)), (1, 46, .int .i64 ((k : Int) + 1)), (2, 11, .int .i64 ((k : Int) + 1))] [(2, 0)] [(2, 11)] [] ?_ ?_
      · refine oc g_mv ?_
        refine oc (g_bn (fun uZ => add_i _ _ (k : Int) 1 ((k : Int) + 1) uZ rfl (by omega) (by omega))) ?_
        exact oc g_as on
      intro u13 HB13 sz13 K13
      simp only [fX, nK, nP, Wr.f, aK, pM] at K13
      simp only [setG, setN, List.set_cons_zero, List.set_cons_succ]
      clear K12 HB12
      go_wp2
      refine ⟨⟨k + 1, y % x, x, (fy - y / x * fx % m) % m, fx, by simp, by omega, hS, HB13, (K13.cv 0), (K13.cv 1), (K13.cv 2), (K13.cv 3), (K13.cv 4), (K13.cv 5), (K13.lt 1), (K13.lt 2), (K13.lt 3), (K13.lt 4), (K13.lt 5)⟩, ?_⟩
      simp [intOf] <;> omega
set_option maxRecDepth 100000 in
set_option maxHeartbeats 2000000 in
theorem xInverse0 (a : Int) (w : World) (ha : In a) :
    Calls Try.prog 22 #[NV a, A4 0 0 0 0] w fun e w' => e = .returned (.tuple #[A4 0 0 0 0, .int .i64 20]) ∧ Below w.heap.size w w' := by
  go_enter Try.func22, Try.ntmps22
  go_upto_region 1 with fail
  generalize hC : (((w.alloc (.cells (LN a : List Value).toArray 25)).alloc (.cells ([.int .u64 (0), .int .u64 (0), .int .u64 (0), .int .u64 (0)] : List Value).toArray 25)).alloc (.cells (L0s : List Value).toArray 25)) = v0 at *
  have HB0 : Below w.heap.size w v0 := by rw [← hC]; exact balloc (balloc (balloc (bself w) _) _) _
  have K0 : Bk w.heap.size v0 [(true, w.heap.size, LN a), (true, w.heap.size + 1, [.int .u64 (0), .int .u64 (0), .int .u64 (0), .int .u64 (0)]), (true, w.heap.size + 1 + 1, L0s)] := by rw [← hC]; exact (Bk.nil _ w).ad.ad.ad
  clear hC
  refine rgD K0 HB0 HB0.size [] [(7, 6, L0s, some (8, [.int .u64 (0), .int .u64 (0), .int .u64 (0), .int .u64 (0)]))] [(0, 21, NV a), (1, 22, WV a), (2, 23, .agg #[.int .u64 (0), .int .u64 (0), .int .u64 (0), .int .u64 (0)]), (3, 24, .tuple #[A4 (0) (0) (0) (0), .int .i64 20]), (4, 20, .tuple #[A4 (0) (0) (0) (0), .int .i64 20]), (5, 25, A4 (0) (0) (0) (0)), (6, 26, .int .i64 20), (9, 7, .int .i64 20)] [(8, 7)] [] [false, false, true, false] ?_ ?_
  · refine oc (g_ld 0 uN iN) ?_
    refine oc (g_cl ent_seneschalref01_Widen (fun uZ => nrWiden a uZ ha)) ?_
    refine oc (g_ld 1 uN iN) ?_
    refine oc (g_cl ent_seneschalref02_Reduce (fun uZ => xReduce0 a uZ)) ?_
    refine oc g_mv ?_
    refine oc g_ex ?_
    refine oc g_ex ?_
    refine oc (g_al 0 aN) ?_
    refine oc (g_sn 0 iN) ?_
    exact oc g_as on
  intro u1 b1_7 HB1 sz1 K1
  simp only [fX, nK, nP, Wr.f, aK, pM] at K1
  simp only [setG, setN, List.set_cons_zero, List.set_cons_succ]
  clear K0 HB0
  go_upto_region 2 with fail
  refine rgP K1 HB1 HB1.size [] [] [(0, 27, .int .i64 20), (1, 28, .bool true)] [] [] [] ?_ ?_
  · refine oc g_mv ?_
    exact oc (g_bn (fun uZ => neq_i _ _ _ 20 0 _ uZ rfl)) on
  intro u2 HB2 sz2 K2
  simp only [fX, nK, nP, Wr.f, aK, pM] at K2
  simp only [setG, setN, List.set_cons_zero, List.set_cons_succ]
  clear K1 HB1
  go_upto_region 3 with fail
  refine rgP K2 HB2 HB2.size [.all 2 ([.int .u64 (0), .int .u64 (0), .int .u64 (0), .int .u64 (0)])] [] [(0, 29, A4 (0) (0) (0) (0)), (1, 30, .int .i64 20), (3, 5, .int .i64 20)] [] [] [] ?_ ?_
  · refine oc (g_bd zN) ?_
    refine oc g_mv ?_
    refine oc (g_st 0 iN) ?_
    exact oc g_as on
  intro u3 HB3 sz3 K3
  simp only [fX, nK, nP, Wr.f, aK, pM] at K3
  simp only [setG, setN, List.set_cons_zero, List.set_cons_succ]
  clear K2 HB2
  have c4_0 := ((K3.cv 0) 0 _ rfl).1
  have c4_1 := ((K3.cv 0) 1 _ rfl).1
  have c4_2 := ((K3.cv 0) 2 _ rfl).1
  have c4_3 := ((K3.cv 0) 3 _ rfl).1
  go_wp2
  refine bodyPost_ret (v := .tuple #[A4 0 0 0 0, .int .i64 20]) (by simp [results, Try.results22, go_sem, c4_0, c4_1, c4_2, c4_3]) rfl ⟨rfl, HB3⟩
theorem xInverse_no (a m : Int) (w : World) (ha : In a) (hm : In m) (h : m ≠ 0) (hg : gI m (a % m) ≠ 1) :
    Calls Try.prog 22 #[NV a, NV m] w fun e w' => e = .returned (.tuple #[A4 0 0 0 0, .int .i64 20]) ∧ Below w.heap.size w w' := by
  have h1 : m ≠ 1 := fun e => hg (by rw [e, Int.emod_one]; rfl)
  exact xInverseG a m _ w ha hm h (by have := hm.1; omega) (by simp [h1]) (fun _ => rfl) (fun e => absurd e hg)
theorem xInverse (a m x : Int) (w : World) (ha : In a) (hm : In m) (h : m ≠ 0) (hg : gI m (a % m) = 1) (hx : IsInv (a % m) m x) :
    Calls Try.prog 22 #[NV a, NV m] w fun e w' => e = .returned (.tuple #[NV x, .int .i64 0]) ∧ Below w.heap.size w w' := by
  by_cases h1 : m = 1
  · have e : x = 0 := by have := hx.1; have := hx.2.1; omega
    rw [e, NV_0]; exact xInverse1 a m w ha hm h (by simp [h1])
  · exact xInverseG a m _ w ha hm h (by have := hm.1; omega) (by simp [h1]) (fun e => absurd hg e) (fun _ y hy => by rw [hx.uniq hy])
end Go.Proofs.Ytkpnjmfndgfogaa
