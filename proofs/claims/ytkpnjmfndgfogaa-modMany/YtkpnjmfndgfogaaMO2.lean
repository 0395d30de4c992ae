/- Numbers modulo one: addMultiple. -/
import Derived.Test.YtkpnjmfndgfogaaRC
import Derived.Test.YtkpnjmfndgfogaaMM
import Derived.Test.YtkpnjmfndgfogaaM2
namespace Go.Proofs.Ytkpnjmfndgfogaa
open Go.RowKit
set_option linter.unusedVariables false
set_option linter.unusedSimpArgs false
abbrev L5 (n : Int) : List Value := [.int .u64 (D0 n), .int .u64 (D1 n), .int .u64 (D2 n), .int .u64 (D3 n), .int .u64 (D4 n)]
theorem add64_to (x y s c : Int) (hx : 0 ≤ x) (hy : 0 ≤ y) (w : World) (hs : (x + y) % 18446744073709551616 = s) (hc : (x + y) / 18446744073709551616 = c) : (callFunc 110 #[.int .u64 x, .int .u64 y, .int .u64 0]).run Try.prog w = .ok (.value (.tuple #[.int .u64 s, .int .u64 c])) w := by
  subst hs hc; exact add64_0 x y hx hy w
theorem mul64_B (x y p : Int) (hx : W64 x) (hy : W64 y) (hp : x * y = p) (w : World) : Calls Try.prog 111 #[.int .u64 x, .int .u64 y] w fun e w' => e = .returned (.tuple #[.int .u64 (p / 18446744073709551616), .int .u64 (p % 18446744073709551616)]) ∧ Below w.heap.size w w' := by
  subst hp
  refine (mul64_any x y hx hy w).mono ?_
  rintro e w' ⟨rfl, rfl⟩
  exact ⟨rfl, Below.refl _ _⟩
theorem ent_Mul64 (vs : Array Value) (w : World) : (callFunc 111 vs).run Try.prog w = .ok (.enter 111 vs) w := by kernel_rfl
theorem ent_math_bits_Mul64 (vs : Array Value) (w : World) : (callFunc 111 vs).run Try.prog w = .ok (.enter 111 vs) w := by kernel_rfl
theorem pr_bd (x p : Int) (hx : W64 x) (hp : W64 p) : 0 ≤ x * p ∧ x * p ≤ 340282366920938463426481119284349108225 := by
  obtain ⟨x1, x2⟩ := hx; obtain ⟨p1, p2⟩ := hp
  refine ⟨Int.mul_nonneg x1 p1, ?_⟩
  have h1 : x * p ≤ 18446744073709551615 * 18446744073709551615 := Int.mul_le_mul (by omega) (by omega) p1 (by omega)
  omega
/-- What comes of the digits. -/
theorem am_spec (S a n : Int) (hS0 : 0 ≤ S) (hS : S < 2135987035920910082395021706169552114602704522356652769947041607822219725780640550022962086936576) (ha : In a) (hn : W64 n) :
    ∃ p0 p1 p2 p3 o1 o2 o3 o4 e0 e1 e2 e3 e4 c : Int, D0 a * n = p0 ∧ D1 a * n = p1 ∧ D2 a * n = p2 ∧ D3 a * n = p3 ∧
      (0 ≤ p0 ∧ p0 ≤ 340282366920938463426481119284349108225) ∧ (0 ≤ p1 ∧ p1 ≤ 340282366920938463426481119284349108225) ∧ (0 ≤ p2 ∧ p2 ≤ 340282366920938463426481119284349108225) ∧ (0 ≤ p3 ∧ p3 ≤ 340282366920938463426481119284349108225) ∧
      (0 ≤ o1 ∧ o1 < 18446744073709551616) ∧ (0 ≤ o2 ∧ o2 < 18446744073709551616) ∧ (0 ≤ o3 ∧ o3 < 18446744073709551616) ∧ (0 ≤ o4 ∧ o4 < 18446744073709551616) ∧
      (D0 S + p0 ≤ e0 + 18446744073709551616 * o1 ∧ e0 + 18446744073709551616 * o1 ≤ D0 S + p0) ∧ (D1 S + p1 + o1 ≤ e1 + 18446744073709551616 * o2 ∧ e1 + 18446744073709551616 * o2 ≤ D1 S + p1 + o1) ∧ (D2 S + p2 + o2 ≤ e2 + 18446744073709551616 * o3 ∧ e2 + 18446744073709551616 * o3 ≤ D2 S + p2 + o2) ∧ (D3 S + p3 + o3 ≤ e3 + 18446744073709551616 * o4 ∧ e3 + 18446744073709551616 * o4 ≤ D3 S + p3 + o3) ∧ (D4 S + o4 ≤ e4 + 18446744073709551616 * c ∧ e4 + 18446744073709551616 * c ≤ D4 S + o4) ∧
      (0 ≤ e0 ∧ e0 < 18446744073709551616) ∧ (0 ≤ e1 ∧ e1 < 18446744073709551616) ∧ (0 ≤ e2 ∧ e2 < 18446744073709551616) ∧ (0 ≤ e3 ∧ e3 < 18446744073709551616) ∧ (0 ≤ e4 ∧ e4 < 18446744073709551616) ∧ (0 ≤ c ∧ c ≤ 1) ∧
      D0 ((S + a * n) % 2135987035920910082395021706169552114602704522356652769947041607822219725780640550022962086936576) = e0 ∧ D1 ((S + a * n) % 2135987035920910082395021706169552114602704522356652769947041607822219725780640550022962086936576) = e1 ∧ D2 ((S + a * n) % 2135987035920910082395021706169552114602704522356652769947041607822219725780640550022962086936576) = e2 ∧ D3 ((S + a * n) % 2135987035920910082395021706169552114602704522356652769947041607822219725780640550022962086936576) = e3 ∧ D4 ((S + a * n) % 2135987035920910082395021706169552114602704522356652769947041607822219725780640550022962086936576) = e4 ∧ (S + a * n) / 2135987035920910082395021706169552114602704522356652769947041607822219725780640550022962086936576 = c := by
  have b0 := pr_bd (D0 a) n (W_D0 a) hn
  have b1 := pr_bd (D1 a) n (W_D1 a) hn
  have b2 := pr_bd (D2 a) n (W_D2 a) hn
  have b3 := pr_bd (D3 a) n (W_D3 a) hn
  have s0 := W_D0 S; have s1 := W_D1 S; have s2 := W_D2 S; have s3 := W_D3 S
  have hv : a * n = D0 a * n + D1 a * n * 18446744073709551616 + D2 a * n * 340282366920938463463374607431768211456 + D3 a * n * 6277101735386680763835789423207666416102355444464034512896 := by
    rw [← V_mul (D0 a) (D1 a) (D2 a) (D3 a) n, V_In ha]
  have hSv : S = D0 S + D1 S * 18446744073709551616 + D2 S * 340282366920938463463374607431768211456 + D3 S * 6277101735386680763835789423207666416102355444464034512896 + D4 S * 115792089237316195423570985008687907853269984665640564039457584007913129639936 := by
    unfold D0 D1 D2 D3 D4; omega
  have h4 : 0 ≤ D4 S ∧ D4 S < 18446744073709551616 := by unfold D4; omega
  rw [hv]
  generalize D0 a * n = p0 at *
  generalize D1 a * n = p1 at *
  generalize D2 a * n = p2 at *
  generalize D3 a * n = p3 at *
  unfold W64 at s0 s1 s2 s3
  generalize D0 S = x0 at *
  generalize D1 S = x1 at *
  generalize D2 S = x2 at *
  generalize D3 S = x3 at *
  generalize D4 S = x4 at *
  obtain ⟨o1, ho1⟩ : ∃ o, o = (x0 + p0) / 18446744073709551616 := ⟨_, rfl⟩
  obtain ⟨o2, ho2⟩ : ∃ o, o = (x1 + p1 + o1) / 18446744073709551616 := ⟨_, rfl⟩
  obtain ⟨o3, ho3⟩ : ∃ o, o = (x2 + p2 + o2) / 18446744073709551616 := ⟨_, rfl⟩
  obtain ⟨o4, ho4⟩ : ∃ o, o = (x3 + p3 + o3) / 18446744073709551616 := ⟨_, rfl⟩
  obtain ⟨c, hc⟩ : ∃ o, o = (x4 + o4) / 18446744073709551616 := ⟨_, rfl⟩
  have k1 : 0 ≤ o1 ∧ o1 < 18446744073709551616 := by omega
  have k2 : 0 ≤ o2 ∧ o2 < 18446744073709551616 := by omega
  have k3 : 0 ≤ o3 ∧ o3 < 18446744073709551616 := by omega
  have k4 : 0 ≤ o4 ∧ o4 < 18446744073709551616 := by omega
  have kc : 0 ≤ c ∧ c ≤ 1 := by omega
  have hE : S + (p0 + p1 * 18446744073709551616 + p2 * 340282366920938463463374607431768211456 + p3 * 6277101735386680763835789423207666416102355444464034512896) = (x0 + p0 - 18446744073709551616 * o1) + (x1 + p1 + o1 - 18446744073709551616 * o2) * 18446744073709551616 + (x2 + p2 + o2 - 18446744073709551616 * o3) * 340282366920938463463374607431768211456 + (x3 + p3 + o3 - 18446744073709551616 * o4) * 6277101735386680763835789423207666416102355444464034512896 + (x4 + o4 - 18446744073709551616 * c) * 115792089237316195423570985008687907853269984665640564039457584007913129639936 + c * 2135987035920910082395021706169552114602704522356652769947041607822219725780640550022962086936576 := by omega
  have e0 : 0 ≤ x0 + p0 - 18446744073709551616 * o1 ∧ x0 + p0 - 18446744073709551616 * o1 < 18446744073709551616 := by omega
  have e1 : 0 ≤ x1 + p1 + o1 - 18446744073709551616 * o2 ∧ x1 + p1 + o1 - 18446744073709551616 * o2 < 18446744073709551616 := by omega
  have e2 : 0 ≤ x2 + p2 + o2 - 18446744073709551616 * o3 ∧ x2 + p2 + o2 - 18446744073709551616 * o3 < 18446744073709551616 := by omega
  have e3 : 0 ≤ x3 + p3 + o3 - 18446744073709551616 * o4 ∧ x3 + p3 + o3 - 18446744073709551616 * o4 < 18446744073709551616 := by omega
  have e4 : 0 ≤ x4 + o4 - 18446744073709551616 * c ∧ x4 + o4 - 18446744073709551616 * c < 18446744073709551616 := by omega
  refine ⟨p0, p1, p2, p3, o1, o2, o3, o4, x0 + p0 - 18446744073709551616 * o1, x1 + p1 + o1 - 18446744073709551616 * o2, x2 + p2 + o2 - 18446744073709551616 * o3, x3 + p3 + o3 - 18446744073709551616 * o4, x4 + o4 - 18446744073709551616 * c, c, rfl, rfl, rfl, rfl, b0, b1, b2, b3, k1, k2, k3, k4, by omega, by omega, by omega, by omega, by omega, e0, e1, e2, e3, e4, kc, ?_⟩
  rw [hE]
  generalize x0 + p0 - 18446744073709551616 * o1 = f0 at *
  generalize x1 + p1 + o1 - 18446744073709551616 * o2 = f1 at *
  generalize x2 + p2 + o2 - 18446744073709551616 * o3 = f2 at *
  generalize x3 + p3 + o3 - 18446744073709551616 * o4 = f3 at *
  generalize x4 + o4 - 18446744073709551616 * c = f4 at *
  clear hE hv hSv ho1 ho2 ho3 ho4 hc k1 k2 k3 k4 b0 b1 b2 b3 s0 s1 s2 s3 h4 hS hS0
  have hm : (f0 + f1 * 18446744073709551616 + f2 * 340282366920938463463374607431768211456 + f3 * 6277101735386680763835789423207666416102355444464034512896 + f4 * 115792089237316195423570985008687907853269984665640564039457584007913129639936 + c * 2135987035920910082395021706169552114602704522356652769947041607822219725780640550022962086936576) % 2135987035920910082395021706169552114602704522356652769947041607822219725780640550022962086936576 = f0 + f1 * 18446744073709551616 + f2 * 340282366920938463463374607431768211456 + f3 * 6277101735386680763835789423207666416102355444464034512896 + f4 * 115792089237316195423570985008687907853269984665640564039457584007913129639936 := by omega
  have hq : (f0 + f1 * 18446744073709551616 + f2 * 340282366920938463463374607431768211456 + f3 * 6277101735386680763835789423207666416102355444464034512896 + f4 * 115792089237316195423570985008687907853269984665640564039457584007913129639936 + c * 2135987035920910082395021706169552114602704522356652769947041607822219725780640550022962086936576) / 2135987035920910082395021706169552114602704522356652769947041607822219725780640550022962086936576 = c := by omega
  rw [hm, hq]
  unfold D0 D1 D2 D3 D4
  refine ⟨?_, ?_, ?_, ?_, ?_, rfl⟩ <;> omega
set_option maxRecDepth 100000 in
set_option maxHeartbeats 8000000 in
theorem amul (bs ba : Nat) (S a n : Int) (w : World) (hS0 : 0 ≤ S) (hS : S < 2135987035920910082395021706169552114602704522356652769947041607822219725780640550022962086936576) (ha : In a) (hn : W64 n) (hab : ba < bs) (lbs : bs < w.heap.size) (Ks0 : CV w bs (L5 S)) (Ka : CV w ba (LN a)) :
    Calls Try.prog 112 #[.pointer (some ⟨bs, 0, none⟩), .pointer (some ⟨ba, 0, none⟩), .int .u64 n] w fun e w' => e = .returned (.int .u64 ((S + a * n) / 2135987035920910082395021706169552114602704522356652769947041607822219725780640550022962086936576)) ∧ Below bs w w' ∧ CV w' bs (L5 ((S + a * n) % 2135987035920910082395021706169552114602704522356652769947041607822219725780640550022962086936576)) := by
  obtain ⟨p0, p1, p2, p3, o1, o2, o3, o4, e0, e1, e2, e3, e4, c, hp0, hp1, hp2, hp3, b0, b1, b2, b3, k1, k2, k3, k4, t0, t1, t2, t3, t4, d0, d1, d2, d3, d4, kc, he⟩ := am_spec S a n hS0 hS ha hn
  have He : Hid _ := he
  have w0 := W_D0 S; have w1 := W_D1 S; have w2 := W_D2 S; have w3 := W_D3 S
  have w4 : 0 ≤ D4 S ∧ D4 S < 18446744073709551616 := by unfold D4; omega
  unfold W64 at w0 w1 w2 w3
  obtain ⟨x0, hx0⟩ : ∃ x, D0 S = x := ⟨_, rfl⟩
  obtain ⟨x1, hx1⟩ : ∃ x, D1 S = x := ⟨_, rfl⟩
  obtain ⟨x2, hx2⟩ : ∃ x, D2 S = x := ⟨_, rfl⟩
  obtain ⟨x3, hx3⟩ : ∃ x, D3 S = x := ⟨_, rfl⟩
  obtain ⟨x4, hx4⟩ : ∃ x, D4 S = x := ⟨_, rfl⟩
  have Ks : CV w bs [.int .u64 x0, .int .u64 x1, .int .u64 x2, .int .u64 x3, .int .u64 x4] := by rw [L5, hx0, hx1, hx2, hx3, hx4] at Ks0; exact Ks0
  rw [hx0] at t0 w0; rw [hx1] at t1 w1; rw [hx2] at t2 w2; rw [hx3] at t3 w3; rw [hx4] at t4 w4
  have Hp0 : Hid _ := hp0; have Hp1 : Hid _ := hp1; have Hp2 : Hid _ := hp2; have Hp3 : Hid _ := hp3
  clear he hx0 hx1 hx2 hx3 hx4 Ks0 hp0 hp1 hp2 hp3
  go_enter Try.func112, Try.ntmps112
  go_wp2
  have HB0 : Below bs w w := Below.refl _ _
  refine wp_loop_rounds 5 ?_
  rw [rounds_succ]
  have K0_1 : Bk bs w [(true, bs, [.int .u64 x0, .int .u64 x1, .int .u64 x2, .int .u64 x3, .int .u64 x4]), (false, ba, LN a)] := ⟨.o lbs (by omega) Ks <| .c (by omega) Ka <| trivial, by simp; omega⟩
  go_upto_region 5 with fail
  refine rgP K0_1 HB0 (Nat.le_of_lt (by omega)) [] [] [(0, 16, .pointer (some ⟨ba, 0, none⟩)), (1, 17, .int .i64 0), (2, 18, .pointer (some ⟨ba, 0, none⟩)), (3, 19, .pointer (some ⟨ba, 0, none⟩)), (4, 20, .int .u64 (D0 (a))), (5, 21, .int .u64 n), (6, 22, .tuple #[.int .u64 (p0 / 18446744073709551616), .int .u64 (p0 % 18446744073709551616)]), (7, 15, .tuple #[.int .u64 (p0 / 18446744073709551616), .int .u64 (p0 % 18446744073709551616)]), (8, 23, .int .u64 (p0 / 18446744073709551616)), (9, 24, .int .u64 (p0 % 18446744073709551616)), (10, 10, .int .u64 (p0 / 18446744073709551616)), (11, 11, .int .u64 (p0 % 18446744073709551616))] [] [] [] ?_ ?_
  · refine oc g_mv ?_
    refine oc g_mv ?_
    refine oc g_nl ?_
    refine oc (g_ix (jN 0)) ?_
    refine oc (g_lc 1 0 lU) ?_
    refine oc g_mv ?_
    refine oc (g_cl ent_math_bits_Mul64 (fun uZ => mul64_B (D0 a) n p0 (W_D0 a) hn Hp0.out uZ)) ?_
    refine oc g_mv ?_
    refine oc g_ex ?_
    refine oc g_ex ?_
    refine oc g_as ?_
    exact oc g_as on
  intro u1 HB1 sz1 K1
  simp only [fX, nK, nP, Wr.f, aK, pM] at K1
  simp only [setG, setN, List.set_cons_zero, List.set_cons_succ]
  clear HB0
  go_upto_region 6 with fail
  refine rgP K1 HB1 (Nat.le_of_lt (by omega)) [] [] [(0, 26, .int .u64 (p0 % 18446744073709551616)), (1, 27, .int .u64 0), (2, 28, .tuple #[.int .u64 ((p0 + 0) % 18446744073709551616), .int .u64 ((p0 % 18446744073709551616 + 0) / 18446744073709551616)]), (3, 25, .tuple #[.int .u64 ((p0 + 0) % 18446744073709551616), .int .u64 ((p0 % 18446744073709551616 + 0) / 18446744073709551616)]), (4, 29, .int .u64 ((p0 + 0) % 18446744073709551616)), (5, 30, .int .u64 ((p0 % 18446744073709551616 + 0) / 18446744073709551616)), (6, 11, .int .u64 ((p0 + 0) % 18446744073709551616)), (7, 8, .int .u64 ((p0 % 18446744073709551616 + 0) / 18446744073709551616))] [(6, 0)] [(6, 11)] [] ?_ ?_
  · refine oc g_mv ?_
    refine oc g_mv ?_
    refine oc (g_ce (fun uZ => add64_to (p0 % 18446744073709551616) 0 ((p0 + 0) % 18446744073709551616) ((p0 % 18446744073709551616 + 0) / 18446744073709551616) (by omega) (by omega) uZ (by omega) rfl)) ?_
    refine oc g_mv ?_
    refine oc g_ex ?_
    refine oc g_ex ?_
    refine oc g_as ?_
    exact oc g_as on
  intro u2 HB2 sz2 K2
  simp only [fX, nK, nP, Wr.f, aK, pM] at K2
  simp only [setG, setN, List.set_cons_zero, List.set_cons_succ]
  clear K1 HB1
  go_upto_region 7 with fail
  refine rgP K2 HB2 (Nat.le_of_lt (by omega)) [] [] [(0, 31, .int .u64 (p0 / 18446744073709551616)), (1, 32, .int .u64 ((p0 % 18446744073709551616 + 0) / 18446744073709551616)), (2, 33, .int .u64 ((p0 + 0) / 18446744073709551616)), (3, 10, .int .u64 ((p0 + 0) / 18446744073709551616))] [(3, 0)] [(3, 10)] [] ?_ ?_
  · refine oc g_mv ?_
    refine oc g_mv ?_
    refine oc (g_bn (fun uZ => add_u _ _ (p0 / 18446744073709551616) ((p0 % 18446744073709551616 + 0) / 18446744073709551616) ((p0 + 0) / 18446744073709551616) uZ (by omega))) ?_
    exact oc g_as on
  intro u3 HB3 sz3 K3
  simp only [fX, nK, nP, Wr.f, aK, pM] at K3
  simp only [setG, setN, List.set_cons_zero, List.set_cons_succ]
  clear K2 HB2
  go_upto_region 8 with fail
  refine rgD K3 HB3 (Nat.le_of_lt (by omega)) [.cs [(0, 14, .int .u64 e0)]] [] [(0, 35, .pointer (some ⟨bs, 0, none⟩)), (1, 36, .int .i64 0), (2, 37, .pointer (some ⟨bs, 0, none⟩)), (3, 38, .int .i64 0), (4, 39, .pointer (some ⟨bs, 0, none⟩)), (5, 40, .pointer (some ⟨bs, 0, none⟩)), (6, 41, .int .u64 x0), (7, 42, .int .u64 ((p0 + 0) % 18446744073709551616)), (8, 43, .tuple #[.int .u64 e0, .int .u64 ((x0 + (p0 + 0) % 18446744073709551616) / 18446744073709551616)]), (9, 34, .tuple #[.int .u64 e0, .int .u64 ((x0 + (p0 + 0) % 18446744073709551616) / 18446744073709551616)]), (10, 44, .int .u64 e0), (11, 45, .int .u64 ((x0 + (p0 + 0) % 18446744073709551616) / 18446744073709551616)), (12, 46, .pointer (some ⟨bs, 0, none⟩)), (13, 47, .pointer (some ⟨bs, 0, none⟩)), (15, 8, .int .u64 ((x0 + (p0 + 0) % 18446744073709551616) / 18446744073709551616))] [(14, 6)] [] [] ?_ ?_
  · refine oc g_mv ?_
    refine oc g_mv ?_
    refine oc g_mv ?_
    refine oc g_mv ?_
    refine oc g_nl ?_
    refine oc (g_ix (fun uZ => ix_five uZ _ 0 (by omega))) ?_
    refine oc (g_lc 0 0 lU) ?_
    refine oc g_mv ?_
    refine oc (g_ce (fun uZ => add64_to x0 ((p0 + 0) % 18446744073709551616) e0 ((x0 + (p0 + 0) % 18446744073709551616) / 18446744073709551616) (by omega) (by omega) uZ (by omega) rfl)) ?_
    refine oc g_mv ?_
    refine oc g_ex ?_
    refine oc g_ex ?_
    refine oc g_nl ?_
    refine oc (g_ix (fun uZ => ix_five uZ _ 0 (by omega))) ?_
    refine oc (g_sc 0 0 sU) ?_
    exact oc g_as on
  intro u4 HB4 sz4 K4
  simp only [fX, nK, nP, Wr.f, aK, pM, List.foldl, List.set_cons_zero, List.set_cons_succ] at K4
  simp only [setG, setN, List.set_cons_zero, List.set_cons_succ]
  clear K3 HB3
  go_upto_region 9 with fail
  refine rgP K4 HB4 (Nat.le_of_lt (by omega)) [] [] [(0, 48, .int .u64 ((p0 + 0) / 18446744073709551616)), (1, 49, .int .u64 ((x0 + (p0 + 0) % 18446744073709551616) / 18446744073709551616)), (2, 50, .int .u64 o1), (3, 7, .int .u64 o1)] [] [] [] ?_ ?_
  · refine oc g_mv ?_
    refine oc g_mv ?_
    refine oc (g_bn (fun uZ => add_u _ _ ((p0 + 0) / 18446744073709551616) ((x0 + (p0 + 0) % 18446744073709551616) / 18446744073709551616) o1 uZ (by omega))) ?_
    exact oc g_as on
  intro u5 HB5 sz5 K5
  simp only [fX, nK, nP, Wr.f, aK, pM] at K5
  simp only [setG, setN, List.set_cons_zero, List.set_cons_succ]
  clear K4 HB4
  go_wp2
  rw [rounds_succ]
  go_upto_region 5 with fail
  refine rgP K5 HB5 (Nat.le_of_lt (by omega)) [] [] [(0, 16, .pointer (some ⟨ba, 0, none⟩)), (1, 17, .int .i64 1), (2, 18, .pointer (some ⟨ba, 0, none⟩)), (3, 19, .pointer (some ⟨ba, 1, none⟩)), (4, 20, .int .u64 (D1 (a))), (5, 21, .int .u64 n), (6, 22, .tuple #[.int .u64 (p1 / 18446744073709551616), .int .u64 (p1 % 18446744073709551616)]), (7, 15, .tuple #[.int .u64 (p1 / 18446744073709551616), .int .u64 (p1 % 18446744073709551616)]), (8, 23, .int .u64 (p1 / 18446744073709551616)), (9, 24, .int .u64 (p1 % 18446744073709551616)), (10, 10, .int .u64 (p1 / 18446744073709551616)), (11, 11, .int .u64 (p1 % 18446744073709551616))] [] [] [] ?_ ?_
  · refine oc g_mv ?_
    refine oc g_mv ?_
    refine oc g_nl ?_
    refine oc (g_ix (jN 1)) ?_
    refine oc (g_lc 1 1 lU) ?_
    refine oc g_mv ?_
    refine oc (g_cl ent_math_bits_Mul64 (fun uZ => mul64_B (D1 a) n p1 (W_D1 a) hn Hp1.out uZ)) ?_
    refine oc g_mv ?_
    refine oc g_ex ?_
    refine oc g_ex ?_
    refine oc g_as ?_
    exact oc g_as on
  intro u6 HB6 sz6 K6
  simp only [fX, nK, nP, Wr.f, aK, pM] at K6
  simp only [setG, setN, List.set_cons_zero, List.set_cons_succ]
  clear K5 HB5
  go_upto_region 6 with fail
  refine rgP K6 HB6 (Nat.le_of_lt (by omega)) [] [] [(0, 26, .int .u64 (p1 % 18446744073709551616)), (1, 27, .int .u64 o1), (2, 28, .tuple #[.int .u64 ((p1 + o1) % 18446744073709551616), .int .u64 ((p1 % 18446744073709551616 + o1) / 18446744073709551616)]), (3, 25, .tuple #[.int .u64 ((p1 + o1) % 18446744073709551616), .int .u64 ((p1 % 18446744073709551616 + o1) / 18446744073709551616)]), (4, 29, .int .u64 ((p1 + o1) % 18446744073709551616)), (5, 30, .int .u64 ((p1 % 18446744073709551616 + o1) / 18446744073709551616)), (6, 11, .int .u64 ((p1 + o1) % 18446744073709551616)), (7, 8, .int .u64 ((p1 % 18446744073709551616 + o1) / 18446744073709551616))] [(6, 0)] [(6, 11)] [] ?_ ?_
  · refine oc g_mv ?_
    refine oc g_mv ?_
    refine oc (g_ce (fun uZ => add64_to (p1 % 18446744073709551616) o1 ((p1 + o1) % 18446744073709551616) ((p1 % 18446744073709551616 + o1) / 18446744073709551616) (by omega) (by omega) uZ (by omega) rfl)) ?_
    refine oc g_mv ?_
    refine oc g_ex ?_
    refine oc g_ex ?_
    refine oc g_as ?_
    exact oc g_as on
  intro u7 HB7 sz7 K7
  simp only [fX, nK, nP, Wr.f, aK, pM] at K7
  simp only [setG, setN, List.set_cons_zero, List.set_cons_succ]
  clear K6 HB6
  go_upto_region 7 with fail
  refine rgP K7 HB7 (Nat.le_of_lt (by omega)) [] [] [(0, 31, .int .u64 (p1 / 18446744073709551616)), (1, 32, .int .u64 ((p1 % 18446744073709551616 + o1) / 18446744073709551616)), (2, 33, .int .u64 ((p1 + o1) / 18446744073709551616)), (3, 10, .int .u64 ((p1 + o1) / 18446744073709551616))] [(3, 0)] [(3, 10)] [] ?_ ?_
  · refine oc g_mv ?_
    refine oc g_mv ?_
    refine oc (g_bn (fun uZ => add_u _ _ (p1 / 18446744073709551616) ((p1 % 18446744073709551616 + o1) / 18446744073709551616) ((p1 + o1) / 18446744073709551616) uZ (by omega))) ?_
    exact oc g_as on
  intro u8 HB8 sz8 K8
  simp only [fX, nK, nP, Wr.f, aK, pM] at K8
  simp only [setG, setN, List.set_cons_zero, List.set_cons_succ]
  clear K7 HB7
  go_upto_region 8 with fail
  refine rgD K8 HB8 (Nat.le_of_lt (by omega)) [.cs [(1, 14, .int .u64 e1)]] [] [(0, 35, .pointer (some ⟨bs, 0, none⟩)), (1, 36, .int .i64 1), (2, 37, .pointer (some ⟨bs, 0, none⟩)), (3, 38, .int .i64 1), (4, 39, .pointer (some ⟨bs, 0, none⟩)), (5, 40, .pointer (some ⟨bs, 1, none⟩)), (6, 41, .int .u64 x1), (7, 42, .int .u64 ((p1 + o1) % 18446744073709551616)), (8, 43, .tuple #[.int .u64 e1, .int .u64 ((x1 + (p1 + o1) % 18446744073709551616) / 18446744073709551616)]), (9, 34, .tuple #[.int .u64 e1, .int .u64 ((x1 + (p1 + o1) % 18446744073709551616) / 18446744073709551616)]), (10, 44, .int .u64 e1), (11, 45, .int .u64 ((x1 + (p1 + o1) % 18446744073709551616) / 18446744073709551616)), (12, 46, .pointer (some ⟨bs, 0, none⟩)), (13, 47, .pointer (some ⟨bs, 1, none⟩)), (15, 8, .int .u64 ((x1 + (p1 + o1) % 18446744073709551616) / 18446744073709551616))] [(14, 6)] [] [] ?_ ?_
  · refine oc g_mv ?_
    refine oc g_mv ?_
    refine oc g_mv ?_
    refine oc g_mv ?_
    refine oc g_nl ?_
    refine oc (g_ix (fun uZ => ix_five uZ _ 1 (by omega))) ?_
    refine oc (g_lc 0 1 lU) ?_
    refine oc g_mv ?_
    refine oc (g_ce (fun uZ => add64_to x1 ((p1 + o1) % 18446744073709551616) e1 ((x1 + (p1 + o1) % 18446744073709551616) / 18446744073709551616) (by omega) (by omega) uZ (by omega) rfl)) ?_
    refine oc g_mv ?_
    refine oc g_ex ?_
    refine oc g_ex ?_
    refine oc g_nl ?_
    refine oc (g_ix (fun uZ => ix_five uZ _ 1 (by omega))) ?_
    refine oc (g_sc 0 0 sU) ?_
    exact oc g_as on
  intro u9 HB9 sz9 K9
  simp only [fX, nK, nP, Wr.f, aK, pM, List.foldl, List.set_cons_zero, List.set_cons_succ] at K9
  simp only [setG, setN, List.set_cons_zero, List.set_cons_succ]
  clear K8 HB8
  go_upto_region 9 with fail
  refine rgP K9 HB9 (Nat.le_of_lt (by omega)) [] [] [(0, 48, .int .u64 ((p1 + o1) / 18446744073709551616)), (1, 49, .int .u64 ((x1 + (p1 + o1) % 18446744073709551616) / 18446744073709551616)), (2, 50, .int .u64 o2), (3, 7, .int .u64 o2)] [] [] [] ?_ ?_
  · refine oc g_mv ?_
    refine oc g_mv ?_
    refine oc (g_bn (fun uZ => add_u _ _ ((p1 + o1) / 18446744073709551616) ((x1 + (p1 + o1) % 18446744073709551616) / 18446744073709551616) o2 uZ (by omega))) ?_
    exact oc g_as on
  intro u10 HB10 sz10 K10
  simp only [fX, nK, nP, Wr.f, aK, pM] at K10
  simp only [setG, setN, List.set_cons_zero, List.set_cons_succ]
  clear K9 HB9
  go_wp2
  rw [rounds_succ]
  go_upto_region 5 with fail
  refine rgP K10 HB10 (Nat.le_of_lt (by omega)) [] [] [(0, 16, .pointer (some ⟨ba, 0, none⟩)), (1, 17, .int .i64 2), (2, 18, .pointer (some ⟨ba, 0, none⟩)), (3, 19, .pointer (some ⟨ba, 2, none⟩)), (4, 20, .int .u64 (D2 (a))), (5, 21, .int .u64 n), (6, 22, .tuple #[.int .u64 (p2 / 18446744073709551616), .int .u64 (p2 % 18446744073709551616)]), (7, 15, .tuple #[.int .u64 (p2 / 18446744073709551616), .int .u64 (p2 % 18446744073709551616)]), (8, 23, .int .u64 (p2 / 18446744073709551616)), (9, 24, .int .u64 (p2 % 18446744073709551616)), (10, 10, .int .u64 (p2 / 18446744073709551616)), (11, 11, .int .u64 (p2 % 18446744073709551616))] [] [] [] ?_ ?_
  · refine oc g_mv ?_
    refine oc g_mv ?_
    refine oc g_nl ?_
    refine oc (g_ix (jN 2)) ?_
    refine oc (g_lc 1 2 lU) ?_
    refine oc g_mv ?_
    refine oc (g_cl ent_math_bits_Mul64 (fun uZ => mul64_B (D2 a) n p2 (W_D2 a) hn Hp2.out uZ)) ?_
    refine oc g_mv ?_
    refine oc g_ex ?_
    refine oc g_ex ?_
    refine oc g_as ?_
    exact oc g_as on
  intro u11 HB11 sz11 K11
  simp only [fX, nK, nP, Wr.f, aK, pM] at K11
  simp only [setG, setN, List.set_cons_zero, List.set_cons_succ]
  clear K10 HB10
  go_upto_region 6 with fail
  refine rgP K11 HB11 (Nat.le_of_lt (by omega)) [] [] [(0, 26, .int .u64 (p2 % 18446744073709551616)), (1, 27, .int .u64 o2), (2, 28, .tuple #[.int .u64 ((p2 + o2) % 18446744073709551616), .int .u64 ((p2 % 18446744073709551616 + o2) / 18446744073709551616)]), (3, 25, .tuple #[.int .u64 ((p2 + o2) % 18446744073709551616), .int .u64 ((p2 % 18446744073709551616 + o2) / 18446744073709551616)]), (4, 29, .int .u64 ((p2 + o2) % 18446744073709551616)), (5, 30, .int .u64 ((p2 % 18446744073709551616 + o2) / 18446744073709551616)), (6, 11, .int .u64 ((p2 + o2) % 18446744073709551616)), (7, 8, .int .u64 ((p2 % 18446744073709551616 + o2) / 18446744073709551616))] [(6, 0)] [(6, 11)] [] ?_ ?_
  · refine oc g_mv ?_
    refine oc g_mv ?_
    refine oc (g_ce (fun uZ => add64_to (p2 % 18446744073709551616) o2 ((p2 + o2) % 18446744073709551616) ((p2 % 18446744073709551616 + o2) / 18446744073709551616) (by omega) (by omega) uZ (by omega) rfl)) ?_
    refine oc g_mv ?_
    refine oc g_ex ?_
    refine oc g_ex ?_
    refine oc g_as ?_
    exact oc g_as on
  intro u12 HB12 sz12 K12
  simp only [fX, nK, nP, Wr.f, aK, pM] at K12
  simp only [setG, setN, List.set_cons_zero, List.set_cons_succ]
  clear K11 HB11
  go_upto_region 7 with fail
  refine rgP K12 HB12 (Nat.le_of_lt (by omega)) [] [] [(0, 31, .int .u64 (p2 / 18446744073709551616)), (1, 32, .int .u64 ((p2 % 18446744073709551616 + o2) / 18446744073709551616)), (2, 33, .int .u64 ((p2 + o2) / 18446744073709551616)), (3, 10, .int .u64 ((p2 + o2) / 18446744073709551616))] [(3, 0)] [(3, 10)] [] ?_ ?_
  · refine oc g_mv ?_
    refine oc g_mv ?_
    refine oc (g_bn (fun uZ => add_u _ _ (p2 / 18446744073709551616) ((p2 % 18446744073709551616 + o2) / 18446744073709551616) ((p2 + o2) / 18446744073709551616) uZ (by omega))) ?_
    exact oc g_as on
  intro u13 HB13 sz13 K13
  simp only [fX, nK, nP, Wr.f, aK, pM] at K13
  simp only [setG, setN, List.set_cons_zero, List.set_cons_succ]
  clear K12 HB12
  go_upto_region 8 with fail
  refine rgD K13 HB13 (Nat.le_of_lt (by omega)) [.cs [(2, 14, .int .u64 e2)]] [] [(0, 35, .pointer (some ⟨bs, 0, none⟩)), (1, 36, .int .i64 2), (2, 37, .pointer (some ⟨bs, 0, none⟩)), (3, 38, .int .i64 2), (4, 39, .pointer (some ⟨bs, 0, none⟩)), (5, 40, .pointer (some ⟨bs, 2, none⟩)), (6, 41, .int .u64 x2), (7, 42, .int .u64 ((p2 + o2) % 18446744073709551616)), (8, 43, .tuple #[.int .u64 e2, .int .u64 ((x2 + (p2 + o2) % 18446744073709551616) / 18446744073709551616)]), (9, 34, .tuple #[.int .u64 e2, .int .u64 ((x2 + (p2 + o2) % 18446744073709551616) / 18446744073709551616)]), (10, 44, .int .u64 e2), (11, 45, .int .u64 ((x2 + (p2 + o2) % 18446744073709551616) / 18446744073709551616)), (12, 46, .pointer (some ⟨bs, 0, none⟩)), (13, 47, .pointer (some ⟨bs, 2, none⟩)), (15, 8, .int .u64 ((x2 + (p2 + o2) % 18446744073709551616) / 18446744073709551616))] [(14, 6)] [] [] ?_ ?_
  · refine oc g_mv ?_
    refine oc g_mv ?_
    refine oc g_mv ?_
    refine oc g_mv ?_
    refine oc g_nl ?_
    refine oc (g_ix (fun uZ => ix_five uZ _ 2 (by omega))) ?_
    refine oc (g_lc 0 2 lU) ?_
    refine oc g_mv ?_
    refine oc (g_ce (fun uZ => add64_to x2 ((p2 + o2) % 18446744073709551616) e2 ((x2 + (p2 + o2) % 18446744073709551616) / 18446744073709551616) (by omega) (by omega) uZ (by omega) rfl)) ?_
    refine oc g_mv ?_
    refine oc g_ex ?_
    refine oc g_ex ?_
    refine oc g_nl ?_
    refine oc (g_ix (fun uZ => ix_five uZ _ 2 (by omega))) ?_
    refine oc (g_sc 0 0 sU) ?_
    exact oc g_as on
  intro u14 HB14 sz14 K14
  simp only [fX, nK, nP, Wr.f, aK, pM, List.foldl, List.set_cons_zero, List.set_cons_succ] at K14
  simp only [setG, setN, List.set_cons_zero, List.set_cons_succ]
  clear K13 HB13
  go_upto_region 9 with fail
  refine rgP K14 HB14 (Nat.le_of_lt (by omega)) [] [] [(0, 48, .int .u64 ((p2 + o2) / 18446744073709551616)), (1, 49, .int .u64 ((x2 + (p2 + o2) % 18446744073709551616) / 18446744073709551616)), (2, 50, .int .u64 o3), (3, 7, .int .u64 o3)] [] [] [] ?_ ?_
  · refine oc g_mv ?_
    refine oc g_mv ?_
    refine oc (g_bn (fun uZ => add_u _ _ ((p2 + o2) / 18446744073709551616) ((x2 + (p2 + o2) % 18446744073709551616) / 18446744073709551616) o3 uZ (by omega))) ?_
    exact oc g_as on
  intro u15 HB15 sz15 K15
  simp only [fX, nK, nP, Wr.f, aK, pM] at K15
  simp only [setG, setN, List.set_cons_zero, List.set_cons_succ]
  clear K14 HB14
  go_wp2
  rw [rounds_succ]
  go_upto_region 5 with fail
  refine rgP K15 HB15 (Nat.le_of_lt (by omega)) [] [] [(0, 16, .pointer (some ⟨ba, 0, none⟩)), (1, 17, .int .i64 3), (2, 18, .pointer (some ⟨ba, 0, none⟩)), (3, 19, .pointer (some ⟨ba, 3, none⟩)), (4, 20, .int .u64 (D3 (a))), (5, 21, .int .u64 n), (6, 22, .tuple #[.int .u64 (p3 / 18446744073709551616), .int .u64 (p3 % 18446744073709551616)]), (7, 15, .tuple #[.int .u64 (p3 / 18446744073709551616), .int .u64 (p3 % 18446744073709551616)]), (8, 23, .int .u64 (p3 / 18446744073709551616)), (9, 24, .int .u64 (p3 % 18446744073709551616)), (10, 10, .int .u64 (p3 / 18446744073709551616)), (11, 11, .int .u64 (p3 % 18446744073709551616))] [] [] [true, false] ?_ ?_
  · refine oc g_mv ?_
    refine oc g_mv ?_
    refine oc g_nl ?_
    refine oc (g_ix (jN 3)) ?_
    refine oc (g_lc 1 3 lU) ?_
    refine oc g_mv ?_
    refine oc (g_cl ent_math_bits_Mul64 (fun uZ => mul64_B (D3 a) n p3 (W_D3 a) hn Hp3.out uZ)) ?_
    refine oc g_mv ?_
    refine oc g_ex ?_
    refine oc g_ex ?_
    refine oc g_as ?_
    exact oc g_as on
  intro u16 HB16 sz16 K16
  simp only [fX, nK, nP, Wr.f, aK, pM] at K16
  simp only [setG, setN, List.set_cons_zero, List.set_cons_succ]
  clear K15 HB15
  go_upto_region 6 with fail
  refine rgP K16 HB16 (Nat.le_of_lt (by omega)) [] [] [(0, 26, .int .u64 (p3 % 18446744073709551616)), (1, 27, .int .u64 o3), (2, 28, .tuple #[.int .u64 ((p3 + o3) % 18446744073709551616), .int .u64 ((p3 % 18446744073709551616 + o3) / 18446744073709551616)]), (3, 25, .tuple #[.int .u64 ((p3 + o3) % 18446744073709551616), .int .u64 ((p3 % 18446744073709551616 + o3) / 18446744073709551616)]), (4, 29, .int .u64 ((p3 + o3) % 18446744073709551616)), (5, 30, .int .u64 ((p3 % 18446744073709551616 + o3) / 18446744073709551616)), (6, 11, .int .u64 ((p3 + o3) % 18446744073709551616)), (7, 8, .int .u64 ((p3 % 18446744073709551616 + o3) / 18446744073709551616))] [(6, 0)] [(6, 11)] [] ?_ ?_
  · refine oc g_mv ?_
    refine oc g_mv ?_
    refine oc (g_ce (fun uZ => add64_to (p3 % 18446744073709551616) o3 ((p3 + o3) % 18446744073709551616) ((p3 % 18446744073709551616 + o3) / 18446744073709551616) (by omega) (by omega) uZ (by omega) rfl)) ?_
    refine oc g_mv ?_
    refine oc g_ex ?_
    refine oc g_ex ?_
    refine oc g_as ?_
    exact oc g_as on
  intro u17 HB17 sz17 K17
  simp only [fX, nK, nP, Wr.f, aK, pM] at K17
  simp only [setG, setN, List.set_cons_zero, List.set_cons_succ]
  clear K16 HB16
  go_upto_region 7 with fail
  refine rgP K17 HB17 (Nat.le_of_lt (by omega)) [] [] [(0, 31, .int .u64 (p3 / 18446744073709551616)), (1, 32, .int .u64 ((p3 % 18446744073709551616 + o3) / 18446744073709551616)), (2, 33, .int .u64 ((p3 + o3) / 18446744073709551616)), (3, 10, .int .u64 ((p3 + o3) / 18446744073709551616))] [(3, 0)] [(3, 10)] [] ?_ ?_
  · refine oc g_mv ?_
    refine oc g_mv ?_
    refine oc (g_bn (fun uZ => add_u _ _ (p3 / 18446744073709551616) ((p3 % 18446744073709551616 + o3) / 18446744073709551616) ((p3 + o3) / 18446744073709551616) uZ (by omega))) ?_
    exact oc g_as on
  intro u18 HB18 sz18 K18
  simp only [fX, nK, nP, Wr.f, aK, pM] at K18
  simp only [setG, setN, List.set_cons_zero, List.set_cons_succ]
  clear K17 HB17
  go_upto_region 8 with fail
  refine rgD K18 HB18 (Nat.le_of_lt (by omega)) [.cs [(3, 14, .int .u64 e3)]] [] [(0, 35, .pointer (some ⟨bs, 0, none⟩)), (1, 36, .int .i64 3), (2, 37, .pointer (some ⟨bs, 0, none⟩)), (3, 38, .int .i64 3), (4, 39, .pointer (some ⟨bs, 0, none⟩)), (5, 40, .pointer (some ⟨bs, 3, none⟩)), (6, 41, .int .u64 x3), (7, 42, .int .u64 ((p3 + o3) % 18446744073709551616)), (8, 43, .tuple #[.int .u64 e3, .int .u64 ((x3 + (p3 + o3) % 18446744073709551616) / 18446744073709551616)]), (9, 34, .tuple #[.int .u64 e3, .int .u64 ((x3 + (p3 + o3) % 18446744073709551616) / 18446744073709551616)]), (10, 44, .int .u64 e3), (11, 45, .int .u64 ((x3 + (p3 + o3) % 18446744073709551616) / 18446744073709551616)), (12, 46, .pointer (some ⟨bs, 0, none⟩)), (13, 47, .pointer (some ⟨bs, 3, none⟩)), (15, 8, .int .u64 ((x3 + (p3 + o3) % 18446744073709551616) / 18446744073709551616))] [(14, 6)] [] [] ?_ ?_
  · refine oc g_mv ?_
    refine oc g_mv ?_
    refine oc g_mv ?_
    refine oc g_mv ?_
    refine oc g_nl ?_
    refine oc (g_ix (fun uZ => ix_five uZ _ 3 (by omega))) ?_
    refine oc (g_lc 0 3 lU) ?_
    refine oc g_mv ?_
    refine oc (g_ce (fun uZ => add64_to x3 ((p3 + o3) % 18446744073709551616) e3 ((x3 + (p3 + o3) % 18446744073709551616) / 18446744073709551616) (by omega) (by omega) uZ (by omega) rfl)) ?_
    refine oc g_mv ?_
    refine oc g_ex ?_
    refine oc g_ex ?_
    refine oc g_nl ?_
    refine oc (g_ix (fun uZ => ix_five uZ _ 3 (by omega))) ?_
    refine oc (g_sc 0 0 sU) ?_
    exact oc g_as on
  intro u19 HB19 sz19 K19
  simp only [fX, nK, nP, Wr.f, aK, pM, List.foldl, List.set_cons_zero, List.set_cons_succ] at K19
  simp only [setG, setN, List.set_cons_zero, List.set_cons_succ]
  clear K18 HB18
  go_upto_region 9 with fail
  refine rgP K19 HB19 (Nat.le_of_lt (by omega)) [] [] [(0, 48, .int .u64 ((p3 + o3) / 18446744073709551616)), (1, 49, .int .u64 ((x3 + (p3 + o3) % 18446744073709551616) / 18446744073709551616)), (2, 50, .int .u64 o4), (3, 7, .int .u64 o4)] [] [] [] ?_ ?_
  · refine oc g_mv ?_
    refine oc g_mv ?_
    refine oc (g_bn (fun uZ => add_u _ _ ((p3 + o3) / 18446744073709551616) ((x3 + (p3 + o3) % 18446744073709551616) / 18446744073709551616) o4 uZ (by omega))) ?_
    exact oc g_as on
  intro u20 HB20 sz20 K20
  simp only [fX, nK, nP, Wr.f, aK, pM] at K20
  simp only [setG, setN, List.set_cons_zero, List.set_cons_succ]
  clear K19 HB19
  go_wp2
  rw [rounds_succ]
  go_upto_region 11 with fail
  refine rgD K20 HB20 (Nat.le_of_lt (by omega)) [.cs [(4, 12, .int .u64 e4)]] [] [(0, 53, .pointer (some ⟨bs, 0, none⟩)), (1, 54, .pointer (some ⟨bs, 0, none⟩)), (2, 55, .pointer (some ⟨bs, 0, none⟩)), (3, 56, .pointer (some ⟨bs, 4, none⟩)), (4, 57, .int .u64 x4), (5, 58, .int .u64 o4), (6, 59, .tuple #[.int .u64 e4, .int .u64 c]), (7, 52, .tuple #[.int .u64 e4, .int .u64 c]), (8, 60, .int .u64 e4), (9, 61, .int .u64 c), (10, 62, .pointer (some ⟨bs, 0, none⟩)), (11, 63, .pointer (some ⟨bs, 4, none⟩)), (13, 8, .int .u64 c)] [(12, 4)] [] [] ?_ ?_
  · refine oc g_mv ?_
    refine oc g_mv ?_
    refine oc g_nl ?_
    refine oc (g_ix (fun uZ => ix_five uZ _ 4 (by omega))) ?_
    refine oc (g_lc 0 4 lU) ?_
    refine oc g_mv ?_
    refine oc (g_ce (fun uZ => add64_to x4 o4 e4 c (by omega) (by omega) uZ (by omega) (by omega))) ?_
    refine oc g_mv ?_
    refine oc g_ex ?_
    refine oc g_ex ?_
    refine oc g_nl ?_
    refine oc (g_ix (fun uZ => ix_five uZ _ 4 (by omega))) ?_
    refine oc (g_sc 0 0 sU) ?_
    exact oc g_as on
  intro u21 HB21 sz21 K21
  simp only [fX, nK, nP, Wr.f, aK, pM, List.foldl, List.set_cons_zero, List.set_cons_succ] at K21
  simp only [setG, setN, List.set_cons_zero, List.set_cons_succ]
  clear K20 HB20
  go_upto_region 12 with fail
  refine rgP K21 HB21 (Nat.le_of_lt (by omega)) [] [] [(0, 64, .int .u64 c), (1, 6, .int .u64 c)] [] [] [] ?_ ?_
  · refine oc g_mv ?_
    exact oc g_as on
  intro u22 HB22 sz22 K22
  simp only [fX, nK, nP, Wr.f, aK, pM] at K22
  simp only [setG, setN, List.set_cons_zero, List.set_cons_succ]
  clear K21 HB21
  go_wp2
  refine bodyPost_ret (v := .int .u64 c) (by simp [results, Try.results112, go_sem]) rfl ⟨?_, HB22, ?_⟩
  · rw [He.out.2.2.2.2.2]
  · have h1 := (K22.cv 0)
    rw [L5, He.out.1, He.out.2.1, He.out.2.2.1, He.out.2.2.2.1, He.out.2.2.2.2.1]; exact h1
end Go.Proofs.Ytkpnjmfndgfogaa
