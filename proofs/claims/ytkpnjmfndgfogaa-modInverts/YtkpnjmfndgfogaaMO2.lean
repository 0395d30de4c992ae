/- Numbers modulo one: addMultiple. -/
import Derived.Test.YtkpnjmfndgfogaaMM
import Derived.Test.YtkpnjmfndgfogaaM2
namespace Go.Proofs.Ytkpnjmfndgfogaa
open Go.RowKit
set_option linter.unusedVariables false
set_option linter.unusedSimpArgs false
abbrev L5 (n : Int) : List Value := [.int .u64 (D0 n), .int .u64 (D1 n), .int .u64 (D2 n), .int .u64 (D3 n), .int .u64 (D4 n)]
theorem add64_to (x y s c : Int) (hx : 0 ≤ x) (hy : 0 ≤ y) (w : World) (hs : (x + y) % 18446744073709551616 = s) (hc : (x + y) / 18446744073709551616 = c) : (callFunc 110 #[.int .u64 x, .int .u64 y, .int .u64 0]).run Try.prog w = .ok (.value (.tuple #[.int .u64 s, .int .u64 c])) w := by
  subst hs hc; exact add64_0 x y hx hy w
theorem mul64_B (x y p : Int) (hx : W64 x) (hy : W64 y) (hp : x * y = p) (w : World) : Calls Try.prog 111 #[.int .u64 x, .int .u64 y] w fun e w' => e = .returned (.tuple #[.int .u64 (p / 18446744073709551616), .int .u64 (p % 18446744073709551616)]) ∧ Below w.heap.size w w' := by
  subst hp
  refine (mul64_any x y hx hy w).mono ?_
  rintro e w' ⟨rfl, rfl⟩
  exact ⟨rfl, Below.refl _ _⟩
theorem ent_Mul64 (vs : Array Value) (w : World) : (callFunc 111 vs).run Try.prog w = .ok (.enter 111 vs) w := by kernel_rfl
theorem ent_math_bits_Mul64 (vs : Array Value) (w : World) : (callFunc 111 vs).run Try.prog w = .ok (.enter 111 vs) w := by kernel_rfl
theorem pr_bd (x p : Int) (hx : W64 x) (hp : W64 p) : 0 ≤ x * p ∧ x * p ≤ 340282366920938463426481119284349108225 := by
  obtain ⟨x1, x2⟩ := hx; obtain ⟨p1, p2⟩ := hp
  refine ⟨Int.mul_nonneg x1 p1, ?_⟩
  have h1 : x * p ≤ 18446744073709551615 * 18446744073709551615 := Int.mul_le_mul (by omega) (by omega) p1 (by omega)
  omega
/-- What comes of the digits. -/
theorem am_spec (S a n : Int) (hS0 : 0 ≤ S) (hS : S < 2135987035920910082395021706169552114602704522356652769947041607822219725780640550022962086936576) (ha : In a) (hn : W64 n) :
    ∃ p0 p1 p2 p3 o1 o2 o3 o4 e0 e1 e2 e3 e4 c : Int, D0 a * n = p0 ∧ D1 a * n = p1 ∧ D2 a * n = p2 ∧ D3 a * n = p3 ∧
      (0 ≤ p0 ∧ p0 ≤ 340282366920938463426481119284349108225) ∧ (0 ≤ p1 ∧ p1 ≤ 340282366920938463426481119284349108225) ∧ (0 ≤ p2 ∧ p2 ≤ 340282366920938463426481119284349108225) ∧ (0 ≤ p3 ∧ p3 ≤ 340282366920938463426481119284349108225) ∧
      (0 ≤ o1 ∧ o1 < 18446744073709551616) ∧ (0 ≤ o2 ∧ o2 < 18446744073709551616) ∧ (0 ≤ o3 ∧ o3 < 18446744073709551616) ∧ (0 ≤ o4 ∧ o4 < 18446744073709551616) ∧
      (D0 S + p0 ≤ e0 + 18446744073709551616 * o1 ∧ e0 + 18446744073709551616 * o1 ≤ D0 S + p0) ∧ (D1 S + p1 + o1 ≤ e1 + 18446744073709551616 * o2 ∧ e1 + 18446744073709551616 * o2 ≤ D1 S + p1 + o1) ∧ (D2 S + p2 + o2 ≤ e2 + 18446744073709551616 * o3 ∧ e2 + 18446744073709551616 * o3 ≤ D2 S + p2 + o2) ∧ (D3 S + p3 + o3 ≤ e3 + 18446744073709551616 * o4 ∧ e3 + 18446744073709551616 * o4 ≤ D3 S + p3 + o3) ∧ (D4 S + o4 ≤ e4 + 18446744073709551616 * c ∧ e4 + 18446744073709551616 * c ≤ D4 S + o4) ∧
      (0 ≤ e0 ∧ e0 < 18446744073709551616) ∧ (0 ≤ e1 ∧ e1 < 18446744073709551616) ∧ (0 ≤ e2 ∧ e2 < 18446744073709551616) ∧ (0 ≤ e3 ∧ e3 < 18446744073709551616) ∧ (0 ≤ e4 ∧ e4 < 18446744073709551616) ∧ (0 ≤ c ∧ c ≤ 1) ∧
      D0 ((S + a * n) % 2135987035920910082395021706169552114602704522356652769947041607822219725780640550022962086936576) = e0 ∧ D1 ((S + a * n) % 2135987035920910082395021706169552114602704522356652769947041607822219725780640550022962086936576) = e1 ∧ D2 ((S + a * n) % 2135987035920910082395021706169552114602704522356652769947041607822219725780640550022962086936576) = e2 ∧ D3 ((S + a * n) % 2135987035920910082395021706169552114602704522356652769947041607822219725780640550022962086936576) = e3 ∧ D4 ((S + a * n) % 2135987035920910082395021706169552114602704522356652769947041607822219725780640550022962086936576) = e4 ∧ (S + a * n) / 2135987035920910082395021706169552114602704522356652769947041607822219725780640550022962086936576 = c := by
  have b0 := pr_bd (D0 a) n (W_D0 a) hn
  have b1 := pr_bd (D1 a) n (W_D1 a) hn
  have b2 := pr_bd (D2 a) n (W_D2 a) hn
  have b3 := pr_bd (D3 a) n (W_D3 a) hn
  have s0 := W_D0 S; have s1 := W_D1 S; have s2 := W_D2 S; have s3 := W_D3 S
  have hv : a * n = D0 a * n + D1 a * n * 18446744073709551616 + D2 a * n * 340282366920938463463374607431768211456 + D3 a * n * 6277101735386680763835789423207666416102355444464034512896 := by
    rw [← V_mul (D0 a) (D1 a) (D2 a) (D3 a) n, V_In ha]
  have hSv : S = D0 S + D1 S * 18446744073709551616 + D2 S * 340282366920938463463374607431768211456 + D3 S * 6277101735386680763835789423207666416102355444464034512896 + D4 S * 115792089237316195423570985008687907853269984665640564039457584007913129639936 := by
    unfold D0 D1 D2 D3 D4; omega
  have h4 : 0 ≤ D4 S ∧ D4 S < 18446744073709551616 := by unfold D4; omega
  rw [hv]
  generalize D0 a * n = p0 at *
  generalize D1 a * n = p1 at *
  generalize D2 a * n = p2 at *
  generalize D3 a * n = p3 at *
  unfold W64 at s0 s1 s2 s3
  generalize D0 S = x0 at *
  generalize D1 S = x1 at *
  generalize D2 S = x2 at *
  generalize D3 S = x3 at *
  generalize D4 S = x4 at *
  obtain ⟨o1, ho1⟩ : ∃ o, o = (x0 + p0) / 18446744073709551616 := ⟨_, rfl⟩
  obtain ⟨o2, ho2⟩ : ∃ o, o = (x1 + p1 + o1) / 18446744073709551616 := ⟨_, rfl⟩
  obtain ⟨o3, ho3⟩ : ∃ o, o = (x2 + p2 + o2) / 18446744073709551616 := ⟨_, rfl⟩
  obtain ⟨o4, ho4⟩ : ∃ o, o = (x3 + p3 + o3) / 18446744073709551616 := ⟨_, rfl⟩
  obtain ⟨c, hc⟩ : ∃ o, o = (x4 + o4) / 18446744073709551616 := ⟨_, rfl⟩
  have k1 : 0 ≤ o1 ∧ o1 < 18446744073709551616 := by omega
  have k2 : 0 ≤ o2 ∧ o2 < 18446744073709551616 := by omega
  have k3 : 0 ≤ o3 ∧ o3 < 18446744073709551616 := by omega
  have k4 : 0 ≤ o4 ∧ o4 < 18446744073709551616 := by omega
  have kc : 0 ≤ c ∧ c ≤ 1 := by omega
  have hE : S + (p0 + p1 * 18446744073709551616 + p2 * 340282366920938463463374607431768211456 + p3 * 6277101735386680763835789423207666416102355444464034512896) = (x0 + p0 - 18446744073709551616 * o1) + (x1 + p1 + o1 - 18446744073709551616 * o2) * 18446744073709551616 + (x2 + p2 + o2 - 18446744073709551616 * o3) * 340282366920938463463374607431768211456 + (x3 + p3 + o3 - 18446744073709551616 * o4) * 6277101735386680763835789423207666416102355444464034512896 + (x4 + o4 - 18446744073709551616 * c) * 115792089237316195423570985008687907853269984665640564039457584007913129639936 + c * 2135987035920910082395021706169552114602704522356652769947041607822219725780640550022962086936576 := by omega
  have e0 : 0 ≤ x0 + p0 - 18446744073709551616 * o1 ∧ x0 + p0 - 18446744073709551616 * o1 < 18446744073709551616 := by omega
  have e1 : 0 ≤ x1 + p1 + o1 - 18446744073709551616 * o2 ∧ x1 + p1 + o1 - 18446744073709551616 * o2 < 18446744073709551616 := by omega
  have e2 : 0 ≤ x2 + p2 + o2 - 18446744073709551616 * o3 ∧ x2 + p2 + o2 - 18446744073709551616 * o3 < 18446744073709551616 := by omega
  have e3 : 0 ≤ x3 + p3 + o3 - 18446744073709551616 * o4 ∧ x3 + p3 + o3 - 18446744073709551616 * o4 < 18446744073709551616 := by omega
  have e4 : 0 ≤ x4 + o4 - 18446744073709551616 * c ∧ x4 + o4 - 18446744073709551616 * c < 18446744073709551616 := by omega
  refine ⟨p0, p1, p2, p3, o1, o2, o3, o4, x0 + p0 - 18446744073709551616 * o1, x1 + p1 + o1 - 18446744073709551616 * o2, x2 + p2 + o2 - 18446744073709551616 * o3, x3 + p3 + o3 - 18446744073709551616 * o4, x4 + o4 - 18446744073709551616 * c, c, rfl, rfl, rfl, rfl, b0, b1, b2, b3, k1, k2, k3, k4, by omega, by omega, by omega, by omega, by omega, e0, e1, e2, e3, e4, kc, ?_⟩
  rw [hE]
  generalize x0 + p0 - 18446744073709551616 * o1 = f0 at *
  generalize x1 + p1 + o1 - 18446744073709551616 * o2 = f1 at *
  generalize x2 + p2 + o2 - 18446744073709551616 * o3 = f2 at *
  generalize x3 + p3 + o3 - 18446744073709551616 * o4 = f3 at *
  generalize x4 + o4 - 18446744073709551616 * c = f4 at *
  clear hE hv hSv ho1 ho2 ho3 ho4 hc k1 k2 k3 k4 b0 b1 b2 b3 s0 s1 s2 s3 h4 hS hS0
  have hm : (f0 + f1 * 18446744073709551616 + f2 * 340282366920938463463374607431768211456 + f3 * 6277101735386680763835789423207666416102355444464034512896 + f4 * 115792089237316195423570985008687907853269984665640564039457584007913129639936 + c * 2135987035920910082395021706169552114602704522356652769947041607822219725780640550022962086936576) % 2135987035920910082395021706169552114602704522356652769947041607822219725780640550022962086936576 = f0 + f1 * 18446744073709551616 + f2 * 340282366920938463463374607431768211456 + f3 * 6277101735386680763835789423207666416102355444464034512896 + f4 * 115792089237316195423570985008687907853269984665640564039457584007913129639936 := by omega
  have hq : (f0 + f1 * 18446744073709551616 + f2 * 340282366920938463463374607431768211456 + f3 * 6277101735386680763835789423207666416102355444464034512896 + f4 * 115792089237316195423570985008687907853269984665640564039457584007913129639936 + c * 2135987035920910082395021706169552114602704522356652769947041607822219725780640550022962086936576) / 2135987035920910082395021706169552114602704522356652769947041607822219725780640550022962086936576 = c := by omega
  rw [hm, hq]
  unfold D0 D1 D2 D3 D4
  refine ⟨?_, ?_, ?_, ?_, ?_, rfl⟩ <;> omega
set_option maxRecDepth 100000 in
set_option maxHeartbeats 8000000 in
theorem amul (bs ba : Nat) (S a n : Int) (w : World) (hS0 : 0 ≤ S) (hS : S < 2135987035920910082395021706169552114602704522356652769947041607822219725780640550022962086936576) (ha : In a) (hn : W64 n) (hab : ba < bs) (lbs : bs < w.heap.size) (Ks0 : CV w bs (L5 S)) (Ka : CV w ba (LN a)) :
    Calls Try.prog 112 #[.pointer (some ⟨bs, 0, none⟩), .pointer (some ⟨ba, 0, none⟩), .int .u64 n] w fun e w' => e = .returned (.int .u64 ((S + a * n) / 2135987035920910082395021706169552114602704522356652769947041607822219725780640550022962086936576)) ∧ Below bs w w' ∧ CV w' bs (L5 ((S + a * n) % 2135987035920910082395021706169552114602704522356652769947041607822219725780640550022962086936576)) := by
  obtain ⟨p0, p1, p2, p3, o1, o2, o3, o4, e0, e1, e2, e3, e4, c, hp0, hp1, hp2, hp3, b0, b1, b2, b3, k1, k2, k3, k4, t0, t1, t2, t3, t4, d0, d1, d2, d3, d4, kc, he⟩ := am_spec S a n hS0 hS ha hn
  have He : Hid _ := he
  have w0 := W_D0 S; have w1 := W_D1 S; have w2 := W_D2 S; have w3 := W_D3 S
  have w4 : 0 ≤ D4 S ∧ D4 S < 18446744073709551616 := by unfold D4; omega
  unfold W64 at w0 w1 w2 w3
  obtain ⟨x0, hx0⟩ : ∃ x, D0 S = x := ⟨_, rfl⟩
  obtain ⟨x1, hx1⟩ : ∃ x, D1 S = x := ⟨_, rfl⟩
  obtain ⟨x2, hx2⟩ : ∃ x, D2 S = x := ⟨_, rfl⟩
  obtain ⟨x3, hx3⟩ : ∃ x, D3 S = x := ⟨_, rfl⟩
  obtain ⟨x4, hx4⟩ : ∃ x, D4 S = x := ⟨_, rfl⟩
  have Ks : CV w bs [.int .u64 x0, .int .u64 x1, .int .u64 x2, .int .u64 x3, .int .u64 x4] := by rw [L5, hx0, hx1, hx2, hx3, hx4] at Ks0; exact Ks0
  rw [hx0] at t0 w0; rw [hx1] at t1 w1; rw [hx2] at t2 w2; rw [hx3] at t3 w3; rw [hx4] at t4 w4
  have Hp0 : Hid _ := hp0; have Hp1 : Hid _ := hp1; have Hp2 : Hid _ := hp2; have Hp3 : Hid _ := hp3
  clear he hx0 hx1 hx2 hx3 hx4 Ks0 hp0 hp1 hp2 hp3
  go_enter Try.func112, Try.ntmps112
  go_wp2
  have HB0 : Below bs w w := Below.refl _ _
  refine wp_loop_rounds 5 ?_
  rw [rounds_succ]
  go_upto_region 5 with fail
  refine region_plain [16, 17, 18, 19, 20, 21, 22, 15, 23, 24, 10, 11] (fun fZ tZ uZ => MR bs w (w.heap.size) [(bs, [.int .u64 x0, .int .u64 x1, .int .u64 x2, .int .u64 x3, .int .u64 x4]), (ba, LN a)] [] [] uZ ∧ Gs fZ tZ [(0, 16, .pointer (some ⟨ba, 0, none⟩)), (1, 17, .int .i64 0), (2, 18, .pointer (some ⟨ba, 0, none⟩)), (3, 19, .pointer (some ⟨ba, 0, none⟩)), (4, 20, .int .u64 (D0 (a))), (5, 21, .int .u64 n), (6, 22, .tuple #[.int .u64 (p0 / 18446744073709551616), .int .u64 (p0 % 18446744073709551616)]), (7, 15, .tuple #[.int .u64 (p0 / 18446744073709551616), .int .u64 (p0 % 18446744073709551616)]), (8, 23, .int .u64 (p0 / 18446744073709551616)), (9, 24, .int .u64 (p0 % 18446744073709551616)), (10, 10, .int .u64 (p0 / 18446744073709551616)), (11, 11, .int .u64 (p0 % 18446744073709551616))] ∧ Os fZ [] ∧ Ns fZ tZ []) (by kernel_rfl) ?_ ?_ ?_
  · exact ⟨{ bel := HB0, lo := (Nat.le_of_lt (by omega)), sz := Nat.le_refl _, ks := ⟨⟨lbs, Ks⟩, ⟨(by omega), Ka⟩, trivial⟩, ex := trivial, nw := trivial, nd := trivial }, Gs.none _ _, Os.none _, trivial⟩
  · rintro fZ tZ uZ iZ oZ aZ hF ⟨hM, hG, hO, hN⟩ ho hfi hdep
    obtain ⟨hS, hV⟩ := hF.two 65 (by decide) rfl (by decide)
    rcases cZ12 ho with rfl | rfl | rfl | rfl | rfl | rfl | rfl | rfl | rfl | rfl | rfl | rfl <;> cases ho
    · exact t_move (show aZ.eval (.tmp 1) = .pointer (some ⟨ba, 0, none⟩) from (hF.out 1 (by decide)).trans rfl) hF hS rfl rfl rfl rfl (by decide) (Jt hM hG hN)
    · exact t_move (show aZ.eval (.tmp 9) = .int .i64 0 from (hF.out 9 (by decide)).trans rfl) hF hS rfl rfl rfl rfl (by decide) (Jt hM hG hN)
    · refine op_plain rfl rfl (fun K hK => ?_)
      refine wp_nil rfl (ve 16 hV (hG.1 (dd 0 hdep))) ?_
      exact tell hK hF hS (by decide) (Jt hM hG hN)
    · refine op_plain rfl rfl (fun K hK => ?_)
      refine wp_index rfl (ve 18 hV (hG.2.2.1 (dd 2 hdep))) (ve 17 hV (hG.2.1 (dd 1 hdep))) (ix_nat uZ (ba) 0 (by omega)) ?_
      exact tell hK hF hS (by decide) (Jt hM hG hN)
    · refine op_plain rfl rfl (fun K hK => ?_)
      have kk : CV uZ (ba) (LN a) := hM.ks.2.1.2
      have kc := (kk 0 _ (rfl)).1
      refine wp_load rfl (ve 19 hV (hG.2.2.2.1 (dd 3 hdep))) (ld_u64 uZ (ba) 0 _ kc) ?_
      exact tell hK hF hS (by decide) (Jt hM hG hN)
    · exact t_move (show aZ.eval (.tmp 2) = .int .u64 n from (hF.out 2 (by decide)).trans rfl) hF hS rfl rfl rfl rfl (by decide) (Jt hM hG hN)
    · exact t_call (vs := [.int .u64 (D0 (a)), .int .u64 n]) (by show [aZ.eval (.tmp 20), aZ.eval (.tmp 21)] = _; rw [(ve 20 hV (hG.2.2.2.2.1 (dd 4 hdep))), (ve 21 hV (hG.2.2.2.2.2.1 (dd 5 hdep)))]) ent_math_bits_Mul64 (mul64_B (D0 a) n p0 (W_D0 a) hn Hp0.out uZ) hF hS rfl rfl rfl rfl (by decide) (fun _ hB => (Jt (hM.call hB) hG hN))
    · exact t_move (ve 22 hV (hG.2.2.2.2.2.2.1 (dd 6 hdep))) hF hS rfl rfl rfl rfl (by decide) (Jt hM hG hN)
    · exact t_extract (ve 15 hV (hG.2.2.2.2.2.2.2.1 (dd 7 hdep))) hF hS rfl rfl rfl rfl rfl (by decide) (Jt hM hG hN)
    · exact t_extract (ve 15 hV (hG.2.2.2.2.2.2.2.1 (dd 7 hdep))) hF hS rfl rfl rfl rfl rfl (by decide) (Jt hM hG hN)
    · exact t_assign (ve 23 hV (hG.2.2.2.2.2.2.2.2.1 (dd 8 hdep))) hF hS rfl rfl rfl rfl (by decide) (Jt hM hG hN)
    · exact t_assign (ve 24 hV (hG.2.2.2.2.2.2.2.2.2.1 (dd 9 hdep))) hF hS rfl rfl rfl rfl (by decide) (Jt hM hG hN)
  rintro fZ tZ u1 ⟨hM, hG, hO, hN⟩ hall
  obtain ⟨e16, e17, e18, e19, e20, e21, e22, e15, e23, e24, e10, e11, -⟩ := Gs.all 12 hall hG rfl
  have HB1 : Below bs w u1 := hM.bel
  have sz1 : w.heap.size ≤ u1.heap.size := hM.sz
  obtain ⟨⟨l1s, K1s⟩, ⟨l1a, K1a⟩, -⟩ := hM.ks.up hM.sz
  dsimp only at l1s K1s l1a K1a
  simp only [ovr, List.set_cons_zero, List.set_cons_succ, e16, e17, e18, e19, e20, e21, e22, e15, e23, e24, e10, e11]
  clear hM hG hO hN hall e16 e17 e18 e19 e20 e21 e22 e15 e23 e24 e10 e11 Ka Ks HB0
  clear tZ
  go_upto_region 6 with fail
  refine region_plain [26, 27, 28, 25, 29, 30, 11, 8] (fun fZ tZ uZ => MR bs w (u1.heap.size) [(bs, [.int .u64 x0, .int .u64 x1, .int .u64 x2, .int .u64 x3, .int .u64 x4]), (ba, LN a)] [] [] uZ ∧ Gs fZ tZ [(0, 26, .int .u64 (p0 % 18446744073709551616)), (1, 27, .int .u64 0), (2, 28, .tuple #[.int .u64 ((p0 + 0) % 18446744073709551616), .int .u64 ((p0 % 18446744073709551616 + 0) / 18446744073709551616)]), (3, 25, .tuple #[.int .u64 ((p0 + 0) % 18446744073709551616), .int .u64 ((p0 % 18446744073709551616 + 0) / 18446744073709551616)]), (4, 29, .int .u64 ((p0 + 0) % 18446744073709551616)), (5, 30, .int .u64 ((p0 % 18446744073709551616 + 0) / 18446744073709551616)), (6, 11, .int .u64 ((p0 + 0) % 18446744073709551616)), (7, 8, .int .u64 ((p0 % 18446744073709551616 + 0) / 18446744073709551616))] ∧ Os fZ [(6, 0)] ∧ Ns fZ tZ [(6, 11, .int .u64 (p0 % 18446744073709551616))]) (by kernel_rfl) ?_ ?_ ?_
  · exact ⟨{ bel := HB1, lo := (Nat.le_of_lt (by omega)), sz := Nat.le_refl _, ks := ⟨⟨l1s, K1s⟩, ⟨l1a, K1a⟩, trivial⟩, ex := trivial, nw := trivial, nd := trivial }, Gs.none _ _, Os.none _, ⟨fun _ => rfl, trivial⟩⟩
  · rintro fZ tZ uZ iZ oZ aZ hF ⟨hM, hG, hO, hN⟩ ho hfi hdep
    obtain ⟨hS, hV⟩ := hF.two 65 (by decide) rfl (by decide)
    rcases cZ8 ho with rfl | rfl | rfl | rfl | rfl | rfl | rfl | rfl <;> cases ho
    · have yi11 : fZ 6 = false := Os.not (hO.1) hfi
      have ei11 : tZ 11 = .int .u64 (p0 % 18446744073709551616) := hN.1 yi11
      exact t_move ((hV 11 (by decide)).trans ei11) hF hS rfl rfl rfl rfl (by decide) (Jm hM hG hO hN)
    · exact t_move (show aZ.eval (.tmp 7) = .int .u64 0 from (hF.out 7 (by decide)).trans rfl) hF hS rfl rfl rfl rfl (by decide) (Jm hM hG hO hN)
    · refine op_plain rfl rfl (fun K hK => ?_)
      refine wp_callE rfl (vs := [.int .u64 (p0 % 18446744073709551616), .int .u64 0, (Go.Value.int Go.IntKind.u64 0)]) (by show [aZ.eval (.tmp 26), aZ.eval (.tmp 27), (Go.Value.int Go.IntKind.u64 0)] = _; rw [(ve 26 hV (hG.1 (dd 0 hdep))), (ve 27 hV (hG.2.1 (dd 1 hdep)))]) (add64_to (p0 % 18446744073709551616) 0 ((p0 + 0) % 18446744073709551616) ((p0 % 18446744073709551616 + 0) / 18446744073709551616) (by omega) (by omega) uZ (by omega) rfl) ?_
      exact tell hK hF hS (by decide) (Jm hM hG hO hN)
    · exact t_move (ve 28 hV (hG.2.2.1 (dd 2 hdep))) hF hS rfl rfl rfl rfl (by decide) (Jm hM hG hO hN)
    · exact t_extract (ve 25 hV (hG.2.2.2.1 (dd 3 hdep))) hF hS rfl rfl rfl rfl rfl (by decide) (Jm hM hG hO hN)
    · exact t_extract (ve 25 hV (hG.2.2.2.1 (dd 3 hdep))) hF hS rfl rfl rfl rfl rfl (by decide) (Jm hM hG hO hN)
    · exact t_assign (ve 29 hV (hG.2.2.2.2.1 (dd 4 hdep))) hF hS rfl rfl rfl rfl (by decide) ⟨hM, Gs.stepA hG rfl rfl, ⟨fun _ => hdep ⟨0, .phase⟩ (by simp) rfl, trivial⟩, Ns.step hN rfl⟩
    · exact t_assign (ve 30 hV (hG.2.2.2.2.2.1 (dd 5 hdep))) hF hS rfl rfl rfl rfl (by decide) (Jm hM hG hO hN)
  rintro fZ tZ u2 ⟨hM, hG, hO, hN⟩ hall
  obtain ⟨e26, e27, e28, e25, e29, e30, e11, e8, -⟩ := Gs.all 8 hall hG rfl
  have HB2 : Below bs w u2 := hM.bel
  have sz2 : u1.heap.size ≤ u2.heap.size := hM.sz
  obtain ⟨⟨l2s, K2s⟩, ⟨l2a, K2a⟩, -⟩ := hM.ks.up hM.sz
  dsimp only at l2s K2s l2a K2a
  simp only [ovr, List.set_cons_zero, List.set_cons_succ, e26, e27, e28, e25, e29, e30, e11, e8]
  clear hM hG hO hN hall e26 e27 e28 e25 e29 e30 e11 e8 K1a K1s HB1
  clear tZ
  go_upto_region 7 with fail
  refine region_plain [31, 32, 33, 10] (fun fZ tZ uZ => MR bs w (u2.heap.size) [(bs, [.int .u64 x0, .int .u64 x1, .int .u64 x2, .int .u64 x3, .int .u64 x4]), (ba, LN a)] [] [] uZ ∧ Gs fZ tZ [(0, 31, .int .u64 (p0 / 18446744073709551616)), (1, 32, .int .u64 ((p0 % 18446744073709551616 + 0) / 18446744073709551616)), (2, 33, .int .u64 ((p0 + 0) / 18446744073709551616)), (3, 10, .int .u64 ((p0 + 0) / 18446744073709551616))] ∧ Os fZ [(3, 0)] ∧ Ns fZ tZ [(3, 10, .int .u64 (p0 / 18446744073709551616))]) (by kernel_rfl) ?_ ?_ ?_
  · exact ⟨{ bel := HB2, lo := (Nat.le_of_lt (by omega)), sz := Nat.le_refl _, ks := ⟨⟨l2s, K2s⟩, ⟨l2a, K2a⟩, trivial⟩, ex := trivial, nw := trivial, nd := trivial }, Gs.none _ _, Os.none _, ⟨fun _ => rfl, trivial⟩⟩
  · rintro fZ tZ uZ iZ oZ aZ hF ⟨hM, hG, hO, hN⟩ ho hfi hdep
    obtain ⟨hS, hV⟩ := hF.two 65 (by decide) rfl (by decide)
    rcases cZ4 ho with rfl | rfl | rfl | rfl <;> cases ho
    · have yi10 : fZ 3 = false := Os.not (hO.1) hfi
      have ei10 : tZ 10 = .int .u64 (p0 / 18446744073709551616) := hN.1 yi10
      exact t_move ((hV 10 (by decide)).trans ei10) hF hS rfl rfl rfl rfl (by decide) (Jm hM hG hO hN)
    · exact t_move (show aZ.eval (.tmp 8) = .int .u64 ((p0 % 18446744073709551616 + 0) / 18446744073709551616) from (hF.out 8 (by decide)).trans rfl) hF hS rfl rfl rfl rfl (by decide) (Jm hM hG hO hN)
    · refine op_plain rfl rfl (fun K hK => ?_)
      refine wp_bin rfl (ve 31 hV (hG.1 (dd 0 hdep))) (ve 32 hV (hG.2.1 (dd 1 hdep))) (add_u _ _ (p0 / 18446744073709551616) ((p0 % 18446744073709551616 + 0) / 18446744073709551616) ((p0 + 0) / 18446744073709551616) uZ (by omega)) ?_
      exact tell hK hF hS (by decide) (Jm hM hG hO hN)
    · exact t_assign (ve 33 hV (hG.2.2.1 (dd 2 hdep))) hF hS rfl rfl rfl rfl (by decide) ⟨hM, Gs.stepA hG rfl rfl, ⟨fun _ => hdep ⟨0, .phase⟩ (by simp) rfl, trivial⟩, Ns.step hN rfl⟩
  rintro fZ tZ u3 ⟨hM, hG, hO, hN⟩ hall
  obtain ⟨e31, e32, e33, e10, -⟩ := Gs.all 4 hall hG rfl
  have HB3 : Below bs w u3 := hM.bel
  have sz3 : u2.heap.size ≤ u3.heap.size := hM.sz
  obtain ⟨⟨l3s, K3s⟩, ⟨l3a, K3a⟩, -⟩ := hM.ks.up hM.sz
  dsimp only at l3s K3s l3a K3a
  simp only [ovr, List.set_cons_zero, List.set_cons_succ, e31, e32, e33, e10]
  clear hM hG hO hN hall e31 e32 e33 e10 K2a K2s HB2
  clear tZ
  go_upto_region 8 with fail
  refine region_drawn [35, 36, 37, 38, 39, 40, 41, 42, 43, 34, 44, 45, 46, 47, 8] (fun fZ tZ uZ => MR bs w (u3.heap.size) [(ba, LN a)] [(bs, fZ 14, [.int .u64 x0, .int .u64 x1, .int .u64 x2, .int .u64 x3, .int .u64 x4], [.int .u64 e0, .int .u64 x1, .int .u64 x2, .int .u64 x3, .int .u64 x4])] [] uZ ∧ Gs fZ tZ [(0, 35, .pointer (some ⟨bs, 0, none⟩)), (1, 36, .int .i64 0), (2, 37, .pointer (some ⟨bs, 0, none⟩)), (3, 38, .int .i64 0), (4, 39, .pointer (some ⟨bs, 0, none⟩)), (5, 40, .pointer (some ⟨bs, 0, none⟩)), (6, 41, .int .u64 x0), (7, 42, .int .u64 ((p0 + 0) % 18446744073709551616)), (8, 43, .tuple #[.int .u64 e0, .int .u64 ((x0 + (p0 + 0) % 18446744073709551616) / 18446744073709551616)]), (9, 34, .tuple #[.int .u64 e0, .int .u64 ((x0 + (p0 + 0) % 18446744073709551616) / 18446744073709551616)]), (10, 44, .int .u64 e0), (11, 45, .int .u64 ((x0 + (p0 + 0) % 18446744073709551616) / 18446744073709551616)), (12, 46, .pointer (some ⟨bs, 0, none⟩)), (13, 47, .pointer (some ⟨bs, 0, none⟩)), (15, 8, .int .u64 ((x0 + (p0 + 0) % 18446744073709551616) / 18446744073709551616))] ∧ Os fZ [(14, 6)] ∧ Ns fZ tZ []) (by kernel_rfl) (by kernel_rfl) ?_ ?_ ?_
  · exact ⟨{ bel := HB3.drew, lo := (Nat.le_of_lt (by omega)), sz := Nat.le_refl _, ks := ⟨⟨l3a, K3a⟩, trivial⟩, ex := ⟨⟨(Nat.le_refl _), l3s, rfl, K3s⟩, trivial⟩, nw := trivial, nd := trivial }, Gs.none _ _, Os.none _, trivial⟩
  · rintro fZ tZ uZ iZ oZ aZ hF ⟨hM, hG, hO, hN⟩ ho hfi hdep
    obtain ⟨hS, hV⟩ := hF.two 65 (by decide) rfl (by decide)
    rcases cZ16 ho with rfl | rfl | rfl | rfl | rfl | rfl | rfl | rfl | rfl | rfl | rfl | rfl | rfl | rfl | rfl | rfl <;> cases ho
    · exact t_move (show aZ.eval (.tmp 0) = .pointer (some ⟨bs, 0, none⟩) from (hF.out 0 (by decide)).trans rfl) hF hS rfl rfl rfl rfl (by decide) (Jm hM hG hO hN)
    · exact t_move (show aZ.eval (.tmp 9) = .int .i64 0 from (hF.out 9 (by decide)).trans rfl) hF hS rfl rfl rfl rfl (by decide) (Jm hM hG hO hN)
    · exact t_move (show aZ.eval (.tmp 0) = .pointer (some ⟨bs, 0, none⟩) from (hF.out 0 (by decide)).trans rfl) hF hS rfl rfl rfl rfl (by decide) (Jm hM hG hO hN)
    · exact t_move (show aZ.eval (.tmp 9) = .int .i64 0 from (hF.out 9 (by decide)).trans rfl) hF hS rfl rfl rfl rfl (by decide) (Jm hM hG hO hN)
    · refine op_plain rfl rfl (fun K hK => ?_)
      refine wp_nil rfl (ve 37 hV (hG.2.2.1 (dd 2 hdep))) ?_
      exact tell hK hF hS (by decide) (Jm hM hG hO hN)
    · refine op_plain rfl rfl (fun K hK => ?_)
      refine wp_index rfl (ve 39 hV (hG.2.2.2.2.1 (dd 4 hdep))) (ve 38 hV (hG.2.2.2.1 (dd 3 hdep))) (ix_five uZ (bs) 0 (by omega)) ?_
      exact tell hK hF hS (by decide) (Jm hM hG hO hN)
    · refine op_plain rfl rfl (fun K hK => ?_)
      have ys : fZ 14 = false := Os.not (hO.1) hfi
      have kk : CV uZ (bs) (bif fZ 14 then [.int .u64 e0, .int .u64 x1, .int .u64 x2, .int .u64 x3, .int .u64 x4] else [.int .u64 x0, .int .u64 x1, .int .u64 x2, .int .u64 x3, .int .u64 x4]) := hM.ex.1.2.2.2
      rw [ys] at kk
      have kk : CV uZ (bs) ([.int .u64 x0, .int .u64 x1, .int .u64 x2, .int .u64 x3, .int .u64 x4]) := kk
      have kc := (kk 0 _ (rfl)).1
      refine wp_load rfl (ve 40 hV (hG.2.2.2.2.2.1 (dd 5 hdep))) (ld_u64 uZ (bs) 0 _ kc) ?_
      exact tell hK hF hS (by decide) (Jm hM hG hO hN)
    · exact t_move (show aZ.eval (.tmp 11) = .int .u64 ((p0 + 0) % 18446744073709551616) from (hF.out 11 (by decide)).trans rfl) hF hS rfl rfl rfl rfl (by decide) (Jm hM hG hO hN)
    · refine op_plain rfl rfl (fun K hK => ?_)
      refine wp_callE rfl (vs := [.int .u64 x0, .int .u64 ((p0 + 0) % 18446744073709551616), (Go.Value.int Go.IntKind.u64 0)]) (by show [aZ.eval (.tmp 41), aZ.eval (.tmp 42), (Go.Value.int Go.IntKind.u64 0)] = _; rw [(ve 41 hV (hG.2.2.2.2.2.2.1 (dd 6 hdep))), (ve 42 hV (hG.2.2.2.2.2.2.2.1 (dd 7 hdep)))]) (add64_to x0 ((p0 + 0) % 18446744073709551616) e0 ((x0 + (p0 + 0) % 18446744073709551616) / 18446744073709551616) (by omega) (by omega) uZ (by omega) rfl) ?_
      exact tell hK hF hS (by decide) (Jm hM hG hO hN)
    · exact t_move (ve 43 hV (hG.2.2.2.2.2.2.2.2.1 (dd 8 hdep))) hF hS rfl rfl rfl rfl (by decide) (Jm hM hG hO hN)
    · exact t_extract (ve 34 hV (hG.2.2.2.2.2.2.2.2.2.1 (dd 9 hdep))) hF hS rfl rfl rfl rfl rfl (by decide) (Jm hM hG hO hN)
    · exact t_extract (ve 34 hV (hG.2.2.2.2.2.2.2.2.2.1 (dd 9 hdep))) hF hS rfl rfl rfl rfl rfl (by decide) (Jm hM hG hO hN)
    · refine op_plain rfl rfl (fun K hK => ?_)
      refine wp_nil rfl (ve 35 hV (hG.1 (dd 0 hdep))) ?_
      exact tell hK hF hS (by decide) (Jm hM hG hO hN)
    · refine op_plain rfl rfl (fun K hK => ?_)
      refine wp_index rfl (ve 46 hV (hG.2.2.2.2.2.2.2.2.2.2.2.2.1 (dd 12 hdep))) (ve 36 hV (hG.2.1 (dd 1 hdep))) (ix_five uZ (bs) 0 (by omega)) ?_
      exact tell hK hF hS (by decide) (Jm hM hG hO hN)
    · refine op_plain rfl rfl (fun K hK => ?_)
      have kk : CV uZ (bs) (bif fZ 14 then [.int .u64 e0, .int .u64 x1, .int .u64 x2, .int .u64 x3, .int .u64 x4] else [.int .u64 x0, .int .u64 x1, .int .u64 x2, .int .u64 x3, .int .u64 x4]) := hM.ex.1.2.2.2
      rw [hfi] at kk
      have kk : CV uZ (bs) ([.int .u64 x0, .int .u64 x1, .int .u64 x2, .int .u64 x3, .int .u64 x4]) := kk
      refine wp_store rfl (ve 47 hV (hG.2.2.2.2.2.2.2.2.2.2.2.2.2.1 (dd 13 hdep))) (ve 44 hV (hG.2.2.2.2.2.2.2.2.2.2.1 (dd 10 hdep))) (st_u64 uZ (bs) 0 _ _ (kk 0 _ rfl).1 (kk 0 _ rfl).2) ?_
      exact tell0 hK hF ⟨MR.putCF (k := 0) (x := .int .u64 e0) 0 hM rfl hfi (show 0 < 5 by decide) rfl kk ⟨by omega, trivial⟩ trivial, Gs.idle rfl hG, ⟨fun _ => hdep ⟨6, .phase⟩ (by simp) rfl, trivial⟩, Ns.idle hN⟩
    · exact t_assign (ve 45 hV (hG.2.2.2.2.2.2.2.2.2.2.2.1 (dd 11 hdep))) hF hS rfl rfl rfl rfl (by decide) (Jm hM hG hO hN)
  rintro fZ tZ u4 ⟨hM, hG, hO, hN⟩ hall
  obtain ⟨e35, e36, e37, e38, e39, e40, e41, e42, e43, e34, e44, e45, e46, e47, e8, -⟩ := Gs.all 16 hall hG rfl
  have HB4 : Below bs w u4 := hM.bel
  have sz4 : u3.heap.size ≤ u4.heap.size := hM.sz
  obtain ⟨⟨l4a, K4a⟩, -⟩ := hM.ks.up hM.sz
  dsimp only at l4a K4a
  have K4s : CV u4 (bs) ([.int .u64 e0, .int .u64 x1, .int .u64 x2, .int .u64 x3, .int .u64 x4]) := by
    have h1 : CV u4 (bs) (bif fZ 14 then [.int .u64 e0, .int .u64 x1, .int .u64 x2, .int .u64 x3, .int .u64 x4] else [.int .u64 x0, .int .u64 x1, .int .u64 x2, .int .u64 x3, .int .u64 x4]) := hM.ex.1.2.2.2
    rw [hall 14 (by decide)] at h1; exact h1
  have l4s : bs < u4.heap.size := Nat.lt_of_lt_of_le hM.ex.1.2.1 hM.sz
  simp only [ovr, List.set_cons_zero, List.set_cons_succ, e35, e36, e37, e38, e39, e40, e41, e42, e43, e34, e44, e45, e46, e47, e8]
  clear hM hG hO hN hall e35 e36 e37 e38 e39 e40 e41 e42 e43 e34 e44 e45 e46 e47 e8 K3a K3s HB3
  clear tZ
  go_upto_region 9 with fail
  refine region_plain [48, 49, 50, 7] (fun fZ tZ uZ => MR bs w (u4.heap.size) [(bs, [.int .u64 e0, .int .u64 x1, .int .u64 x2, .int .u64 x3, .int .u64 x4]), (ba, LN a)] [] [] uZ ∧ Gs fZ tZ [(0, 48, .int .u64 ((p0 + 0) / 18446744073709551616)), (1, 49, .int .u64 ((x0 + (p0 + 0) % 18446744073709551616) / 18446744073709551616)), (2, 50, .int .u64 o1), (3, 7, .int .u64 o1)] ∧ Os fZ [] ∧ Ns fZ tZ []) (by kernel_rfl) ?_ ?_ ?_
  · exact ⟨{ bel := HB4, lo := (Nat.le_of_lt (by omega)), sz := Nat.le_refl _, ks := ⟨⟨l4s, K4s⟩, ⟨l4a, K4a⟩, trivial⟩, ex := trivial, nw := trivial, nd := trivial }, Gs.none _ _, Os.none _, trivial⟩
  · rintro fZ tZ uZ iZ oZ aZ hF ⟨hM, hG, hO, hN⟩ ho hfi hdep
    obtain ⟨hS, hV⟩ := hF.two 65 (by decide) rfl (by decide)
    rcases cZ4 ho with rfl | rfl | rfl | rfl <;> cases ho
    · exact t_move (show aZ.eval (.tmp 10) = .int .u64 ((p0 + 0) / 18446744073709551616) from (hF.out 10 (by decide)).trans rfl) hF hS rfl rfl rfl rfl (by decide) (Jt hM hG hN)
    · exact t_move (show aZ.eval (.tmp 8) = .int .u64 ((x0 + (p0 + 0) % 18446744073709551616) / 18446744073709551616) from (hF.out 8 (by decide)).trans rfl) hF hS rfl rfl rfl rfl (by decide) (Jt hM hG hN)
    · refine op_plain rfl rfl (fun K hK => ?_)
      refine wp_bin rfl (ve 48 hV (hG.1 (dd 0 hdep))) (ve 49 hV (hG.2.1 (dd 1 hdep))) (add_u _ _ ((p0 + 0) / 18446744073709551616) ((x0 + (p0 + 0) % 18446744073709551616) / 18446744073709551616) o1 uZ (by omega)) ?_
      exact tell hK hF hS (by decide) (Jt hM hG hN)
    · exact t_assign (ve 50 hV (hG.2.2.1 (dd 2 hdep))) hF hS rfl rfl rfl rfl (by decide) (Jt hM hG hN)
  rintro fZ tZ u5 ⟨hM, hG, hO, hN⟩ hall
  obtain ⟨e48, e49, e50, e7, -⟩ := Gs.all 4 hall hG rfl
  have HB5 : Below bs w u5 := hM.bel
  have sz5 : u4.heap.size ≤ u5.heap.size := hM.sz
  obtain ⟨⟨l5s, K5s⟩, ⟨l5a, K5a⟩, -⟩ := hM.ks.up hM.sz
  dsimp only at l5s K5s l5a K5a
  simp only [ovr, List.set_cons_zero, List.set_cons_succ, e48, e49, e50, e7]
  clear hM hG hO hN hall e48 e49 e50 e7 K4a K4s HB4
  clear tZ
  go_wp2
  rw [rounds_succ]
  go_upto_region 5 with fail
  refine region_plain [16, 17, 18, 19, 20, 21, 22, 15, 23, 24, 10, 11] (fun fZ tZ uZ => MR bs w (u5.heap.size) [(bs, [.int .u64 e0, .int .u64 x1, .int .u64 x2, .int .u64 x3, .int .u64 x4]), (ba, LN a)] [] [] uZ ∧ Gs fZ tZ [(0, 16, .pointer (some ⟨ba, 0, none⟩)), (1, 17, .int .i64 1), (2, 18, .pointer (some ⟨ba, 0, none⟩)), (3, 19, .pointer (some ⟨ba, 1, none⟩)), (4, 20, .int .u64 (D1 (a))), (5, 21, .int .u64 n), (6, 22, .tuple #[.int .u64 (p1 / 18446744073709551616), .int .u64 (p1 % 18446744073709551616)]), (7, 15, .tuple #[.int .u64 (p1 / 18446744073709551616), .int .u64 (p1 % 18446744073709551616)]), (8, 23, .int .u64 (p1 / 18446744073709551616)), (9, 24, .int .u64 (p1 % 18446744073709551616)), (10, 10, .int .u64 (p1 / 18446744073709551616)), (11, 11, .int .u64 (p1 % 18446744073709551616))] ∧ Os fZ [] ∧ Ns fZ tZ []) (by kernel_rfl) ?_ ?_ ?_
  · exact ⟨{ bel := HB5, lo := (Nat.le_of_lt (by omega)), sz := Nat.le_refl _, ks := ⟨⟨l5s, K5s⟩, ⟨l5a, K5a⟩, trivial⟩, ex := trivial, nw := trivial, nd := trivial }, Gs.none _ _, Os.none _, trivial⟩
  · rintro fZ tZ uZ iZ oZ aZ hF ⟨hM, hG, hO, hN⟩ ho hfi hdep
    obtain ⟨hS, hV⟩ := hF.two 65 (by decide) rfl (by decide)
    rcases cZ12 ho with rfl | rfl | rfl | rfl | rfl | rfl | rfl | rfl | rfl | rfl | rfl | rfl <;> cases ho
    · exact t_move (show aZ.eval (.tmp 1) = .pointer (some ⟨ba, 0, none⟩) from (hF.out 1 (by decide)).trans rfl) hF hS rfl rfl rfl rfl (by decide) (Jt hM hG hN)
    · exact t_move (show aZ.eval (.tmp 9) = .int .i64 1 from (hF.out 9 (by decide)).trans rfl) hF hS rfl rfl rfl rfl (by decide) (Jt hM hG hN)
    · refine op_plain rfl rfl (fun K hK => ?_)
      refine wp_nil rfl (ve 16 hV (hG.1 (dd 0 hdep))) ?_
      exact tell hK hF hS (by decide) (Jt hM hG hN)
    · refine op_plain rfl rfl (fun K hK => ?_)
      refine wp_index rfl (ve 18 hV (hG.2.2.1 (dd 2 hdep))) (ve 17 hV (hG.2.1 (dd 1 hdep))) (ix_nat uZ (ba) 1 (by omega)) ?_
      exact tell hK hF hS (by decide) (Jt hM hG hN)
    · refine op_plain rfl rfl (fun K hK => ?_)
      have kk : CV uZ (ba) (LN a) := hM.ks.2.1.2
      have kc := (kk 1 _ (rfl)).1
      refine wp_load rfl (ve 19 hV (hG.2.2.2.1 (dd 3 hdep))) (ld_u64 uZ (ba) 1 _ kc) ?_
      exact tell hK hF hS (by decide) (Jt hM hG hN)
    · exact t_move (show aZ.eval (.tmp 2) = .int .u64 n from (hF.out 2 (by decide)).trans rfl) hF hS rfl rfl rfl rfl (by decide) (Jt hM hG hN)
    · exact t_call (vs := [.int .u64 (D1 (a)), .int .u64 n]) (by show [aZ.eval (.tmp 20), aZ.eval (.tmp 21)] = _; rw [(ve 20 hV (hG.2.2.2.2.1 (dd 4 hdep))), (ve 21 hV (hG.2.2.2.2.2.1 (dd 5 hdep)))]) ent_math_bits_Mul64 (mul64_B (D1 a) n p1 (W_D1 a) hn Hp1.out uZ) hF hS rfl rfl rfl rfl (by decide) (fun _ hB => (Jt (hM.call hB) hG hN))
    · exact t_move (ve 22 hV (hG.2.2.2.2.2.2.1 (dd 6 hdep))) hF hS rfl rfl rfl rfl (by decide) (Jt hM hG hN)
    · exact t_extract (ve 15 hV (hG.2.2.2.2.2.2.2.1 (dd 7 hdep))) hF hS rfl rfl rfl rfl rfl (by decide) (Jt hM hG hN)
    · exact t_extract (ve 15 hV (hG.2.2.2.2.2.2.2.1 (dd 7 hdep))) hF hS rfl rfl rfl rfl rfl (by decide) (Jt hM hG hN)
    · exact t_assign (ve 23 hV (hG.2.2.2.2.2.2.2.2.1 (dd 8 hdep))) hF hS rfl rfl rfl rfl (by decide) (Jt hM hG hN)
    · exact t_assign (ve 24 hV (hG.2.2.2.2.2.2.2.2.2.1 (dd 9 hdep))) hF hS rfl rfl rfl rfl (by decide) (Jt hM hG hN)
  rintro fZ tZ u6 ⟨hM, hG, hO, hN⟩ hall
  obtain ⟨e16, e17, e18, e19, e20, e21, e22, e15, e23, e24, e10, e11, -⟩ := Gs.all 12 hall hG rfl
  have HB6 : Below bs w u6 := hM.bel
  have sz6 : u5.heap.size ≤ u6.heap.size := hM.sz
  obtain ⟨⟨l6s, K6s⟩, ⟨l6a, K6a⟩, -⟩ := hM.ks.up hM.sz
  dsimp only at l6s K6s l6a K6a
  simp only [ovr, List.set_cons_zero, List.set_cons_succ, e16, e17, e18, e19, e20, e21, e22, e15, e23, e24, e10, e11]
  clear hM hG hO hN hall e16 e17 e18 e19 e20 e21 e22 e15 e23 e24 e10 e11 K5a K5s HB5
  clear tZ
  go_upto_region 6 with fail
  refine region_plain [26, 27, 28, 25, 29, 30, 11, 8] (fun fZ tZ uZ => MR bs w (u6.heap.size) [(bs, [.int .u64 e0, .int .u64 x1, .int .u64 x2, .int .u64 x3, .int .u64 x4]), (ba, LN a)] [] [] uZ ∧ Gs fZ tZ [(0, 26, .int .u64 (p1 % 18446744073709551616)), (1, 27, .int .u64 o1), (2, 28, .tuple #[.int .u64 ((p1 + o1) % 18446744073709551616), .int .u64 ((p1 % 18446744073709551616 + o1) / 18446744073709551616)]), (3, 25, .tuple #[.int .u64 ((p1 + o1) % 18446744073709551616), .int .u64 ((p1 % 18446744073709551616 + o1) / 18446744073709551616)]), (4, 29, .int .u64 ((p1 + o1) % 18446744073709551616)), (5, 30, .int .u64 ((p1 % 18446744073709551616 + o1) / 18446744073709551616)), (6, 11, .int .u64 ((p1 + o1) % 18446744073709551616)), (7, 8, .int .u64 ((p1 % 18446744073709551616 + o1) / 18446744073709551616))] ∧ Os fZ [(6, 0)] ∧ Ns fZ tZ [(6, 11, .int .u64 (p1 % 18446744073709551616))]) (by kernel_rfl) ?_ ?_ ?_
  · exact ⟨{ bel := HB6, lo := (Nat.le_of_lt (by omega)), sz := Nat.le_refl _, ks := ⟨⟨l6s, K6s⟩, ⟨l6a, K6a⟩, trivial⟩, ex := trivial, nw := trivial, nd := trivial }, Gs.none _ _, Os.none _, ⟨fun _ => rfl, trivial⟩⟩
  · rintro fZ tZ uZ iZ oZ aZ hF ⟨hM, hG, hO, hN⟩ ho hfi hdep
    obtain ⟨hS, hV⟩ := hF.two 65 (by decide) rfl (by decide)
    rcases cZ8 ho with rfl | rfl | rfl | rfl | rfl | rfl | rfl | rfl <;> cases ho
    · have yi11 : fZ 6 = false := Os.not (hO.1) hfi
      have ei11 : tZ 11 = .int .u64 (p1 % 18446744073709551616) := hN.1 yi11
      exact t_move ((hV 11 (by decide)).trans ei11) hF hS rfl rfl rfl rfl (by decide) (Jm hM hG hO hN)
    · exact t_move (show aZ.eval (.tmp 7) = .int .u64 o1 from (hF.out 7 (by decide)).trans rfl) hF hS rfl rfl rfl rfl (by decide) (Jm hM hG hO hN)
    · refine op_plain rfl rfl (fun K hK => ?_)
      refine wp_callE rfl (vs := [.int .u64 (p1 % 18446744073709551616), .int .u64 o1, (Go.Value.int Go.IntKind.u64 0)]) (by show [aZ.eval (.tmp 26), aZ.eval (.tmp 27), (Go.Value.int Go.IntKind.u64 0)] = _; rw [(ve 26 hV (hG.1 (dd 0 hdep))), (ve 27 hV (hG.2.1 (dd 1 hdep)))]) (add64_to (p1 % 18446744073709551616) o1 ((p1 + o1) % 18446744073709551616) ((p1 % 18446744073709551616 + o1) / 18446744073709551616) (by omega) (by omega) uZ (by omega) rfl) ?_
      exact tell hK hF hS (by decide) (Jm hM hG hO hN)
    · exact t_move (ve 28 hV (hG.2.2.1 (dd 2 hdep))) hF hS rfl rfl rfl rfl (by decide) (Jm hM hG hO hN)
    · exact t_extract (ve 25 hV (hG.2.2.2.1 (dd 3 hdep))) hF hS rfl rfl rfl rfl rfl (by decide) (Jm hM hG hO hN)
    · exact t_extract (ve 25 hV (hG.2.2.2.1 (dd 3 hdep))) hF hS rfl rfl rfl rfl rfl (by decide) (Jm hM hG hO hN)
    · exact t_assign (ve 29 hV (hG.2.2.2.2.1 (dd 4 hdep))) hF hS rfl rfl rfl rfl (by decide) ⟨hM, Gs.stepA hG rfl rfl, ⟨fun _ => hdep ⟨0, .phase⟩ (by simp) rfl, trivial⟩, Ns.step hN rfl⟩
    · exact t_assign (ve 30 hV (hG.2.2.2.2.2.1 (dd 5 hdep))) hF hS rfl rfl rfl rfl (by decide) (Jm hM hG hO hN)
  rintro fZ tZ u7 ⟨hM, hG, hO, hN⟩ hall
  obtain ⟨e26, e27, e28, e25, e29, e30, e11, e8, -⟩ := Gs.all 8 hall hG rfl
  have HB7 : Below bs w u7 := hM.bel
  have sz7 : u6.heap.size ≤ u7.heap.size := hM.sz
  obtain ⟨⟨l7s, K7s⟩, ⟨l7a, K7a⟩, -⟩ := hM.ks.up hM.sz
  dsimp only at l7s K7s l7a K7a
  simp only [ovr, List.set_cons_zero, List.set_cons_succ, e26, e27, e28, e25, e29, e30, e11, e8]
  clear hM hG hO hN hall e26 e27 e28 e25 e29 e30 e11 e8 K6a K6s HB6
  clear tZ
  go_upto_region 7 with fail
  refine region_plain [31, 32, 33, 10] (fun fZ tZ uZ => MR bs w (u7.heap.size) [(bs, [.int .u64 e0, .int .u64 x1, .int .u64 x2, .int .u64 x3, .int .u64 x4]), (ba, LN a)] [] [] uZ ∧ Gs fZ tZ [(0, 31, .int .u64 (p1 / 18446744073709551616)), (1, 32, .int .u64 ((p1 % 18446744073709551616 + o1) / 18446744073709551616)), (2, 33, .int .u64 ((p1 + o1) / 18446744073709551616)), (3, 10, .int .u64 ((p1 + o1) / 18446744073709551616))] ∧ Os fZ [(3, 0)] ∧ Ns fZ tZ [(3, 10, .int .u64 (p1 / 18446744073709551616))]) (by kernel_rfl) ?_ ?_ ?_
  · exact ⟨{ bel := HB7, lo := (Nat.le_of_lt (by omega)), sz := Nat.le_refl _, ks := ⟨⟨l7s, K7s⟩, ⟨l7a, K7a⟩, trivial⟩, ex := trivial, nw := trivial, nd := trivial }, Gs.none _ _, Os.none _, ⟨fun _ => rfl, trivial⟩⟩
  · rintro fZ tZ uZ iZ oZ aZ hF ⟨hM, hG, hO, hN⟩ ho hfi hdep
    obtain ⟨hS, hV⟩ := hF.two 65 (by decide) rfl (by decide)
    rcases cZ4 ho with rfl | rfl | rfl | rfl <;> cases ho
    · have yi10 : fZ 3 = false := Os.not (hO.1) hfi
      have ei10 : tZ 10 = .int .u64 (p1 / 18446744073709551616) := hN.1 yi10
      exact t_move ((hV 10 (by decide)).trans ei10) hF hS rfl rfl rfl rfl (by decide) (Jm hM hG hO hN)
    · exact t_move (show aZ.eval (.tmp 8) = .int .u64 ((p1 % 18446744073709551616 + o1) / 18446744073709551616) from (hF.out 8 (by decide)).trans rfl) hF hS rfl rfl rfl rfl (by decide) (Jm hM hG hO hN)
    · refine op_plain rfl rfl (fun K hK => ?_)
      refine wp_bin rfl (ve 31 hV (hG.1 (dd 0 hdep))) (ve 32 hV (hG.2.1 (dd 1 hdep))) (add_u _ _ (p1 / 18446744073709551616) ((p1 % 18446744073709551616 + o1) / 18446744073709551616) ((p1 + o1) / 18446744073709551616) uZ (by omega)) ?_
      exact tell hK hF hS (by decide) (Jm hM hG hO hN)
    · exact t_assign (ve 33 hV (hG.2.2.1 (dd 2 hdep))) hF hS rfl rfl rfl rfl (by decide) ⟨hM, Gs.stepA hG rfl rfl, ⟨fun _ => hdep ⟨0, .phase⟩ (by simp) rfl, trivial⟩, Ns.step hN rfl⟩
  rintro fZ tZ u8 ⟨hM, hG, hO, hN⟩ hall
  obtain ⟨e31, e32, e33, e10, -⟩ := Gs.all 4 hall hG rfl
  have HB8 : Below bs w u8 := hM.bel
  have sz8 : u7.heap.size ≤ u8.heap.size := hM.sz
  obtain ⟨⟨l8s, K8s⟩, ⟨l8a, K8a⟩, -⟩ := hM.ks.up hM.sz
  dsimp only at l8s K8s l8a K8a
  simp only [ovr, List.set_cons_zero, List.set_cons_succ, e31, e32, e33, e10]
  clear hM hG hO hN hall e31 e32 e33 e10 K7a K7s HB7
  clear tZ
  go_upto_region 8 with fail
  refine region_drawn [35, 36, 37, 38, 39, 40, 41, 42, 43, 34, 44, 45, 46, 47, 8] (fun fZ tZ uZ => MR bs w (u8.heap.size) [(ba, LN a)] [(bs, fZ 14, [.int .u64 e0, .int .u64 x1, .int .u64 x2, .int .u64 x3, .int .u64 x4], [.int .u64 e0, .int .u64 e1, .int .u64 x2, .int .u64 x3, .int .u64 x4])] [] uZ ∧ Gs fZ tZ [(0, 35, .pointer (some ⟨bs, 0, none⟩)), (1, 36, .int .i64 1), (2, 37, .pointer (some ⟨bs, 0, none⟩)), (3, 38, .int .i64 1), (4, 39, .pointer (some ⟨bs, 0, none⟩)), (5, 40, .pointer (some ⟨bs, 1, none⟩)), (6, 41, .int .u64 x1), (7, 42, .int .u64 ((p1 + o1) % 18446744073709551616)), (8, 43, .tuple #[.int .u64 e1, .int .u64 ((x1 + (p1 + o1) % 18446744073709551616) / 18446744073709551616)]), (9, 34, .tuple #[.int .u64 e1, .int .u64 ((x1 + (p1 + o1) % 18446744073709551616) / 18446744073709551616)]), (10, 44, .int .u64 e1), (11, 45, .int .u64 ((x1 + (p1 + o1) % 18446744073709551616) / 18446744073709551616)), (12, 46, .pointer (some ⟨bs, 0, none⟩)), (13, 47, .pointer (some ⟨bs, 1, none⟩)), (15, 8, .int .u64 ((x1 + (p1 + o1) % 18446744073709551616) / 18446744073709551616))] ∧ Os fZ [(14, 6)] ∧ Ns fZ tZ []) (by kernel_rfl) (by kernel_rfl) ?_ ?_ ?_
  · exact ⟨{ bel := HB8.drew, lo := (Nat.le_of_lt (by omega)), sz := Nat.le_refl _, ks := ⟨⟨l8a, K8a⟩, trivial⟩, ex := ⟨⟨(Nat.le_refl _), l8s, rfl, K8s⟩, trivial⟩, nw := trivial, nd := trivial }, Gs.none _ _, Os.none _, trivial⟩
  · rintro fZ tZ uZ iZ oZ aZ hF ⟨hM, hG, hO, hN⟩ ho hfi hdep
    obtain ⟨hS, hV⟩ := hF.two 65 (by decide) rfl (by decide)
    rcases cZ16 ho with rfl | rfl | rfl | rfl | rfl | rfl | rfl | rfl | rfl | rfl | rfl | rfl | rfl | rfl | rfl | rfl <;> cases ho
    · exact t_move (show aZ.eval (.tmp 0) = .pointer (some ⟨bs, 0, none⟩) from (hF.out 0 (by decide)).trans rfl) hF hS rfl rfl rfl rfl (by decide) (Jm hM hG hO hN)
    · exact t_move (show aZ.eval (.tmp 9) = .int .i64 1 from (hF.out 9 (by decide)).trans rfl) hF hS rfl rfl rfl rfl (by decide) (Jm hM hG hO hN)
    · exact t_move (show aZ.eval (.tmp 0) = .pointer (some ⟨bs, 0, none⟩) from (hF.out 0 (by decide)).trans rfl) hF hS rfl rfl rfl rfl (by decide) (Jm hM hG hO hN)
    · exact t_move (show aZ.eval (.tmp 9) = .int .i64 1 from (hF.out 9 (by decide)).trans rfl) hF hS rfl rfl rfl rfl (by decide) (Jm hM hG hO hN)
    · refine op_plain rfl rfl (fun K hK => ?_)
      refine wp_nil rfl (ve 37 hV (hG.2.2.1 (dd 2 hdep))) ?_
      exact tell hK hF hS (by decide) (Jm hM hG hO hN)
    · refine op_plain rfl rfl (fun K hK => ?_)
      refine wp_index rfl (ve 39 hV (hG.2.2.2.2.1 (dd 4 hdep))) (ve 38 hV (hG.2.2.2.1 (dd 3 hdep))) (ix_five uZ (bs) 1 (by omega)) ?_
      exact tell hK hF hS (by decide) (Jm hM hG hO hN)
    · refine op_plain rfl rfl (fun K hK => ?_)
      have ys : fZ 14 = false := Os.not (hO.1) hfi
      have kk : CV uZ (bs) (bif fZ 14 then [.int .u64 e0, .int .u64 e1, .int .u64 x2, .int .u64 x3, .int .u64 x4] else [.int .u64 e0, .int .u64 x1, .int .u64 x2, .int .u64 x3, .int .u64 x4]) := hM.ex.1.2.2.2
      rw [ys] at kk
      have kk : CV uZ (bs) ([.int .u64 e0, .int .u64 x1, .int .u64 x2, .int .u64 x3, .int .u64 x4]) := kk
      have kc := (kk 1 _ (rfl)).1
      refine wp_load rfl (ve 40 hV (hG.2.2.2.2.2.1 (dd 5 hdep))) (ld_u64 uZ (bs) 1 _ kc) ?_
      exact tell hK hF hS (by decide) (Jm hM hG hO hN)
    · exact t_move (show aZ.eval (.tmp 11) = .int .u64 ((p1 + o1) % 18446744073709551616) from (hF.out 11 (by decide)).trans rfl) hF hS rfl rfl rfl rfl (by decide) (Jm hM hG hO hN)
    · refine op_plain rfl rfl (fun K hK => ?_)
      refine wp_callE rfl (vs := [.int .u64 x1, .int .u64 ((p1 + o1) % 18446744073709551616), (Go.Value.int Go.IntKind.u64 0)]) (by show [aZ.eval (.tmp 41), aZ.eval (.tmp 42), (Go.Value.int Go.IntKind.u64 0)] = _; rw [(ve 41 hV (hG.2.2.2.2.2.2.1 (dd 6 hdep))), (ve 42 hV (hG.2.2.2.2.2.2.2.1 (dd 7 hdep)))]) (add64_to x1 ((p1 + o1) % 18446744073709551616) e1 ((x1 + (p1 + o1) % 18446744073709551616) / 18446744073709551616) (by omega) (by omega) uZ (by omega) rfl) ?_
      exact tell hK hF hS (by decide) (Jm hM hG hO hN)
    · exact t_move (ve 43 hV (hG.2.2.2.2.2.2.2.2.1 (dd 8 hdep))) hF hS rfl rfl rfl rfl (by decide) (Jm hM hG hO hN)
    · exact t_extract (ve 34 hV (hG.2.2.2.2.2.2.2.2.2.1 (dd 9 hdep))) hF hS rfl rfl rfl rfl rfl (by decide) (Jm hM hG hO hN)
    · exact t_extract (ve 34 hV (hG.2.2.2.2.2.2.2.2.2.1 (dd 9 hdep))) hF hS rfl rfl rfl rfl rfl (by decide) (Jm hM hG hO hN)
    · refine op_plain rfl rfl (fun K hK => ?_)
      refine wp_nil rfl (ve 35 hV (hG.1 (dd 0 hdep))) ?_
      exact tell hK hF hS (by decide) (Jm hM hG hO hN)
    · refine op_plain rfl rfl (fun K hK => ?_)
      refine wp_index rfl (ve 46 hV (hG.2.2.2.2.2.2.2.2.2.2.2.2.1 (dd 12 hdep))) (ve 36 hV (hG.2.1 (dd 1 hdep))) (ix_five uZ (bs) 1 (by omega)) ?_
      exact tell hK hF hS (by decide) (Jm hM hG hO hN)
    · refine op_plain rfl rfl (fun K hK => ?_)
      have kk : CV uZ (bs) (bif fZ 14 then [.int .u64 e0, .int .u64 e1, .int .u64 x2, .int .u64 x3, .int .u64 x4] else [.int .u64 e0, .int .u64 x1, .int .u64 x2, .int .u64 x3, .int .u64 x4]) := hM.ex.1.2.2.2
      rw [hfi] at kk
      have kk : CV uZ (bs) ([.int .u64 e0, .int .u64 x1, .int .u64 x2, .int .u64 x3, .int .u64 x4]) := kk
      refine wp_store rfl (ve 47 hV (hG.2.2.2.2.2.2.2.2.2.2.2.2.2.1 (dd 13 hdep))) (ve 44 hV (hG.2.2.2.2.2.2.2.2.2.2.1 (dd 10 hdep))) (st_u64 uZ (bs) 1 _ _ (kk 1 _ rfl).1 (kk 1 _ rfl).2) ?_
      exact tell0 hK hF ⟨MR.putCF (k := 1) (x := .int .u64 e1) 0 hM rfl hfi (show 1 < 5 by decide) rfl kk ⟨by omega, trivial⟩ trivial, Gs.idle rfl hG, ⟨fun _ => hdep ⟨6, .phase⟩ (by simp) rfl, trivial⟩, Ns.idle hN⟩
    · exact t_assign (ve 45 hV (hG.2.2.2.2.2.2.2.2.2.2.2.1 (dd 11 hdep))) hF hS rfl rfl rfl rfl (by decide) (Jm hM hG hO hN)
  rintro fZ tZ u9 ⟨hM, hG, hO, hN⟩ hall
  obtain ⟨e35, e36, e37, e38, e39, e40, e41, e42, e43, e34, e44, e45, e46, e47, e8, -⟩ := Gs.all 16 hall hG rfl
  have HB9 : Below bs w u9 := hM.bel
  have sz9 : u8.heap.size ≤ u9.heap.size := hM.sz
  obtain ⟨⟨l9a, K9a⟩, -⟩ := hM.ks.up hM.sz
  dsimp only at l9a K9a
  have K9s : CV u9 (bs) ([.int .u64 e0, .int .u64 e1, .int .u64 x2, .int .u64 x3, .int .u64 x4]) := by
    have h1 : CV u9 (bs) (bif fZ 14 then [.int .u64 e0, .int .u64 e1, .int .u64 x2, .int .u64 x3, .int .u64 x4] else [.int .u64 e0, .int .u64 x1, .int .u64 x2, .int .u64 x3, .int .u64 x4]) := hM.ex.1.2.2.2
    rw [hall 14 (by decide)] at h1; exact h1
  have l9s : bs < u9.heap.size := Nat.lt_of_lt_of_le hM.ex.1.2.1 hM.sz
  simp only [ovr, List.set_cons_zero, List.set_cons_succ, e35, e36, e37, e38, e39, e40, e41, e42, e43, e34, e44, e45, e46, e47, e8]
  clear hM hG hO hN hall e35 e36 e37 e38 e39 e40 e41 e42 e43 e34 e44 e45 e46 e47 e8 K8a K8s HB8
  clear tZ
  go_upto_region 9 with fail
  refine region_plain [48, 49, 50, 7] (fun fZ tZ uZ => MR bs w (u9.heap.size) [(bs, [.int .u64 e0, .int .u64 e1, .int .u64 x2, .int .u64 x3, .int .u64 x4]), (ba, LN a)] [] [] uZ ∧ Gs fZ tZ [(0, 48, .int .u64 ((p1 + o1) / 18446744073709551616)), (1, 49, .int .u64 ((x1 + (p1 + o1) % 18446744073709551616) / 18446744073709551616)), (2, 50, .int .u64 o2), (3, 7, .int .u64 o2)] ∧ Os fZ [] ∧ Ns fZ tZ []) (by kernel_rfl) ?_ ?_ ?_
  · exact ⟨{ bel := HB9, lo := (Nat.le_of_lt (by omega)), sz := Nat.le_refl _, ks := ⟨⟨l9s, K9s⟩, ⟨l9a, K9a⟩, trivial⟩, ex := trivial, nw := trivial, nd := trivial }, Gs.none _ _, Os.none _, trivial⟩
  · rintro fZ tZ uZ iZ oZ aZ hF ⟨hM, hG, hO, hN⟩ ho hfi hdep
    obtain ⟨hS, hV⟩ := hF.two 65 (by decide) rfl (by decide)
    rcases cZ4 ho with rfl | rfl | rfl | rfl <;> cases ho
    · exact t_move (show aZ.eval (.tmp 10) = .int .u64 ((p1 + o1) / 18446744073709551616) from (hF.out 10 (by decide)).trans rfl) hF hS rfl rfl rfl rfl (by decide) (Jt hM hG hN)
    · exact t_move (show aZ.eval (.tmp 8) = .int .u64 ((x1 + (p1 + o1) % 18446744073709551616) / 18446744073709551616) from (hF.out 8 (by decide)).trans rfl) hF hS rfl rfl rfl rfl (by decide) (Jt hM hG hN)
    · refine op_plain rfl rfl (fun K hK => ?_)
      refine wp_bin rfl (ve 48 hV (hG.1 (dd 0 hdep))) (ve 49 hV (hG.2.1 (dd 1 hdep))) (add_u _ _ ((p1 + o1) / 18446744073709551616) ((x1 + (p1 + o1) % 18446744073709551616) / 18446744073709551616) o2 uZ (by omega)) ?_
      exact tell hK hF hS (by decide) (Jt hM hG hN)
    · exact t_assign (ve 50 hV (hG.2.2.1 (dd 2 hdep))) hF hS rfl rfl rfl rfl (by decide) (Jt hM hG hN)
  rintro fZ tZ u10 ⟨hM, hG, hO, hN⟩ hall
  obtain ⟨e48, e49, e50, e7, -⟩ := Gs.all 4 hall hG rfl
  have HB10 : Below bs w u10 := hM.bel
  have sz10 : u9.heap.size ≤ u10.heap.size := hM.sz
  obtain ⟨⟨l10s, K10s⟩, ⟨l10a, K10a⟩, -⟩ := hM.ks.up hM.sz
  dsimp only at l10s K10s l10a K10a
  simp only [ovr, List.set_cons_zero, List.set_cons_succ, e48, e49, e50, e7]
  clear hM hG hO hN hall e48 e49 e50 e7 K9a K9s HB9
  clear tZ
  go_wp2
  rw [rounds_succ]
  go_upto_region 5 with fail
  refine region_plain [16, 17, 18, 19, 20, 21, 22, 15, 23, 24, 10, 11] (fun fZ tZ uZ => MR bs w (u10.heap.size) [(bs, [.int .u64 e0, .int .u64 e1, .int .u64 x2, .int .u64 x3, .int .u64 x4]), (ba, LN a)] [] [] uZ ∧ Gs fZ tZ [(0, 16, .pointer (some ⟨ba, 0, none⟩)), (1, 17, .int .i64 2), (2, 18, .pointer (some ⟨ba, 0, none⟩)), (3, 19, .pointer (some ⟨ba, 2, none⟩)), (4, 20, .int .u64 (D2 (a))), (5, 21, .int .u64 n), (6, 22, .tuple #[.int .u64 (p2 / 18446744073709551616), .int .u64 (p2 % 18446744073709551616)]), (7, 15, .tuple #[.int .u64 (p2 / 18446744073709551616), .int .u64 (p2 % 18446744073709551616)]), (8, 23, .int .u64 (p2 / 18446744073709551616)), (9, 24, .int .u64 (p2 % 18446744073709551616)), (10, 10, .int .u64 (p2 / 18446744073709551616)), (11, 11, .int .u64 (p2 % 18446744073709551616))] ∧ Os fZ [] ∧ Ns fZ tZ []) (by kernel_rfl) ?_ ?_ ?_
  · exact ⟨{ bel := HB10, lo := (Nat.le_of_lt (by omega)), sz := Nat.le_refl _, ks := ⟨⟨l10s, K10s⟩, ⟨l10a, K10a⟩, trivial⟩, ex := trivial, nw := trivial, nd := trivial }, Gs.none _ _, Os.none _, trivial⟩
  · rintro fZ tZ uZ iZ oZ aZ hF ⟨hM, hG, hO, hN⟩ ho hfi hdep
    obtain ⟨hS, hV⟩ := hF.two 65 (by decide) rfl (by decide)
    rcases cZ12 ho with rfl | rfl | rfl | rfl | rfl | rfl | rfl | rfl | rfl | rfl | rfl | rfl <;> cases ho
    · exact t_move (show aZ.eval (.tmp 1) = .pointer (some ⟨ba, 0, none⟩) from (hF.out 1 (by decide)).trans rfl) hF hS rfl rfl rfl rfl (by decide) (Jt hM hG hN)
    · exact t_move (show aZ.eval (.tmp 9) = .int .i64 2 from (hF.out 9 (by decide)).trans rfl) hF hS rfl rfl rfl rfl (by decide) (Jt hM hG hN)
    · refine op_plain rfl rfl (fun K hK => ?_)
      refine wp_nil rfl (ve 16 hV (hG.1 (dd 0 hdep))) ?_
      exact tell hK hF hS (by decide) (Jt hM hG hN)
    · refine op_plain rfl rfl (fun K hK => ?_)
      refine wp_index rfl (ve 18 hV (hG.2.2.1 (dd 2 hdep))) (ve 17 hV (hG.2.1 (dd 1 hdep))) (ix_nat uZ (ba) 2 (by omega)) ?_
      exact tell hK hF hS (by decide) (Jt hM hG hN)
    · refine op_plain rfl rfl (fun K hK => ?_)
      have kk : CV uZ (ba) (LN a) := hM.ks.2.1.2
      have kc := (kk 2 _ (rfl)).1
      refine wp_load rfl (ve 19 hV (hG.2.2.2.1 (dd 3 hdep))) (ld_u64 uZ (ba) 2 _ kc) ?_
      exact tell hK hF hS (by decide) (Jt hM hG hN)
    · exact t_move (show aZ.eval (.tmp 2) = .int .u64 n from (hF.out 2 (by decide)).trans rfl) hF hS rfl rfl rfl rfl (by decide) (Jt hM hG hN)
    · exact t_call (vs := [.int .u64 (D2 (a)), .int .u64 n]) (by show [aZ.eval (.tmp 20), aZ.eval (.tmp 21)] = _; rw [(ve 20 hV (hG.2.2.2.2.1 (dd 4 hdep))), (ve 21 hV (hG.2.2.2.2.2.1 (dd 5 hdep)))]) ent_math_bits_Mul64 (mul64_B (D2 a) n p2 (W_D2 a) hn Hp2.out uZ) hF hS rfl rfl rfl rfl (by decide) (fun _ hB => (Jt (hM.call hB) hG hN))
    · exact t_move (ve 22 hV (hG.2.2.2.2.2.2.1 (dd 6 hdep))) hF hS rfl rfl rfl rfl (by decide) (Jt hM hG hN)
    · exact t_extract (ve 15 hV (hG.2.2.2.2.2.2.2.1 (dd 7 hdep))) hF hS rfl rfl rfl rfl rfl (by decide) (Jt hM hG hN)
    · exact t_extract (ve 15 hV (hG.2.2.2.2.2.2.2.1 (dd 7 hdep))) hF hS rfl rfl rfl rfl rfl (by decide) (Jt hM hG hN)
    · exact t_assign (ve 23 hV (hG.2.2.2.2.2.2.2.2.1 (dd 8 hdep))) hF hS rfl rfl rfl rfl (by decide) (Jt hM hG hN)
    · exact t_assign (ve 24 hV (hG.2.2.2.2.2.2.2.2.2.1 (dd 9 hdep))) hF hS rfl rfl rfl rfl (by decide) (Jt hM hG hN)
  rintro fZ tZ u11 ⟨hM, hG, hO, hN⟩ hall
  obtain ⟨e16, e17, e18, e19, e20, e21, e22, e15, e23, e24, e10, e11, -⟩ := Gs.all 12 hall hG rfl
  have HB11 : Below bs w u11 := hM.bel
  have sz11 : u10.heap.size ≤ u11.heap.size := hM.sz
  obtain ⟨⟨l11s, K11s⟩, ⟨l11a, K11a⟩, -⟩ := hM.ks.up hM.sz
  dsimp only at l11s K11s l11a K11a
  simp only [ovr, List.set_cons_zero, List.set_cons_succ, e16, e17, e18, e19, e20, e21, e22, e15, e23, e24, e10, e11]
  clear hM hG hO hN hall e16 e17 e18 e19 e20 e21 e22 e15 e23 e24 e10 e11 K10a K10s HB10
  clear tZ
  go_upto_region 6 with fail
  refine region_plain [26, 27, 28, 25, 29, 30, 11, 8] (fun fZ tZ uZ => MR bs w (u11.heap.size) [(bs, [.int .u64 e0, .int .u64 e1, .int .u64 x2, .int .u64 x3, .int .u64 x4]), (ba, LN a)] [] [] uZ ∧ Gs fZ tZ [(0, 26, .int .u64 (p2 % 18446744073709551616)), (1, 27, .int .u64 o2), (2, 28, .tuple #[.int .u64 ((p2 + o2) % 18446744073709551616), .int .u64 ((p2 % 18446744073709551616 + o2) / 18446744073709551616)]), (3, 25, .tuple #[.int .u64 ((p2 + o2) % 18446744073709551616), .int .u64 ((p2 % 18446744073709551616 + o2) / 18446744073709551616)]), (4, 29, .int .u64 ((p2 + o2) % 18446744073709551616)), (5, 30, .int .u64 ((p2 % 18446744073709551616 + o2) / 18446744073709551616)), (6, 11, .int .u64 ((p2 + o2) % 18446744073709551616)), (7, 8, .int .u64 ((p2 % 18446744073709551616 + o2) / 18446744073709551616))] ∧ Os fZ [(6, 0)] ∧ Ns fZ tZ [(6, 11, .int .u64 (p2 % 18446744073709551616))]) (by kernel_rfl) ?_ ?_ ?_
  · exact ⟨{ bel := HB11, lo := (Nat.le_of_lt (by omega)), sz := Nat.le_refl _, ks := ⟨⟨l11s, K11s⟩, ⟨l11a, K11a⟩, trivial⟩, ex := trivial, nw := trivial, nd := trivial }, Gs.none _ _, Os.none _, ⟨fun _ => rfl, trivial⟩⟩
  · rintro fZ tZ uZ iZ oZ aZ hF ⟨hM, hG, hO, hN⟩ ho hfi hdep
    obtain ⟨hS, hV⟩ := hF.two 65 (by decide) rfl (by decide)
    rcases cZ8 ho with rfl | rfl | rfl | rfl | rfl | rfl | rfl | rfl <;> cases ho
    · have yi11 : fZ 6 = false := Os.not (hO.1) hfi
      have ei11 : tZ 11 = .int .u64 (p2 % 18446744073709551616) := hN.1 yi11
      exact t_move ((hV 11 (by decide)).trans ei11) hF hS rfl rfl rfl rfl (by decide) (Jm hM hG hO hN)
    · exact t_move (show aZ.eval (.tmp 7) = .int .u64 o2 from (hF.out 7 (by decide)).trans rfl) hF hS rfl rfl rfl rfl (by decide) (Jm hM hG hO hN)
    · refine op_plain rfl rfl (fun K hK => ?_)
      refine wp_callE rfl (vs := [.int .u64 (p2 % 18446744073709551616), .int .u64 o2, (Go.Value.int Go.IntKind.u64 0)]) (by show [aZ.eval (.tmp 26), aZ.eval (.tmp 27), (Go.Value.int Go.IntKind.u64 0)] = _; rw [(ve 26 hV (hG.1 (dd 0 hdep))), (ve 27 hV (hG.2.1 (dd 1 hdep)))]) (add64_to (p2 % 18446744073709551616) o2 ((p2 + o2) % 18446744073709551616) ((p2 % 18446744073709551616 + o2) / 18446744073709551616) (by omega) (by omega) uZ (by omega) rfl) ?_
      exact tell hK hF hS (by decide) (Jm hM hG hO hN)
    · exact t_move (ve 28 hV (hG.2.2.1 (dd 2 hdep))) hF hS rfl rfl rfl rfl (by decide) (Jm hM hG hO hN)
    · exact t_extract (ve 25 hV (hG.2.2.2.1 (dd 3 hdep))) hF hS rfl rfl rfl rfl rfl (by decide) (Jm hM hG hO hN)
    · exact t_extract (ve 25 hV (hG.2.2.2.1 (dd 3 hdep))) hF hS rfl rfl rfl rfl rfl (by decide) (Jm hM hG hO hN)
    · exact t_assign (ve 29 hV (hG.2.2.2.2.1 (dd 4 hdep))) hF hS rfl rfl rfl rfl (by decide) ⟨hM, Gs.stepA hG rfl rfl, ⟨fun _ => hdep ⟨0, .phase⟩ (by simp) rfl, trivial⟩, Ns.step hN rfl⟩
    · exact t_assign (ve 30 hV (hG.2.2.2.2.2.1 (dd 5 hdep))) hF hS rfl rfl rfl rfl (by decide) (Jm hM hG hO hN)
  rintro fZ tZ u12 ⟨hM, hG, hO, hN⟩ hall
  obtain ⟨e26, e27, e28, e25, e29, e30, e11, e8, -⟩ := Gs.all 8 hall hG rfl
  have HB12 : Below bs w u12 := hM.bel
  have sz12 : u11.heap.size ≤ u12.heap.size := hM.sz
  obtain ⟨⟨l12s, K12s⟩, ⟨l12a, K12a⟩, -⟩ := hM.ks.up hM.sz
  dsimp only at l12s K12s l12a K12a
  simp only [ovr, List.set_cons_zero, List.set_cons_succ, e26, e27, e28, e25, e29, e30, e11, e8]
  clear hM hG hO hN hall e26 e27 e28 e25 e29 e30 e11 e8 K11a K11s HB11
  clear tZ
  go_upto_region 7 with fail
  refine region_plain [31, 32, 33, 10] (fun fZ tZ uZ => MR bs w (u12.heap.size) [(bs, [.int .u64 e0, .int .u64 e1, .int .u64 x2, .int .u64 x3, .int .u64 x4]), (ba, LN a)] [] [] uZ ∧ Gs fZ tZ [(0, 31, .int .u64 (p2 / 18446744073709551616)), (1, 32, .int .u64 ((p2 % 18446744073709551616 + o2) / 18446744073709551616)), (2, 33, .int .u64 ((p2 + o2) / 18446744073709551616)), (3, 10, .int .u64 ((p2 + o2) / 18446744073709551616))] ∧ Os fZ [(3, 0)] ∧ Ns fZ tZ [(3, 10, .int .u64 (p2 / 18446744073709551616))]) (by kernel_rfl) ?_ ?_ ?_
  · exact ⟨{ bel := HB12, lo := (Nat.le_of_lt (by omega)), sz := Nat.le_refl _, ks := ⟨⟨l12s, K12s⟩, ⟨l12a, K12a⟩, trivial⟩, ex := trivial, nw := trivial, nd := trivial }, Gs.none _ _, Os.none _, ⟨fun _ => rfl, trivial⟩⟩
  · rintro fZ tZ uZ iZ oZ aZ hF ⟨hM, hG, hO, hN⟩ ho hfi hdep
    obtain ⟨hS, hV⟩ := hF.two 65 (by decide) rfl (by decide)
    rcases cZ4 ho with rfl | rfl | rfl | rfl <;> cases ho
    · have yi10 : fZ 3 = false := Os.not (hO.1) hfi
      have ei10 : tZ 10 = .int .u64 (p2 / 18446744073709551616) := hN.1 yi10
      exact t_move ((hV 10 (by decide)).trans ei10) hF hS rfl rfl rfl rfl (by decide) (Jm hM hG hO hN)
    · exact t_move (show aZ.eval (.tmp 8) = .int .u64 ((p2 % 18446744073709551616 + o2) / 18446744073709551616) from (hF.out 8 (by decide)).trans rfl) hF hS rfl rfl rfl rfl (by decide) (Jm hM hG hO hN)
    · refine op_plain rfl rfl (fun K hK => ?_)
      refine wp_bin rfl (ve 31 hV (hG.1 (dd 0 hdep))) (ve 32 hV (hG.2.1 (dd 1 hdep))) (add_u _ _ (p2 / 18446744073709551616) ((p2 % 18446744073709551616 + o2) / 18446744073709551616) ((p2 + o2) / 18446744073709551616) uZ (by omega)) ?_
      exact tell hK hF hS (by decide) (Jm hM hG hO hN)
    · exact t_assign (ve 33 hV (hG.2.2.1 (dd 2 hdep))) hF hS rfl rfl rfl rfl (by decide) ⟨hM, Gs.stepA hG rfl rfl, ⟨fun _ => hdep ⟨0, .phase⟩ (by simp) rfl, trivial⟩, Ns.step hN rfl⟩
  rintro fZ tZ u13 ⟨hM, hG, hO, hN⟩ hall
  obtain ⟨e31, e32, e33, e10, -⟩ := Gs.all 4 hall hG rfl
  have HB13 : Below bs w u13 := hM.bel
  have sz13 : u12.heap.size ≤ u13.heap.size := hM.sz
  obtain ⟨⟨l13s, K13s⟩, ⟨l13a, K13a⟩, -⟩ := hM.ks.up hM.sz
  dsimp only at l13s K13s l13a K13a
  simp only [ovr, List.set_cons_zero, List.set_cons_succ, e31, e32, e33, e10]
  clear hM hG hO hN hall e31 e32 e33 e10 K12a K12s HB12
  clear tZ
  go_upto_region 8 with fail
  refine region_drawn [35, 36, 37, 38, 39, 40, 41, 42, 43, 34, 44, 45, 46, 47, 8] (fun fZ tZ uZ => MR bs w (u13.heap.size) [(ba, LN a)] [(bs, fZ 14, [.int .u64 e0, .int .u64 e1, .int .u64 x2, .int .u64 x3, .int .u64 x4], [.int .u64 e0, .int .u64 e1, .int .u64 e2, .int .u64 x3, .int .u64 x4])] [] uZ ∧ Gs fZ tZ [(0, 35, .pointer (some ⟨bs, 0, none⟩)), (1, 36, .int .i64 2), (2, 37, .pointer (some ⟨bs, 0, none⟩)), (3, 38, .int .i64 2), (4, 39, .pointer (some ⟨bs, 0, none⟩)), (5, 40, .pointer (some ⟨bs, 2, none⟩)), (6, 41, .int .u64 x2), (7, 42, .int .u64 ((p2 + o2) % 18446744073709551616)), (8, 43, .tuple #[.int .u64 e2, .int .u64 ((x2 + (p2 + o2) % 18446744073709551616) / 18446744073709551616)]), (9, 34, .tuple #[.int .u64 e2, .int .u64 ((x2 + (p2 + o2) % 18446744073709551616) / 18446744073709551616)]), (10, 44, .int .u64 e2), (11, 45, .int .u64 ((x2 + (p2 + o2) % 18446744073709551616) / 18446744073709551616)), (12, 46, .pointer (some ⟨bs, 0, none⟩)), (13, 47, .pointer (some ⟨bs, 2, none⟩)), (15, 8, .int .u64 ((x2 + (p2 + o2) % 18446744073709551616) / 18446744073709551616))] ∧ Os fZ [(14, 6)] ∧ Ns fZ tZ []) (by kernel_rfl) (by kernel_rfl) ?_ ?_ ?_
  · exact ⟨{ bel := HB13.drew, lo := (Nat.le_of_lt (by omega)), sz := Nat.le_refl _, ks := ⟨⟨l13a, K13a⟩, trivial⟩, ex := ⟨⟨(Nat.le_refl _), l13s, rfl, K13s⟩, trivial⟩, nw := trivial, nd := trivial }, Gs.none _ _, Os.none _, trivial⟩
  · rintro fZ tZ uZ iZ oZ aZ hF ⟨hM, hG, hO, hN⟩ ho hfi hdep
    obtain ⟨hS, hV⟩ := hF.two 65 (by decide) rfl (by decide)
    rcases cZ16 ho with rfl | rfl | rfl | rfl | rfl | rfl | rfl | rfl | rfl | rfl | rfl | rfl | rfl | rfl | rfl | rfl <;> cases ho
    · exact t_move (show aZ.eval (.tmp 0) = .pointer (some ⟨bs, 0, none⟩) from (hF.out 0 (by decide)).trans rfl) hF hS rfl rfl rfl rfl (by decide) (Jm hM hG hO hN)
    · exact t_move (show aZ.eval (.tmp 9) = .int .i64 2 from (hF.out 9 (by decide)).trans rfl) hF hS rfl rfl rfl rfl (by decide) (Jm hM hG hO hN)
    · exact t_move (show aZ.eval (.tmp 0) = .pointer (some ⟨bs, 0, none⟩) from (hF.out 0 (by decide)).trans rfl) hF hS rfl rfl rfl rfl (by decide) (Jm hM hG hO hN)
    · exact t_move (show aZ.eval (.tmp 9) = .int .i64 2 from (hF.out 9 (by decide)).trans rfl) hF hS rfl rfl rfl rfl (by decide) (Jm hM hG hO hN)
    · refine op_plain rfl rfl (fun K hK => ?_)
      refine wp_nil rfl (ve 37 hV (hG.2.2.1 (dd 2 hdep))) ?_
      exact tell hK hF hS (by decide) (Jm hM hG hO hN)
    · refine op_plain rfl rfl (fun K hK => ?_)
      refine wp_index rfl (ve 39 hV (hG.2.2.2.2.1 (dd 4 hdep))) (ve 38 hV (hG.2.2.2.1 (dd 3 hdep))) (ix_five uZ (bs) 2 (by omega)) ?_
      exact tell hK hF hS (by decide) (Jm hM hG hO hN)
    · refine op_plain rfl rfl (fun K hK => ?_)
      have ys : fZ 14 = false := Os.not (hO.1) hfi
      have kk : CV uZ (bs) (bif fZ 14 then [.int .u64 e0, .int .u64 e1, .int .u64 e2, .int .u64 x3, .int .u64 x4] else [.int .u64 e0, .int .u64 e1, .int .u64 x2, .int .u64 x3, .int .u64 x4]) := hM.ex.1.2.2.2
      rw [ys] at kk
      have kk : CV uZ (bs) ([.int .u64 e0, .int .u64 e1, .int .u64 x2, .int .u64 x3, .int .u64 x4]) := kk
      have kc := (kk 2 _ (rfl)).1
      refine wp_load rfl (ve 40 hV (hG.2.2.2.2.2.1 (dd 5 hdep))) (ld_u64 uZ (bs) 2 _ kc) ?_
      exact tell hK hF hS (by decide) (Jm hM hG hO hN)
    · exact t_move (show aZ.eval (.tmp 11) = .int .u64 ((p2 + o2) % 18446744073709551616) from (hF.out 11 (by decide)).trans rfl) hF hS rfl rfl rfl rfl (by decide) (Jm hM hG hO hN)
    · refine op_plain rfl rfl (fun K hK => ?_)
      refine wp_callE rfl (vs := [.int .u64 x2, .int .u64 ((p2 + o2) % 18446744073709551616), (Go.Value.int Go.IntKind.u64 0)]) (by show [aZ.eval (.tmp 41), aZ.eval (.tmp 42), (Go.Value.int Go.IntKind.u64 0)] = _; rw [(ve 41 hV (hG.2.2.2.2.2.2.1 (dd 6 hdep))), (ve 42 hV (hG.2.2.2.2.2.2.2.1 (dd 7 hdep)))]) (add64_to x2 ((p2 + o2) % 18446744073709551616) e2 ((x2 + (p2 + o2) % 18446744073709551616) / 18446744073709551616) (by omega) (by omega) uZ (by omega) rfl) ?_
      exact tell hK hF hS (by decide) (Jm hM hG hO hN)
    · exact t_move (ve 43 hV (hG.2.2.2.2.2.2.2.2.1 (dd 8 hdep))) hF hS rfl rfl rfl rfl (by decide) (Jm hM hG hO hN)
    · exact t_extract (ve 34 hV (hG.2.2.2.2.2.2.2.2.2.1 (dd 9 hdep))) hF hS rfl rfl rfl rfl rfl (by decide) (Jm hM hG hO hN)
    · exact t_extract (ve 34 hV (hG.2.2.2.2.2.2.2.2.2.1 (dd 9 hdep))) hF hS rfl rfl rfl rfl rfl (by decide) (Jm hM hG hO hN)
    · refine op_plain rfl rfl (fun K hK => ?_)
      refine wp_nil rfl (ve 35 hV (hG.1 (dd 0 hdep))) ?_
      exact tell hK hF hS (by decide) (Jm hM hG hO hN)
    · refine op_plain rfl rfl (fun K hK => ?_)
      refine wp_index rfl (ve 46 hV (hG.2.2.2.2.2.2.2.2.2.2.2.2.1 (dd 12 hdep))) (ve 36 hV (hG.2.1 (dd 1 hdep))) (ix_five uZ (bs) 2 (by omega)) ?_
      exact tell hK hF hS (by decide) (Jm hM hG hO hN)
    · refine op_plain rfl rfl (fun K hK => ?_)
      have kk : CV uZ (bs) (bif fZ 14 then [.int .u64 e0, .int .u64 e1, .int .u64 e2, .int .u64 x3, .int .u64 x4] else [.int .u64 e0, .int .u64 e1, .int .u64 x2, .int .u64 x3, .int .u64 x4]) := hM.ex.1.2.2.2
      rw [hfi] at kk
      have kk : CV uZ (bs) ([.int .u64 e0, .int .u64 e1, .int .u64 x2, .int .u64 x3, .int .u64 x4]) := kk
      refine wp_store rfl (ve 47 hV (hG.2.2.2.2.2.2.2.2.2.2.2.2.2.1 (dd 13 hdep))) (ve 44 hV (hG.2.2.2.2.2.2.2.2.2.2.1 (dd 10 hdep))) (st_u64 uZ (bs) 2 _ _ (kk 2 _ rfl).1 (kk 2 _ rfl).2) ?_
      exact tell0 hK hF ⟨MR.putCF (k := 2) (x := .int .u64 e2) 0 hM rfl hfi (show 2 < 5 by decide) rfl kk ⟨by omega, trivial⟩ trivial, Gs.idle rfl hG, ⟨fun _ => hdep ⟨6, .phase⟩ (by simp) rfl, trivial⟩, Ns.idle hN⟩
    · exact t_assign (ve 45 hV (hG.2.2.2.2.2.2.2.2.2.2.2.1 (dd 11 hdep))) hF hS rfl rfl rfl rfl (by decide) (Jm hM hG hO hN)
  rintro fZ tZ u14 ⟨hM, hG, hO, hN⟩ hall
  obtain ⟨e35, e36, e37, e38, e39, e40, e41, e42, e43, e34, e44, e45, e46, e47, e8, -⟩ := Gs.all 16 hall hG rfl
  have HB14 : Below bs w u14 := hM.bel
  have sz14 : u13.heap.size ≤ u14.heap.size := hM.sz
  obtain ⟨⟨l14a, K14a⟩, -⟩ := hM.ks.up hM.sz
  dsimp only at l14a K14a
  have K14s : CV u14 (bs) ([.int .u64 e0, .int .u64 e1, .int .u64 e2, .int .u64 x3, .int .u64 x4]) := by
    have h1 : CV u14 (bs) (bif fZ 14 then [.int .u64 e0, .int .u64 e1, .int .u64 e2, .int .u64 x3, .int .u64 x4] else [.int .u64 e0, .int .u64 e1, .int .u64 x2, .int .u64 x3, .int .u64 x4]) := hM.ex.1.2.2.2
    rw [hall 14 (by decide)] at h1; exact h1
  have l14s : bs < u14.heap.size := Nat.lt_of_lt_of_le hM.ex.1.2.1 hM.sz
  simp only [ovr, List.set_cons_zero, List.set_cons_succ, e35, e36, e37, e38, e39, e40, e41, e42, e43, e34, e44, e45, e46, e47, e8]
  clear hM hG hO hN hall e35 e36 e37 e38 e39 e40 e41 e42 e43 e34 e44 e45 e46 e47 e8 K13a K13s HB13
  clear tZ
  go_upto_region 9 with fail
  refine region_plain [48, 49, 50, 7] (fun fZ tZ uZ => MR bs w (u14.heap.size) [(bs, [.int .u64 e0, .int .u64 e1, .int .u64 e2, .int .u64 x3, .int .u64 x4]), (ba, LN a)] [] [] uZ ∧ Gs fZ tZ [(0, 48, .int .u64 ((p2 + o2) / 18446744073709551616)), (1, 49, .int .u64 ((x2 + (p2 + o2) % 18446744073709551616) / 18446744073709551616)), (2, 50, .int .u64 o3), (3, 7, .int .u64 o3)] ∧ Os fZ [] ∧ Ns fZ tZ []) (by kernel_rfl) ?_ ?_ ?_
  · exact ⟨{ bel := HB14, lo := (Nat.le_of_lt (by omega)), sz := Nat.le_refl _, ks := ⟨⟨l14s, K14s⟩, ⟨l14a, K14a⟩, trivial⟩, ex := trivial, nw := trivial, nd := trivial }, Gs.none _ _, Os.none _, trivial⟩
  · rintro fZ tZ uZ iZ oZ aZ hF ⟨hM, hG, hO, hN⟩ ho hfi hdep
    obtain ⟨hS, hV⟩ := hF.two 65 (by decide) rfl (by decide)
    rcases cZ4 ho with rfl | rfl | rfl | rfl <;> cases ho
    · exact t_move (show aZ.eval (.tmp 10) = .int .u64 ((p2 + o2) / 18446744073709551616) from (hF.out 10 (by decide)).trans rfl) hF hS rfl rfl rfl rfl (by decide) (Jt hM hG hN)
    · exact t_move (show aZ.eval (.tmp 8) = .int .u64 ((x2 + (p2 + o2) % 18446744073709551616) / 18446744073709551616) from (hF.out 8 (by decide)).trans rfl) hF hS rfl rfl rfl rfl (by decide) (Jt hM hG hN)
    · refine op_plain rfl rfl (fun K hK => ?_)
      refine wp_bin rfl (ve 48 hV (hG.1 (dd 0 hdep))) (ve 49 hV (hG.2.1 (dd 1 hdep))) (add_u _ _ ((p2 + o2) / 18446744073709551616) ((x2 + (p2 + o2) % 18446744073709551616) / 18446744073709551616) o3 uZ (by omega)) ?_
      exact tell hK hF hS (by decide) (Jt hM hG hN)
    · exact t_assign (ve 50 hV (hG.2.2.1 (dd 2 hdep))) hF hS rfl rfl rfl rfl (by decide) (Jt hM hG hN)
  rintro fZ tZ u15 ⟨hM, hG, hO, hN⟩ hall
  obtain ⟨e48, e49, e50, e7, -⟩ := Gs.all 4 hall hG rfl
  have HB15 : Below bs w u15 := hM.bel
  have sz15 : u14.heap.size ≤ u15.heap.size := hM.sz
  obtain ⟨⟨l15s, K15s⟩, ⟨l15a, K15a⟩, -⟩ := hM.ks.up hM.sz
  dsimp only at l15s K15s l15a K15a
  simp only [ovr, List.set_cons_zero, List.set_cons_succ, e48, e49, e50, e7]
  clear hM hG hO hN hall e48 e49 e50 e7 K14a K14s HB14
  clear tZ
  go_wp2
  rw [rounds_succ]
  go_upto_region 5 with fail
  refine region_plain [16, 17, 18, 19, 20, 21, 22, 15, 23, 24, 10, 11] (fun fZ tZ uZ => MR bs w (u15.heap.size) [(bs, [.int .u64 e0, .int .u64 e1, .int .u64 e2, .int .u64 x3, .int .u64 x4]), (ba, LN a)] [] [] uZ ∧ Gs fZ tZ [(0, 16, .pointer (some ⟨ba, 0, none⟩)), (1, 17, .int .i64 3), (2, 18, .pointer (some ⟨ba, 0, none⟩)), (3, 19, .pointer (some ⟨ba, 3, none⟩)), (4, 20, .int .u64 (D3 (a))), (5, 21, .int .u64 n), (6, 22, .tuple #[.int .u64 (p3 / 18446744073709551616), .int .u64 (p3 % 18446744073709551616)]), (7, 15, .tuple #[.int .u64 (p3 / 18446744073709551616), .int .u64 (p3 % 18446744073709551616)]), (8, 23, .int .u64 (p3 / 18446744073709551616)), (9, 24, .int .u64 (p3 % 18446744073709551616)), (10, 10, .int .u64 (p3 / 18446744073709551616)), (11, 11, .int .u64 (p3 % 18446744073709551616))] ∧ Os fZ [] ∧ Ns fZ tZ []) (by kernel_rfl) ?_ ?_ ?_
  · exact ⟨{ bel := HB15, lo := (Nat.le_of_lt (by omega)), sz := Nat.le_refl _, ks := ⟨⟨l15s, K15s⟩, ⟨l15a, K15a⟩, trivial⟩, ex := trivial, nw := trivial, nd := trivial }, Gs.none _ _, Os.none _, trivial⟩
  · rintro fZ tZ uZ iZ oZ aZ hF ⟨hM, hG, hO, hN⟩ ho hfi hdep
    obtain ⟨hS, hV⟩ := hF.two 65 (by decide) rfl (by decide)
    rcases cZ12 ho with rfl | rfl | rfl | rfl | rfl | rfl | rfl | rfl | rfl | rfl | rfl | rfl <;> cases ho
    · exact t_move (show aZ.eval (.tmp 1) = .pointer (some ⟨ba, 0, none⟩) from (hF.out 1 (by decide)).trans rfl) hF hS rfl rfl rfl rfl (by decide) (Jt hM hG hN)
    · exact t_move (show aZ.eval (.tmp 9) = .int .i64 3 from (hF.out 9 (by decide)).trans rfl) hF hS rfl rfl rfl rfl (by decide) (Jt hM hG hN)
    · refine op_plain rfl rfl (fun K hK => ?_)
      refine wp_nil rfl (ve 16 hV (hG.1 (dd 0 hdep))) ?_
      exact tell hK hF hS (by decide) (Jt hM hG hN)
    · refine op_plain rfl rfl (fun K hK => ?_)
      refine wp_index rfl (ve 18 hV (hG.2.2.1 (dd 2 hdep))) (ve 17 hV (hG.2.1 (dd 1 hdep))) (ix_nat uZ (ba) 3 (by omega)) ?_
      exact tell hK hF hS (by decide) (Jt hM hG hN)
    · refine op_plain rfl rfl (fun K hK => ?_)
      have kk : CV uZ (ba) (LN a) := hM.ks.2.1.2
      have kc := (kk 3 _ (rfl)).1
      refine wp_load rfl (ve 19 hV (hG.2.2.2.1 (dd 3 hdep))) (ld_u64 uZ (ba) 3 _ kc) ?_
      exact tell hK hF hS (by decide) (Jt hM hG hN)
    · exact t_move (show aZ.eval (.tmp 2) = .int .u64 n from (hF.out 2 (by decide)).trans rfl) hF hS rfl rfl rfl rfl (by decide) (Jt hM hG hN)
    · exact t_call (vs := [.int .u64 (D3 (a)), .int .u64 n]) (by show [aZ.eval (.tmp 20), aZ.eval (.tmp 21)] = _; rw [(ve 20 hV (hG.2.2.2.2.1 (dd 4 hdep))), (ve 21 hV (hG.2.2.2.2.2.1 (dd 5 hdep)))]) ent_math_bits_Mul64 (mul64_B (D3 a) n p3 (W_D3 a) hn Hp3.out uZ) hF hS rfl rfl rfl rfl (by decide) (fun _ hB => (Jt (hM.call hB) hG hN))
    · exact t_move (ve 22 hV (hG.2.2.2.2.2.2.1 (dd 6 hdep))) hF hS rfl rfl rfl rfl (by decide) (Jt hM hG hN)
    · exact t_extract (ve 15 hV (hG.2.2.2.2.2.2.2.1 (dd 7 hdep))) hF hS rfl rfl rfl rfl rfl (by decide) (Jt hM hG hN)
    · exact t_extract (ve 15 hV (hG.2.2.2.2.2.2.2.1 (dd 7 hdep))) hF hS rfl rfl rfl rfl rfl (by decide) (Jt hM hG hN)
    · exact t_assign (ve 23 hV (hG.2.2.2.2.2.2.2.2.1 (dd 8 hdep))) hF hS rfl rfl rfl rfl (by decide) (Jt hM hG hN)
    · exact t_assign (ve 24 hV (hG.2.2.2.2.2.2.2.2.2.1 (dd 9 hdep))) hF hS rfl rfl rfl rfl (by decide) (Jt hM hG hN)
  rintro fZ tZ u16 ⟨hM, hG, hO, hN⟩ hall
  obtain ⟨e16, e17, e18, e19, e20, e21, e22, e15, e23, e24, e10, e11, -⟩ := Gs.all 12 hall hG rfl
  have HB16 : Below bs w u16 := hM.bel
  have sz16 : u15.heap.size ≤ u16.heap.size := hM.sz
  obtain ⟨⟨l16s, K16s⟩, -, -⟩ := hM.ks.up hM.sz
  dsimp only at l16s K16s
  simp only [ovr, List.set_cons_zero, List.set_cons_succ, e16, e17, e18, e19, e20, e21, e22, e15, e23, e24, e10, e11]
  clear hM hG hO hN hall e16 e17 e18 e19 e20 e21 e22 e15 e23 e24 e10 e11 K15a K15s HB15
  clear tZ
  go_upto_region 6 with fail
  refine region_plain [26, 27, 28, 25, 29, 30, 11, 8] (fun fZ tZ uZ => MR bs w (u16.heap.size) [(bs, [.int .u64 e0, .int .u64 e1, .int .u64 e2, .int .u64 x3, .int .u64 x4])] [] [] uZ ∧ Gs fZ tZ [(0, 26, .int .u64 (p3 % 18446744073709551616)), (1, 27, .int .u64 o3), (2, 28, .tuple #[.int .u64 ((p3 + o3) % 18446744073709551616), .int .u64 ((p3 % 18446744073709551616 + o3) / 18446744073709551616)]), (3, 25, .tuple #[.int .u64 ((p3 + o3) % 18446744073709551616), .int .u64 ((p3 % 18446744073709551616 + o3) / 18446744073709551616)]), (4, 29, .int .u64 ((p3 + o3) % 18446744073709551616)), (5, 30, .int .u64 ((p3 % 18446744073709551616 + o3) / 18446744073709551616)), (6, 11, .int .u64 ((p3 + o3) % 18446744073709551616)), (7, 8, .int .u64 ((p3 % 18446744073709551616 + o3) / 18446744073709551616))] ∧ Os fZ [(6, 0)] ∧ Ns fZ tZ [(6, 11, .int .u64 (p3 % 18446744073709551616))]) (by kernel_rfl) ?_ ?_ ?_
  · exact ⟨{ bel := HB16, lo := (Nat.le_of_lt (by omega)), sz := Nat.le_refl _, ks := ⟨⟨l16s, K16s⟩, trivial⟩, ex := trivial, nw := trivial, nd := trivial }, Gs.none _ _, Os.none _, ⟨fun _ => rfl, trivial⟩⟩
  · rintro fZ tZ uZ iZ oZ aZ hF ⟨hM, hG, hO, hN⟩ ho hfi hdep
    obtain ⟨hS, hV⟩ := hF.two 65 (by decide) rfl (by decide)
    rcases cZ8 ho with rfl | rfl | rfl | rfl | rfl | rfl | rfl | rfl <;> cases ho
    · have yi11 : fZ 6 = false := Os.not (hO.1) hfi
      have ei11 : tZ 11 = .int .u64 (p3 % 18446744073709551616) := hN.1 yi11
      exact t_move ((hV 11 (by decide)).trans ei11) hF hS rfl rfl rfl rfl (by decide) (Jm hM hG hO hN)
    · exact t_move (show aZ.eval (.tmp 7) = .int .u64 o3 from (hF.out 7 (by decide)).trans rfl) hF hS rfl rfl rfl rfl (by decide) (Jm hM hG hO hN)
    · refine op_plain rfl rfl (fun K hK => ?_)
      refine wp_callE rfl (vs := [.int .u64 (p3 % 18446744073709551616), .int .u64 o3, (Go.Value.int Go.IntKind.u64 0)]) (by show [aZ.eval (.tmp 26), aZ.eval (.tmp 27), (Go.Value.int Go.IntKind.u64 0)] = _; rw [(ve 26 hV (hG.1 (dd 0 hdep))), (ve 27 hV (hG.2.1 (dd 1 hdep)))]) (add64_to (p3 % 18446744073709551616) o3 ((p3 + o3) % 18446744073709551616) ((p3 % 18446744073709551616 + o3) / 18446744073709551616) (by omega) (by omega) uZ (by omega) rfl) ?_
      exact tell hK hF hS (by decide) (Jm hM hG hO hN)
    · exact t_move (ve 28 hV (hG.2.2.1 (dd 2 hdep))) hF hS rfl rfl rfl rfl (by decide) (Jm hM hG hO hN)
    · exact t_extract (ve 25 hV (hG.2.2.2.1 (dd 3 hdep))) hF hS rfl rfl rfl rfl rfl (by decide) (Jm hM hG hO hN)
    · exact t_extract (ve 25 hV (hG.2.2.2.1 (dd 3 hdep))) hF hS rfl rfl rfl rfl rfl (by decide) (Jm hM hG hO hN)
    · exact t_assign (ve 29 hV (hG.2.2.2.2.1 (dd 4 hdep))) hF hS rfl rfl rfl rfl (by decide) ⟨hM, Gs.stepA hG rfl rfl, ⟨fun _ => hdep ⟨0, .phase⟩ (by simp) rfl, trivial⟩, Ns.step hN rfl⟩
    · exact t_assign (ve 30 hV (hG.2.2.2.2.2.1 (dd 5 hdep))) hF hS rfl rfl rfl rfl (by decide) (Jm hM hG hO hN)
  rintro fZ tZ u17 ⟨hM, hG, hO, hN⟩ hall
  obtain ⟨e26, e27, e28, e25, e29, e30, e11, e8, -⟩ := Gs.all 8 hall hG rfl
  have HB17 : Below bs w u17 := hM.bel
  have sz17 : u16.heap.size ≤ u17.heap.size := hM.sz
  obtain ⟨⟨l17s, K17s⟩, -⟩ := hM.ks.up hM.sz
  dsimp only at l17s K17s
  simp only [ovr, List.set_cons_zero, List.set_cons_succ, e26, e27, e28, e25, e29, e30, e11, e8]
  clear hM hG hO hN hall e26 e27 e28 e25 e29 e30 e11 e8 K16s HB16
  clear tZ
  go_upto_region 7 with fail
  refine region_plain [31, 32, 33, 10] (fun fZ tZ uZ => MR bs w (u17.heap.size) [(bs, [.int .u64 e0, .int .u64 e1, .int .u64 e2, .int .u64 x3, .int .u64 x4])] [] [] uZ ∧ Gs fZ tZ [(0, 31, .int .u64 (p3 / 18446744073709551616)), (1, 32, .int .u64 ((p3 % 18446744073709551616 + o3) / 18446744073709551616)), (2, 33, .int .u64 ((p3 + o3) / 18446744073709551616)), (3, 10, .int .u64 ((p3 + o3) / 18446744073709551616))] ∧ Os fZ [(3, 0)] ∧ Ns fZ tZ [(3, 10, .int .u64 (p3 / 18446744073709551616))]) (by kernel_rfl) ?_ ?_ ?_
  · exact ⟨{ bel := HB17, lo := (Nat.le_of_lt (by omega)), sz := Nat.le_refl _, ks := ⟨⟨l17s, K17s⟩, trivial⟩, ex := trivial, nw := trivial, nd := trivial }, Gs.none _ _, Os.none _, ⟨fun _ => rfl, trivial⟩⟩
  · rintro fZ tZ uZ iZ oZ aZ hF ⟨hM, hG, hO, hN⟩ ho hfi hdep
    obtain ⟨hS, hV⟩ := hF.two 65 (by decide) rfl (by decide)
    rcases cZ4 ho with rfl | rfl | rfl | rfl <;> cases ho
    · have yi10 : fZ 3 = false := Os.not (hO.1) hfi
      have ei10 : tZ 10 = .int .u64 (p3 / 18446744073709551616) := hN.1 yi10
      exact t_move ((hV 10 (by decide)).trans ei10) hF hS rfl rfl rfl rfl (by decide) (Jm hM hG hO hN)
    · exact t_move (show aZ.eval (.tmp 8) = .int .u64 ((p3 % 18446744073709551616 + o3) / 18446744073709551616) from (hF.out 8 (by decide)).trans rfl) hF hS rfl rfl rfl rfl (by decide) (Jm hM hG hO hN)
    · refine op_plain rfl rfl (fun K hK => ?_)
      refine wp_bin rfl (ve 31 hV (hG.1 (dd 0 hdep))) (ve 32 hV (hG.2.1 (dd 1 hdep))) (add_u _ _ (p3 / 18446744073709551616) ((p3 % 18446744073709551616 + o3) / 18446744073709551616) ((p3 + o3) / 18446744073709551616) uZ (by omega)) ?_
      exact tell hK hF hS (by decide) (Jm hM hG hO hN)
    · exact t_assign (ve 33 hV (hG.2.2.1 (dd 2 hdep))) hF hS rfl rfl rfl rfl (by decide) ⟨hM, Gs.stepA hG rfl rfl, ⟨fun _ => hdep ⟨0, .phase⟩ (by simp) rfl, trivial⟩, Ns.step hN rfl⟩
  rintro fZ tZ u18 ⟨hM, hG, hO, hN⟩ hall
  obtain ⟨e31, e32, e33, e10, -⟩ := Gs.all 4 hall hG rfl
  have HB18 : Below bs w u18 := hM.bel
  have sz18 : u17.heap.size ≤ u18.heap.size := hM.sz
  obtain ⟨⟨l18s, K18s⟩, -⟩ := hM.ks.up hM.sz
  dsimp only at l18s K18s
  simp only [ovr, List.set_cons_zero, List.set_cons_succ, e31, e32, e33, e10]
  clear hM hG hO hN hall e31 e32 e33 e10 K17s HB17
  clear tZ
  go_upto_region 8 with fail
  refine region_drawn [35, 36, 37, 38, 39, 40, 41, 42, 43, 34, 44, 45, 46, 47, 8] (fun fZ tZ uZ => MR bs w (u18.heap.size) [] [(bs, fZ 14, [.int .u64 e0, .int .u64 e1, .int .u64 e2, .int .u64 x3, .int .u64 x4], [.int .u64 e0, .int .u64 e1, .int .u64 e2, .int .u64 e3, .int .u64 x4])] [] uZ ∧ Gs fZ tZ [(0, 35, .pointer (some ⟨bs, 0, none⟩)), (1, 36, .int .i64 3), (2, 37, .pointer (some ⟨bs, 0, none⟩)), (3, 38, .int .i64 3), (4, 39, .pointer (some ⟨bs, 0, none⟩)), (5, 40, .pointer (some ⟨bs, 3, none⟩)), (6, 41, .int .u64 x3), (7, 42, .int .u64 ((p3 + o3) % 18446744073709551616)), (8, 43, .tuple #[.int .u64 e3, .int .u64 ((x3 + (p3 + o3) % 18446744073709551616) / 18446744073709551616)]), (9, 34, .tuple #[.int .u64 e3, .int .u64 ((x3 + (p3 + o3) % 18446744073709551616) / 18446744073709551616)]), (10, 44, .int .u64 e3), (11, 45, .int .u64 ((x3 + (p3 + o3) % 18446744073709551616) / 18446744073709551616)), (12, 46, .pointer (some ⟨bs, 0, none⟩)), (13, 47, .pointer (some ⟨bs, 3, none⟩)), (15, 8, .int .u64 ((x3 + (p3 + o3) % 18446744073709551616) / 18446744073709551616))] ∧ Os fZ [(14, 6)] ∧ Ns fZ tZ []) (by kernel_rfl) (by kernel_rfl) ?_ ?_ ?_
  · exact ⟨{ bel := HB18.drew, lo := (Nat.le_of_lt (by omega)), sz := Nat.le_refl _, ks := trivial, ex := ⟨⟨(Nat.le_refl _), l18s, rfl, K18s⟩, trivial⟩, nw := trivial, nd := trivial }, Gs.none _ _, Os.none _, trivial⟩
  · rintro fZ tZ uZ iZ oZ aZ hF ⟨hM, hG, hO, hN⟩ ho hfi hdep
    obtain ⟨hS, hV⟩ := hF.two 65 (by decide) rfl (by decide)
    rcases cZ16 ho with rfl | rfl | rfl | rfl | rfl | rfl | rfl | rfl | rfl | rfl | rfl | rfl | rfl | rfl | rfl | rfl <;> cases ho
    · exact t_move (show aZ.eval (.tmp 0) = .pointer (some ⟨bs, 0, none⟩) from (hF.out 0 (by decide)).trans rfl) hF hS rfl rfl rfl rfl (by decide) (Jm hM hG hO hN)
    · exact t_move (show aZ.eval (.tmp 9) = .int .i64 3 from (hF.out 9 (by decide)).trans rfl) hF hS rfl rfl rfl rfl (by decide) (Jm hM hG hO hN)
    · exact t_move (show aZ.eval (.tmp 0) = .pointer (some ⟨bs, 0, none⟩) from (hF.out 0 (by decide)).trans rfl) hF hS rfl rfl rfl rfl (by decide) (Jm hM hG hO hN)
    · exact t_move (show aZ.eval (.tmp 9) = .int .i64 3 from (hF.out 9 (by decide)).trans rfl) hF hS rfl rfl rfl rfl (by decide) (Jm hM hG hO hN)
    · refine op_plain rfl rfl (fun K hK => ?_)
      refine wp_nil rfl (ve 37 hV (hG.2.2.1 (dd 2 hdep))) ?_
      exact tell hK hF hS (by decide) (Jm hM hG hO hN)
    · refine op_plain rfl rfl (fun K hK => ?_)
      refine wp_index rfl (ve 39 hV (hG.2.2.2.2.1 (dd 4 hdep))) (ve 38 hV (hG.2.2.2.1 (dd 3 hdep))) (ix_five uZ (bs) 3 (by omega)) ?_
      exact tell hK hF hS (by decide) (Jm hM hG hO hN)
    · refine op_plain rfl rfl (fun K hK => ?_)
      have ys : fZ 14 = false := Os.not (hO.1) hfi
      have kk : CV uZ (bs) (bif fZ 14 then [.int .u64 e0, .int .u64 e1, .int .u64 e2, .int .u64 e3, .int .u64 x4] else [.int .u64 e0, .int .u64 e1, .int .u64 e2, .int .u64 x3, .int .u64 x4]) := hM.ex.1.2.2.2
      rw [ys] at kk
      have kk : CV uZ (bs) ([.int .u64 e0, .int .u64 e1, .int .u64 e2, .int .u64 x3, .int .u64 x4]) := kk
      have kc := (kk 3 _ (rfl)).1
      refine wp_load rfl (ve 40 hV (hG.2.2.2.2.2.1 (dd 5 hdep))) (ld_u64 uZ (bs) 3 _ kc) ?_
      exact tell hK hF hS (by decide) (Jm hM hG hO hN)
    · exact t_move (show aZ.eval (.tmp 11) = .int .u64 ((p3 + o3) % 18446744073709551616) from (hF.out 11 (by decide)).trans rfl) hF hS rfl rfl rfl rfl (by decide) (Jm hM hG hO hN)
    · refine op_plain rfl rfl (fun K hK => ?_)
      refine wp_callE rfl (vs := [.int .u64 x3, .int .u64 ((p3 + o3) % 18446744073709551616), (Go.Value.int Go.IntKind.u64 0)]) (by show [aZ.eval (.tmp 41), aZ.eval (.tmp 42), (Go.Value.int Go.IntKind.u64 0)] = _; rw [(ve 41 hV (hG.2.2.2.2.2.2.1 (dd 6 hdep))), (ve 42 hV (hG.2.2.2.2.2.2.2.1 (dd 7 hdep)))]) (add64_to x3 ((p3 + o3) % 18446744073709551616) e3 ((x3 + (p3 + o3) % 18446744073709551616) / 18446744073709551616) (by omega) (by omega) uZ (by omega) rfl) ?_
      exact tell hK hF hS (by decide) (Jm hM hG hO hN)
    · exact t_move (ve 43 hV (hG.2.2.2.2.2.2.2.2.1 (dd 8 hdep))) hF hS rfl rfl rfl rfl (by decide) (Jm hM hG hO hN)
    · exact t_extract (ve 34 hV (hG.2.2.2.2.2.2.2.2.2.1 (dd 9 hdep))) hF hS rfl rfl rfl rfl rfl (by decide) (Jm hM hG hO hN)
    · exact t_extract (ve 34 hV (hG.2.2.2.2.2.2.2.2.2.1 (dd 9 hdep))) hF hS rfl rfl rfl rfl rfl (by decide) (Jm hM hG hO hN)
    · refine op_plain rfl rfl (fun K hK => ?_)
      refine wp_nil rfl (ve 35 hV (hG.1 (dd 0 hdep))) ?_
      exact tell hK hF hS (by decide) (Jm hM hG hO hN)
    · refine op_plain rfl rfl (fun K hK => ?_)
      refine wp_index rfl (ve 46 hV (hG.2.2.2.2.2.2.2.2.2.2.2.2.1 (dd 12 hdep))) (ve 36 hV (hG.2.1 (dd 1 hdep))) (ix_five uZ (bs) 3 (by omega)) ?_
      exact tell hK hF hS (by decide) (Jm hM hG hO hN)
    · refine op_plain rfl rfl (fun K hK => ?_)
      have kk : CV uZ (bs) (bif fZ 14 then [.int .u64 e0, .int .u64 e1, .int .u64 e2, .int .u64 e3, .int .u64 x4] else [.int .u64 e0, .int .u64 e1, .int .u64 e2, .int .u64 x3, .int .u64 x4]) := hM.ex.1.2.2.2
      rw [hfi] at kk
      have kk : CV uZ (bs) ([.int .u64 e0, .int .u64 e1, .int .u64 e2, .int .u64 x3, .int .u64 x4]) := kk
      refine wp_store rfl (ve 47 hV (hG.2.2.2.2.2.2.2.2.2.2.2.2.2.1 (dd 13 hdep))) (ve 44 hV (hG.2.2.2.2.2.2.2.2.2.2.1 (dd 10 hdep))) (st_u64 uZ (bs) 3 _ _ (kk 3 _ rfl).1 (kk 3 _ rfl).2) ?_
      exact tell0 hK hF ⟨MR.putCF (k := 3) (x := .int .u64 e3) 0 hM rfl hfi (show 3 < 5 by decide) rfl kk trivial trivial, Gs.idle rfl hG, ⟨fun _ => hdep ⟨6, .phase⟩ (by simp) rfl, trivial⟩, Ns.idle hN⟩
    · exact t_assign (ve 45 hV (hG.2.2.2.2.2.2.2.2.2.2.2.1 (dd 11 hdep))) hF hS rfl rfl rfl rfl (by decide) (Jm hM hG hO hN)
  rintro fZ tZ u19 ⟨hM, hG, hO, hN⟩ hall
  obtain ⟨e35, e36, e37, e38, e39, e40, e41, e42, e43, e34, e44, e45, e46, e47, e8, -⟩ := Gs.all 16 hall hG rfl
  have HB19 : Below bs w u19 := hM.bel
  have sz19 : u18.heap.size ≤ u19.heap.size := hM.sz
  have K19s : CV u19 (bs) ([.int .u64 e0, .int .u64 e1, .int .u64 e2, .int .u64 e3, .int .u64 x4]) := by
    have h1 : CV u19 (bs) (bif fZ 14 then [.int .u64 e0, .int .u64 e1, .int .u64 e2, .int .u64 e3, .int .u64 x4] else [.int .u64 e0, .int .u64 e1, .int .u64 e2, .int .u64 x3, .int .u64 x4]) := hM.ex.1.2.2.2
    rw [hall 14 (by decide)] at h1; exact h1
  have l19s : bs < u19.heap.size := Nat.lt_of_lt_of_le hM.ex.1.2.1 hM.sz
  simp only [ovr, List.set_cons_zero, List.set_cons_succ, e35, e36, e37, e38, e39, e40, e41, e42, e43, e34, e44, e45, e46, e47, e8]
  clear hM hG hO hN hall e35 e36 e37 e38 e39 e40 e41 e42 e43 e34 e44 e45 e46 e47 e8 K18s HB18
  clear tZ
  go_upto_region 9 with fail
  refine region_plain [48, 49, 50, 7] (fun fZ tZ uZ => MR bs w (u19.heap.size) [(bs, [.int .u64 e0, .int .u64 e1, .int .u64 e2, .int .u64 e3, .int .u64 x4])] [] [] uZ ∧ Gs fZ tZ [(0, 48, .int .u64 ((p3 + o3) / 18446744073709551616)), (1, 49, .int .u64 ((x3 + (p3 + o3) % 18446744073709551616) / 18446744073709551616)), (2, 50, .int .u64 o4), (3, 7, .int .u64 o4)] ∧ Os fZ [] ∧ Ns fZ tZ []) (by kernel_rfl) ?_ ?_ ?_
  · exact ⟨{ bel := HB19, lo := (Nat.le_of_lt (by omega)), sz := Nat.le_refl _, ks := ⟨⟨l19s, K19s⟩, trivial⟩, ex := trivial, nw := trivial, nd := trivial }, Gs.none _ _, Os.none _, trivial⟩
  · rintro fZ tZ uZ iZ oZ aZ hF ⟨hM, hG, hO, hN⟩ ho hfi hdep
    obtain ⟨hS, hV⟩ := hF.two 65 (by decide) rfl (by decide)
    rcases cZ4 ho with rfl | rfl | rfl | rfl <;> cases ho
    · exact t_move (show aZ.eval (.tmp 10) = .int .u64 ((p3 + o3) / 18446744073709551616) from (hF.out 10 (by decide)).trans rfl) hF hS rfl rfl rfl rfl (by decide) (Jt hM hG hN)
    · exact t_move (show aZ.eval (.tmp 8) = .int .u64 ((x3 + (p3 + o3) % 18446744073709551616) / 18446744073709551616) from (hF.out 8 (by decide)).trans rfl) hF hS rfl rfl rfl rfl (by decide) (Jt hM hG hN)
    · refine op_plain rfl rfl (fun K hK => ?_)
      refine wp_bin rfl (ve 48 hV (hG.1 (dd 0 hdep))) (ve 49 hV (hG.2.1 (dd 1 hdep))) (add_u _ _ ((p3 + o3) / 18446744073709551616) ((x3 + (p3 + o3) % 18446744073709551616) / 18446744073709551616) o4 uZ (by omega)) ?_
      exact tell hK hF hS (by decide) (Jt hM hG hN)
    · exact t_assign (ve 50 hV (hG.2.2.1 (dd 2 hdep))) hF hS rfl rfl rfl rfl (by decide) (Jt hM hG hN)
  rintro fZ tZ u20 ⟨hM, hG, hO, hN⟩ hall
  obtain ⟨e48, e49, e50, e7, -⟩ := Gs.all 4 hall hG rfl
  have HB20 : Below bs w u20 := hM.bel
  have sz20 : u19.heap.size ≤ u20.heap.size := hM.sz
  obtain ⟨⟨l20s, K20s⟩, -⟩ := hM.ks.up hM.sz
  dsimp only at l20s K20s
  simp only [ovr, List.set_cons_zero, List.set_cons_succ, e48, e49, e50, e7]
  clear hM hG hO hN hall e48 e49 e50 e7 K19s HB19
  clear tZ
  go_wp2
  rw [rounds_succ]
  go_upto_region 11 with fail
  refine region_drawn [53, 54, 55, 56, 57, 58, 59, 52, 60, 61, 62, 63, 8] (fun fZ tZ uZ => MR bs w (u20.heap.size) [] [(bs, fZ 12, [.int .u64 e0, .int .u64 e1, .int .u64 e2, .int .u64 e3, .int .u64 x4], [.int .u64 e0, .int .u64 e1, .int .u64 e2, .int .u64 e3, .int .u64 e4])] [] uZ ∧ Gs fZ tZ [(0, 53, .pointer (some ⟨bs, 0, none⟩)), (1, 54, .pointer (some ⟨bs, 0, none⟩)), (2, 55, .pointer (some ⟨bs, 0, none⟩)), (3, 56, .pointer (some ⟨bs, 4, none⟩)), (4, 57, .int .u64 x4), (5, 58, .int .u64 o4), (6, 59, .tuple #[.int .u64 e4, .int .u64 c]), (7, 52, .tuple #[.int .u64 e4, .int .u64 c]), (8, 60, .int .u64 e4), (9, 61, .int .u64 c), (10, 62, .pointer (some ⟨bs, 0, none⟩)), (11, 63, .pointer (some ⟨bs, 4, none⟩)), (13, 8, .int .u64 c)] ∧ Os fZ [(12, 4)] ∧ Ns fZ tZ []) (by kernel_rfl) (by kernel_rfl) ?_ ?_ ?_
  · exact ⟨{ bel := HB20.drew, lo := (Nat.le_of_lt (by omega)), sz := Nat.le_refl _, ks := trivial, ex := ⟨⟨(Nat.le_refl _), l20s, rfl, K20s⟩, trivial⟩, nw := trivial, nd := trivial }, Gs.none _ _, Os.none _, trivial⟩
  · rintro fZ tZ uZ iZ oZ aZ hF ⟨hM, hG, hO, hN⟩ ho hfi hdep
    obtain ⟨hS, hV⟩ := hF.two 65 (by decide) rfl (by decide)
    rcases cZ14 ho with rfl | rfl | rfl | rfl | rfl | rfl | rfl | rfl | rfl | rfl | rfl | rfl | rfl | rfl <;> cases ho
    · exact t_move (show aZ.eval (.tmp 0) = .pointer (some ⟨bs, 0, none⟩) from (hF.out 0 (by decide)).trans rfl) hF hS rfl rfl rfl rfl (by decide) (Jm hM hG hO hN)
    · exact t_move (show aZ.eval (.tmp 0) = .pointer (some ⟨bs, 0, none⟩) from (hF.out 0 (by decide)).trans rfl) hF hS rfl rfl rfl rfl (by decide) (Jm hM hG hO hN)
    · refine op_plain rfl rfl (fun K hK => ?_)
      refine wp_nil rfl (ve 54 hV (hG.2.1 (dd 1 hdep))) ?_
      exact tell hK hF hS (by decide) (Jm hM hG hO hN)
    · refine op_plain rfl rfl (fun K hK => ?_)
      refine wp_index rfl (ve 55 hV (hG.2.2.1 (dd 2 hdep))) rfl (ix_five uZ (bs) 4 (by omega)) ?_
      exact tell hK hF hS (by decide) (Jm hM hG hO hN)
    · refine op_plain rfl rfl (fun K hK => ?_)
      have ys : fZ 12 = false := Os.not (hO.1) hfi
      have kk : CV uZ (bs) (bif fZ 12 then [.int .u64 e0, .int .u64 e1, .int .u64 e2, .int .u64 e3, .int .u64 e4] else [.int .u64 e0, .int .u64 e1, .int .u64 e2, .int .u64 e3, .int .u64 x4]) := hM.ex.1.2.2.2
      rw [ys] at kk
      have kk : CV uZ (bs) ([.int .u64 e0, .int .u64 e1, .int .u64 e2, .int .u64 e3, .int .u64 x4]) := kk
      have kc := (kk 4 _ (rfl)).1
      refine wp_load rfl (ve 56 hV (hG.2.2.2.1 (dd 3 hdep))) (ld_u64 uZ (bs) 4 _ kc) ?_
      exact tell hK hF hS (by decide) (Jm hM hG hO hN)
    · exact t_move (show aZ.eval (.tmp 7) = .int .u64 o4 from (hF.out 7 (by decide)).trans rfl) hF hS rfl rfl rfl rfl (by decide) (Jm hM hG hO hN)
    · refine op_plain rfl rfl (fun K hK => ?_)
      refine wp_callE rfl (vs := [.int .u64 x4, .int .u64 o4, (Go.Value.int Go.IntKind.u64 0)]) (by show [aZ.eval (.tmp 57), aZ.eval (.tmp 58), (Go.Value.int Go.IntKind.u64 0)] = _; rw [(ve 57 hV (hG.2.2.2.2.1 (dd 4 hdep))), (ve 58 hV (hG.2.2.2.2.2.1 (dd 5 hdep)))]) (add64_to x4 o4 e4 c (by omega) (by omega) uZ (by omega) (by omega)) ?_
      exact tell hK hF hS (by decide) (Jm hM hG hO hN)
    · exact t_move (ve 59 hV (hG.2.2.2.2.2.2.1 (dd 6 hdep))) hF hS rfl rfl rfl rfl (by decide) (Jm hM hG hO hN)
    · exact t_extract (ve 52 hV (hG.2.2.2.2.2.2.2.1 (dd 7 hdep))) hF hS rfl rfl rfl rfl rfl (by decide) (Jm hM hG hO hN)
    · exact t_extract (ve 52 hV (hG.2.2.2.2.2.2.2.1 (dd 7 hdep))) hF hS rfl rfl rfl rfl rfl (by decide) (Jm hM hG hO hN)
    · refine op_plain rfl rfl (fun K hK => ?_)
      refine wp_nil rfl (ve 53 hV (hG.1 (dd 0 hdep))) ?_
      exact tell hK hF hS (by decide) (Jm hM hG hO hN)
    · refine op_plain rfl rfl (fun K hK => ?_)
      refine wp_index rfl (ve 62 hV (hG.2.2.2.2.2.2.2.2.2.2.1 (dd 10 hdep))) rfl (ix_five uZ (bs) 4 (by omega)) ?_
      exact tell hK hF hS (by decide) (Jm hM hG hO hN)
    · refine op_plain rfl rfl (fun K hK => ?_)
      have kk : CV uZ (bs) (bif fZ 12 then [.int .u64 e0, .int .u64 e1, .int .u64 e2, .int .u64 e3, .int .u64 e4] else [.int .u64 e0, .int .u64 e1, .int .u64 e2, .int .u64 e3, .int .u64 x4]) := hM.ex.1.2.2.2
      rw [hfi] at kk
      have kk : CV uZ (bs) ([.int .u64 e0, .int .u64 e1, .int .u64 e2, .int .u64 e3, .int .u64 x4]) := kk
      refine wp_store rfl (ve 63 hV (hG.2.2.2.2.2.2.2.2.2.2.2.1 (dd 11 hdep))) (ve 60 hV (hG.2.2.2.2.2.2.2.2.1 (dd 8 hdep))) (st_u64 uZ (bs) 4 _ _ (kk 4 _ rfl).1 (kk 4 _ rfl).2) ?_
      exact tell0 hK hF ⟨MR.putCF (k := 4) (x := .int .u64 e4) 0 hM rfl hfi (show 4 < 5 by decide) rfl kk trivial trivial, Gs.idle rfl hG, ⟨fun _ => hdep ⟨4, .phase⟩ (by simp) rfl, trivial⟩, Ns.idle hN⟩
    · exact t_assign (ve 61 hV (hG.2.2.2.2.2.2.2.2.2.1 (dd 9 hdep))) hF hS rfl rfl rfl rfl (by decide) (Jm hM hG hO hN)
  rintro fZ tZ u21 ⟨hM, hG, hO, hN⟩ hall
  obtain ⟨e53, e54, e55, e56, e57, e58, e59, e52, e60, e61, e62, e63, e8, -⟩ := Gs.all 14 hall hG rfl
  have HB21 : Below bs w u21 := hM.bel
  have sz21 : u20.heap.size ≤ u21.heap.size := hM.sz
  have K21s : CV u21 (bs) ([.int .u64 e0, .int .u64 e1, .int .u64 e2, .int .u64 e3, .int .u64 e4]) := by
    have h1 : CV u21 (bs) (bif fZ 12 then [.int .u64 e0, .int .u64 e1, .int .u64 e2, .int .u64 e3, .int .u64 e4] else [.int .u64 e0, .int .u64 e1, .int .u64 e2, .int .u64 e3, .int .u64 x4]) := hM.ex.1.2.2.2
    rw [hall 12 (by decide)] at h1; exact h1
  have l21s : bs < u21.heap.size := Nat.lt_of_lt_of_le hM.ex.1.2.1 hM.sz
  simp only [ovr, List.set_cons_zero, List.set_cons_succ, e53, e54, e55, e56, e57, e58, e59, e52, e60, e61, e62, e63, e8]
  clear hM hG hO hN hall e53 e54 e55 e56 e57 e58 e59 e52 e60 e61 e62 e63 e8 K20s HB20
  clear tZ
  go_upto_region 12 with fail
  refine region_plain [64, 6] (fun fZ tZ uZ => MR bs w (u21.heap.size) [(bs, [.int .u64 e0, .int .u64 e1, .int .u64 e2, .int .u64 e3, .int .u64 e4])] [] [] uZ ∧ Gs fZ tZ [(0, 64, .int .u64 c), (1, 6, .int .u64 c)] ∧ Os fZ [] ∧ Ns fZ tZ []) (by kernel_rfl) ?_ ?_ ?_
  · exact ⟨{ bel := HB21, lo := (Nat.le_of_lt (by omega)), sz := Nat.le_refl _, ks := ⟨⟨l21s, K21s⟩, trivial⟩, ex := trivial, nw := trivial, nd := trivial }, Gs.none _ _, Os.none _, trivial⟩
  · rintro fZ tZ uZ iZ oZ aZ hF ⟨hM, hG, hO, hN⟩ ho hfi hdep
    obtain ⟨hS, hV⟩ := hF.two 65 (by decide) rfl (by decide)
    rcases cZ2 ho with rfl | rfl <;> cases ho
    · exact t_move (show aZ.eval (.tmp 8) = .int .u64 c from (hF.out 8 (by decide)).trans rfl) hF hS rfl rfl rfl rfl (by decide) (Jt hM hG hN)
    · exact t_assign (ve 64 hV (hG.1 (dd 0 hdep))) hF hS rfl rfl rfl rfl (by decide) (Jt hM hG hN)
  rintro fZ tZ u22 ⟨hM, hG, hO, hN⟩ hall
  obtain ⟨e64, e6, -⟩ := Gs.all 2 hall hG rfl
  have HB22 : Below bs w u22 := hM.bel
  have sz22 : u21.heap.size ≤ u22.heap.size := hM.sz
  obtain ⟨⟨l22s, K22s⟩, -⟩ := hM.ks.up hM.sz
  dsimp only at l22s K22s
  simp only [ovr, List.set_cons_zero, List.set_cons_succ, e64, e6]
  clear hM hG hO hN hall e64 e6 K21s HB21
  clear tZ
  go_wp2
  refine bodyPost_ret (v := .int .u64 c) (by simp [results, Try.results112, go_sem]) rfl ⟨?_, HB22, ?_⟩
  · rw [He.out.2.2.2.2.2]
  · have h1 := K22s
    rw [L5, He.out.1, He.out.2.1, He.out.2.2.1, He.out.2.2.2.1, He.out.2.2.2.2.1]; exact h1
end Go.Proofs.Ytkpnjmfndgfogaa
