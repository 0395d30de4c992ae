/- Plain facts on long division. -/
import Derived.Test.YtgfggkinmhhdnaaP1
namespace Go.Proofs.Ytgfggkinmhhdnaa
set_option linter.unusedVariables false
theorem div_words (a b c d e f g h m0 m1 m2 m3 up : Int) (ha : W64 a) (hb : W64 b) (hc : W64 c) (hd : W64 d) (he : W64 e) (hf : W64 f) (hg : W64 g) (hh : W64 h) (hm0 : W64 m0) (hm1 : W64 m1) (hm2 : W64 m2) (hm3 : W64 m3) (hM : (V m0 m1 m2 m3) ≠ 0) (u3 : 57896044618658097711785492504343953926634992332820282019728792003956564819968 ≤ (V m0 m1 m2 m3) * 2 ^ up.toNat) (u4 : (V m0 m1 m2 m3) * 2 ^ up.toNat < 115792089237316195423570985008687907853269984665640564039457584007913129639936) :
    ∃ x0 x1 x2 x3 x4 x5 x6 x7 x8 x9 x10 x11 d0 d1 d2 d3 e4 e5 e6 e7 e8 e9 e10 e11 : Int, [D0 ((V a b c d + V e f g h * 115792089237316195423570985008687907853269984665640564039457584007913129639936) * 2 ^ up.toNat), D1 ((V a b c d + V e f g h * 115792089237316195423570985008687907853269984665640564039457584007913129639936) * 2 ^ up.toNat), D2 ((V a b c d + V e f g h * 115792089237316195423570985008687907853269984665640564039457584007913129639936) * 2 ^ up.toNat), D3 ((V a b c d + V e f g h * 115792089237316195423570985008687907853269984665640564039457584007913129639936) * 2 ^ up.toNat), D0 (D4 ((V a b c d + V e f g h * 115792089237316195423570985008687907853269984665640564039457584007913129639936) * 2 ^ up.toNat)), D1 (D4 ((V a b c d + V e f g h * 115792089237316195423570985008687907853269984665640564039457584007913129639936) * 2 ^ up.toNat)), D2 (D4 ((V a b c d + V e f g h * 115792089237316195423570985008687907853269984665640564039457584007913129639936) * 2 ^ up.toNat)), D3 (D4 ((V a b c d + V e f g h * 115792089237316195423570985008687907853269984665640564039457584007913129639936) * 2 ^ up.toNat)), D0 (D4 (D4 ((V a b c d + V e f g h * 115792089237316195423570985008687907853269984665640564039457584007913129639936) * 2 ^ up.toNat))), D1 (D4 (D4 ((V a b c d + V e f g h * 115792089237316195423570985008687907853269984665640564039457584007913129639936) * 2 ^ up.toNat))), D2 (D4 (D4 ((V a b c d + V e f g h * 115792089237316195423570985008687907853269984665640564039457584007913129639936) * 2 ^ up.toNat))), D3 (D4 (D4 ((V a b c d + V e f g h * 115792089237316195423570985008687907853269984665640564039457584007913129639936) * 2 ^ up.toNat)))] = [x0, x1, x2, x3, x4, x5, x6, x7, x8, x9, x10, x11] ∧ [D0 (((V m0 m1 m2 m3) + V 0 0 0 0 * 115792089237316195423570985008687907853269984665640564039457584007913129639936) * 2 ^ up.toNat), D1 (((V m0 m1 m2 m3) + V 0 0 0 0 * 115792089237316195423570985008687907853269984665640564039457584007913129639936) * 2 ^ up.toNat), D2 (((V m0 m1 m2 m3) + V 0 0 0 0 * 115792089237316195423570985008687907853269984665640564039457584007913129639936) * 2 ^ up.toNat), D3 (((V m0 m1 m2 m3) + V 0 0 0 0 * 115792089237316195423570985008687907853269984665640564039457584007913129639936) * 2 ^ up.toNat), D0 (D4 (((V m0 m1 m2 m3) + V 0 0 0 0 * 115792089237316195423570985008687907853269984665640564039457584007913129639936) * 2 ^ up.toNat)), D1 (D4 (((V m0 m1 m2 m3) + V 0 0 0 0 * 115792089237316195423570985008687907853269984665640564039457584007913129639936) * 2 ^ up.toNat)), D2 (D4 (((V m0 m1 m2 m3) + V 0 0 0 0 * 115792089237316195423570985008687907853269984665640564039457584007913129639936) * 2 ^ up.toNat)), D3 (D4 (((V m0 m1 m2 m3) + V 0 0 0 0 * 115792089237316195423570985008687907853269984665640564039457584007913129639936) * 2 ^ up.toNat)), D0 (D4 (D4 (((V m0 m1 m2 m3) + V 0 0 0 0 * 115792089237316195423570985008687907853269984665640564039457584007913129639936) * 2 ^ up.toNat))), D1 (D4 (D4 (((V m0 m1 m2 m3) + V 0 0 0 0 * 115792089237316195423570985008687907853269984665640564039457584007913129639936) * 2 ^ up.toNat))), D2 (D4 (D4 (((V m0 m1 m2 m3) + V 0 0 0 0 * 115792089237316195423570985008687907853269984665640564039457584007913129639936) * 2 ^ up.toNat))), D3 (D4 (D4 (((V m0 m1 m2 m3) + V 0 0 0 0 * 115792089237316195423570985008687907853269984665640564039457584007913129639936) * 2 ^ up.toNat)))] = [d0, d1, d2, d3, e4, e5, e6, e7, e8, e9, e10, e11] ∧ (W64 x0 ∧ W64 x1 ∧ W64 x2 ∧ W64 x3 ∧ W64 x4 ∧ W64 x5 ∧ W64 x6 ∧ W64 x7 ∧ W64 x8 ∧ W64 x9 ∧ W64 x10 ∧ W64 x11 ∧ W64 d0 ∧ W64 d1 ∧ W64 d2 ∧ W64 d3) ∧ V d0 d1 d2 d3 = (V m0 m1 m2 m3) * 2 ^ up.toNat ∧ 9223372036854775808 ≤ d3 ∧
      (x0 + 18446744073709551616 * (x1 + 18446744073709551616 * (x2 + 18446744073709551616 * (x3 + 18446744073709551616 * (x4 + 18446744073709551616 * (x5 + 18446744073709551616 * (x6 + 18446744073709551616 * (x7 + 18446744073709551616 * V x8 x9 x10 x11)))))))) = (V a b c d + V e f g h * 115792089237316195423570985008687907853269984665640564039457584007913129639936) * 2 ^ up.toNat ∧ V x8 x9 x10 x11 < V d0 d1 d2 d3 := by
  have hp : (0 : Int) < 2 ^ up.toNat := Int.pow_pos (by omega)
  have hb1 := V_bd a b c d ha hb hc hd
  have hb2 := V_bd e f g h he hf hg hh
  have hb3 := V_bd m0 m1 m2 m3 hm0 hm1 hm2 hm3
  have eD : (((V m0 m1 m2 m3) + V 0 0 0 0 * 115792089237316195423570985008687907853269984665640564039457584007913129639936) * 2 ^ up.toNat) = (V m0 m1 m2 m3) * 2 ^ up.toNat := by
    have : V 0 0 0 0 = 0 := rfl
    rw [this]; simp
  have hle : (2 : Int) ^ up.toNat ≤ (V m0 m1 m2 m3) * 2 ^ up.toNat := by
    have := Int.mul_le_mul_of_nonneg_right (a := 1) (b := (V m0 m1 m2 m3)) (c := 2 ^ up.toNat) (by omega) (by omega)
    omega
  have hx1 : ((V a b c d + V e f g h * 115792089237316195423570985008687907853269984665640564039457584007913129639936) * 2 ^ up.toNat) ≤ (115792089237316195423570985008687907853269984665640564039457584007913129639936 * 115792089237316195423570985008687907853269984665640564039457584007913129639936 - 1) * 2 ^ up.toNat := Int.mul_le_mul_of_nonneg_right (by omega) (by omega)
  have hx0 : 0 ≤ ((V a b c d + V e f g h * 115792089237316195423570985008687907853269984665640564039457584007913129639936) * 2 ^ up.toNat) := Int.mul_nonneg (by omega) (by omega)
  rw [eD]
  generalize ((V a b c d + V e f g h * 115792089237316195423570985008687907853269984665640564039457584007913129639936) * 2 ^ up.toNat) = n at *
  generalize (V m0 m1 m2 m3) * 2 ^ up.toNat = m at *
  generalize (2 : Int) ^ up.toNat = p at *
  refine ⟨_, _, _, _, _, _, _, _, _, _, _, _, _, _, _, _, _, _, _, _, _, _, _, _, rfl, rfl, ⟨W_D0 _, W_D1 _, W_D2 _, W_D3 _, W_D0 _, W_D1 _, W_D2 _, W_D3 _, W_D0 _, W_D1 _, W_D2 _, W_D3 _, W_D0 _, W_D1 _, W_D2 _, W_D3 _⟩, ?_, ?_, ?_, ?_⟩
  · rw [V_D]; omega
  · unfold D3; omega
  · unfold V D0 D1 D2 D3 D4; omega
  · rw [V_D, V_D]; unfold D4; omega
theorem div_q (r x d q r' : Int) (h0 : 0 ≤ r) (h1 : r < d) (hx : W64 x) (eq : (r * 18446744073709551616 + x) / d = q) (er : (r * 18446744073709551616 + x) % d = r') : r * 18446744073709551616 + x = q * d + r' ∧ W64 q ∧ 0 ≤ r' ∧ r' < d := by
  obtain ⟨x1, x2⟩ := hx
  have hd := Int.mul_ediv_add_emod (r * 18446744073709551616 + x) d
  have e0 := Int.emod_nonneg (r * 18446744073709551616 + x) (b := d) (by omega)
  have e1 := Int.emod_lt_of_pos (r * 18446744073709551616 + x) (b := d) (by omega)
  rw [eq, er] at hd; rw [er] at e0 e1
  refine ⟨by rw [Int.mul_comm q d]; omega, ⟨?_, ?_⟩, e0, e1⟩
  · rw [← eq]; exact Int.ediv_nonneg (by omega) (by omega)
  · rw [← eq]; exact Int.ediv_lt_of_lt_mul (by omega) (by omega)
theorem div_step (P Q d r x q r' : Int) (h : P = Q * d + r) (h' : r * 18446744073709551616 + x = q * d + r') : (x + 18446744073709551616 * P) = (q + 18446744073709551616 * Q) * d + r' := by
  rw [h, Int.add_mul, Int.mul_assoc]; omega
theorem div_end (n m p Q R : Int) (hp : 0 < p) (hm : 0 < m) (h : n * p = Q * (m * p) + R) (h0 : 0 ≤ R) (h1 : R < m * p) : Q = n / m ∧ R / p = n % m := by
  have e : n * p - R = Q * m * p := by rw [h, Int.mul_assoc]; omega
  have hR : R = (n - Q * m) * p := by rw [Int.sub_mul]; omega
  have k0 : 0 ≤ n - Q * m := by
    rcases Int.lt_or_le (n - Q * m) 0 with hl | hl
    · exfalso
      have := Int.mul_neg_of_neg_of_pos hl hp
      omega
    · exact hl
  have k1 : n - Q * m < m := by
    rcases Int.lt_or_le (n - Q * m) m with hl | hl
    · exact hl
    · exfalso
      have := Int.mul_le_mul_of_nonneg_right hl (Int.le_of_lt hp)
      omega
  have q : n / m = Q := by
    have : n = (n - Q * m) + Q * m := by omega
    rw [this, Int.add_mul_ediv_right _ _ (by omega), Int.ediv_eq_zero_of_lt k0 k1]; omega
  refine ⟨q.symm, ?_⟩
  rw [hR, Int.mul_ediv_cancel _ (by omega), Int.emod_def, q, Int.mul_comm]
end Go.Proofs.Ytgfggkinmhhdnaa
