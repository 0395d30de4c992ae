/- Plain numbers: one step of the long division. -/
import Derived.Test.YtgfggkinmhhdnaaP1
namespace Go.Proofs.Ytgfggkinmhhdnaa
set_option linter.unusedVariables false
/-- The guess. -/
def gs (r2 r3 d3 : Int) : Int := if d3 ≤ r3 then 18446744073709551615 else (r3 * 18446744073709551616 + r2) / d3
theorem gs_bd (r2 r3 d3 : Int) (h2 : W64 r2) (h3 : W64 r3) (hd : W64 d3) (h : 9223372036854775808 ≤ d3) : 0 ≤ gs r2 r3 d3 ∧ gs r2 r3 d3 ≤ 18446744073709551615 := by
  obtain ⟨a1, a2⟩ := h2; obtain ⟨b1, b2⟩ := h3; obtain ⟨c1, c2⟩ := hd
  unfold gs; split
  · omega
  · refine ⟨Int.ediv_nonneg (by omega) (by omega), ?_⟩
    have : (r3 * 18446744073709551616 + r2) / d3 < 18446744073709551616 := Int.ediv_lt_of_lt_mul (by omega) (by omega)
    omega
theorem gs_ge (n r0 r1 r2 r3 d0 d1 d2 d3 : Int) (hn : W64 n) (h0 : W64 r0) (h1 : W64 r1) (h2 : W64 r2) (h3 : W64 r3) (k0 : W64 d0) (k1 : W64 d1) (k2 : W64 d2) (hd : W64 d3) (h : 9223372036854775808 ≤ d3)
    (hlt : V r0 r1 r2 r3 < V d0 d1 d2 d3) : (V r0 r1 r2 r3 * 18446744073709551616 + n) / V d0 d1 d2 d3 ≤ gs r2 r3 d3 := by
  obtain ⟨a1, a2⟩ := hn; obtain ⟨b1, b2⟩ := h0; obtain ⟨c1, c2⟩ := h1; obtain ⟨e1, e2⟩ := h2; obtain ⟨f1, f2⟩ := h3
  obtain ⟨p1, p2⟩ := k0; obtain ⟨q1, q2⟩ := k1; obtain ⟨s1, s2⟩ := k2; obtain ⟨t1, t2⟩ := hd
  have hD : 0 < V d0 d1 d2 d3 := by unfold V; omega
  have hN : 0 ≤ V r0 r1 r2 r3 := by unfold V; omega
  unfold gs; split
  · have : (V r0 r1 r2 r3 * 18446744073709551616 + n) / V d0 d1 d2 d3 < 18446744073709551616 := Int.ediv_lt_of_lt_mul hD (by omega)
    omega
  · have hq := Int.ediv_mul_le (V r0 r1 r2 r3 * 18446744073709551616 + n) (show V d0 d1 d2 d3 ≠ 0 by omega)
    have hq0 : 0 ≤ (V r0 r1 r2 r3 * 18446744073709551616 + n) / V d0 d1 d2 d3 := Int.ediv_nonneg (by omega) (by omega)
    generalize (V r0 r1 r2 r3 * 18446744073709551616 + n) / V d0 d1 d2 d3 = q at *
    refine (Int.le_ediv_iff_mul_le (by omega)).2 ?_
    have e : q * V d0 d1 d2 d3 = q * d0 + q * d1 * 18446744073709551616 + q * d2 * 340282366920938463463374607431768211456 + q * d3 * 6277101735386680763835789423207666416102355444464034512896 := by
      unfold V; rw [Int.mul_add, Int.mul_add, Int.mul_add, Int.mul_assoc, Int.mul_assoc, Int.mul_assoc]
    have m0 : 0 ≤ q * d0 := Int.mul_nonneg hq0 p1
    have m1 : 0 ≤ q * d1 := Int.mul_nonneg hq0 q1
    have m2 : 0 ≤ q * d2 := Int.mul_nonneg hq0 s1
    rw [e] at hq
    unfold V at hq
    omega
/-- Less the row. -/
theorem st_sub (L r3 p : Int) :
    D0 (L - V (D0 p) (D1 p) (D2 p) (D3 p)) = D0 (L + r3 * 115792089237316195423570985008687907853269984665640564039457584007913129639936 - p) ∧
    D1 (L - V (D0 p) (D1 p) (D2 p) (D3 p)) = D1 (L + r3 * 115792089237316195423570985008687907853269984665640564039457584007913129639936 - p) ∧
    D2 (L - V (D0 p) (D1 p) (D2 p) (D3 p)) = D2 (L + r3 * 115792089237316195423570985008687907853269984665640564039457584007913129639936 - p) ∧
    D3 (L - V (D0 p) (D1 p) (D2 p) (D3 p)) = D3 (L + r3 * 115792089237316195423570985008687907853269984665640564039457584007913129639936 - p) ∧
    r3 - (D4 p + -D4 (L - V (D0 p) (D1 p) (D2 p) (D3 p))) = D4 (L + r3 * 115792089237316195423570985008687907853269984665640564039457584007913129639936 - p) := by
  rw [V_D]
  unfold D0 D1 D2 D3 D4
  refine ⟨?_, ?_, ?_, ?_, ?_⟩ <;> omega
/-- And the divisor. -/
theorem st_add (R D : Int) :
    D0 (V (D0 R) (D1 R) (D2 R) (D3 R) + D) = D0 (R + D) ∧ D1 (V (D0 R) (D1 R) (D2 R) (D3 R) + D) = D1 (R + D) ∧
    D2 (V (D0 R) (D1 R) (D2 R) (D3 R) + D) = D2 (R + D) ∧ D3 (V (D0 R) (D1 R) (D2 R) (D3 R) + D) = D3 (R + D) ∧
    D4 R + D4 (V (D0 R) (D1 R) (D2 R) (D3 R) + D) = D4 (R + D) := by
  rw [V_D]
  unfold D0 D1 D2 D3 D4
  refine ⟨?_, ?_, ?_, ?_, ?_⟩ <;> omega
/-- Is there a top part? -/
theorem st_top (N D g : Int) (hN : 0 ≤ N) (hD : 0 < D ∧ D < 115792089237316195423570985008687907853269984665640564039457584007913129639936) (hg : N / D ≤ g ∧ 0 ≤ g ∧ g ≤ 18446744073709551615) :
    (D4 (N - D * g) % 18446744073709551616 = 0 → g = N / D ∧ N - D * g = N % D) ∧ (D4 (N - D * g) % 18446744073709551616 ≠ 0 → N / D ≤ g - 1) := by
  have e := Int.mul_ediv_add_emod N D
  have m1 := Int.emod_nonneg N (show D ≠ 0 by omega)
  have m2 := Int.emod_lt_of_pos N hD.1
  have u : D * (N / D) ≤ D * g := Int.mul_le_mul_of_nonneg_left hg.1 (by omega)
  have b : D * g ≤ 115792089237316195423570985008687907853269984665640564039457584007913129639935 * 18446744073709551615 := Int.mul_le_mul (by omega) hg.2.2 hg.2.1 (by omega)
  constructor
  · intro h
    have h0 : 0 ≤ N - D * g := by unfold D4 at h; omega
    have hle : g ≤ N / D := (Int.le_ediv_iff_mul_le hD.1).2 (by rw [Int.mul_comm]; omega)
    have hge : g = N / D := by omega
    exact ⟨hge, by rw [hge]; omega⟩
  · intro h
    by_cases c : g = N / D
    · exfalso; apply h
      rw [c]
      unfold D4; omega
    · omega
theorem st_dec (N D g : Int) : N - D * g + D = N - D * (g - 1) := by rw [Int.mul_sub]; omega
end Go.Proofs.Ytgfggkinmhhdnaa
