/- What LimbDivides calls, in its words. -/
import Derived.Test.YtajpjbhppjlehaaL0
namespace Go.Proofs.Ytajpjbhppjlehaa
open Go.RowKit
set_option linter.unusedVariables false
theorem NV_words (n : Int) : ∃ r0 r1 r2 r3 : Int, NV n = A4 r0 r1 r2 r3 ∧ W64 r0 ∧ W64 r1 ∧ W64 r2 ∧ W64 r3 ∧ V r0 r1 r2 r3 = n % 115792089237316195423570985008687907853269984665640564039457584007913129639936 :=
  ⟨_, _, _, _, rfl, W_D0 _, W_D1 _, W_D2 _, W_D3 _, V_D n⟩
theorem divides_words (a b c d m0 m1 m2 m3 : Int) (ha : W64 a) (hb : W64 b) (hc : W64 c) (hd : W64 d) (h0 : W64 m0) (h1 : W64 m1) (h2 : W64 m2) (h3 : W64 m3) (hM : V m0 m1 m2 m3 ≠ 0) :
    ∃ q0 q1 q2 q3 r0 r1 r2 r3 p0 p1 p2 p3 : Int,
      (∀ u, Calls Try.prog 18 #[A8 a b c d 0 0 0 0, A4 m0 m1 m2 m3] u fun en u' => en = .returned (.tuple #[A8 q0 q1 q2 q3 0 0 0 0, A4 r0 r1 r2 r3, .int .i64 0]) ∧ Below u.heap.size u u') ∧
      (∀ u, Calls Try.prog 20 #[A4 q0 q1 q2 q3, A4 m0 m1 m2 m3] u fun en u' => en = .returned (A8 p0 p1 p2 p3 0 0 0 0) ∧ Below u.heap.size u u') ∧
      (∀ u, Calls Try.prog 9 #[A4 p0 p1 p2 p3, A4 r0 r1 r2 r3] u fun en u' => en = .returned (.tuple #[A4 a b c d, .bool false]) ∧ Below u.heap.size u u') ∧
      (∀ u, Calls Try.prog 13 #[A4 r0 r1 r2 r3, A4 m0 m1 m2 m3] u fun en u' => en = .returned (.int .i64 (-1)) ∧ Below u.heap.size u u') := by
  have ka := V_bd a b c d ha hb hc hd
  have km := V_bd m0 m1 m2 m3 h0 h1 h2 h3
  have e := Int.mul_ediv_add_emod (V a b c d) (V m0 m1 m2 m3)
  have e0 := Int.emod_nonneg (V a b c d) hM
  have e1 := Int.emod_lt_of_pos (V a b c d) (b := V m0 m1 m2 m3) (by omega)
  have eq0 : 0 ≤ V a b c d / V m0 m1 m2 m3 := Int.ediv_nonneg ka.1 km.1
  have eq1 : V a b c d / V m0 m1 m2 m3 ≤ V a b c d := Int.ediv_le_self _ ka.1
  rw [Int.mul_comm] at e
  obtain ⟨q, hq⟩ : ∃ q, V a b c d / V m0 m1 m2 m3 = q := ⟨_, rfl⟩
  obtain ⟨r, hr⟩ : ∃ r, V a b c d % V m0 m1 m2 m3 = r := ⟨_, rfl⟩
  rw [hq] at e eq0 eq1
  rw [hr] at e e0 e1
  obtain ⟨r0, r1, r2, r3, er, wr0, wr1, wr2, wr3, vr⟩ := NV_words r
  have hp0 : 0 ≤ q * V m0 m1 m2 m3 := Int.mul_nonneg eq0 km.1
  obtain ⟨q0, q1, q2, q3, eqq, wq0, wq1, wq2, wq3, vq⟩ := NV_words q
  obtain ⟨p0, p1, p2, p3, ep, wp0, wp1, wp2, wp3, vp⟩ := NV_words (q * V m0 m1 m2 m3)
  have vr' : V r0 r1 r2 r3 = r := by omega
  have vq' : V q0 q1 q2 q3 = q := by omega
  have vp' : V p0 p1 p2 p3 = q * V m0 m1 m2 m3 := by omega
  refine ⟨q0, q1, q2, q3, r0, r1, r2, r3, p0, p1, p2, p3, fun u => ?_, fun u => ?_, fun u => ?_, fun u => ?_⟩
  · have z0 : V 0 0 0 0 = 0 := rfl
    have w := Divide_1 a b c d 0 0 0 0 m0 m1 m2 m3 u ha hb hc hd W_0 W_0 W_0 W_0 h0 h1 h2 h3 hM
    rw [z0, Int.zero_mul, Int.add_zero, hq, hr, er, WV_of q q0 q1 q2 q3 0 0 0 0 wq0 wq1 wq2 wq3 W_0 W_0 W_0 W_0 (by rw [z0]; omega)] at w
    exact w
  · have z0 : V 0 0 0 0 = 0 := rfl
    have w := Mul_any q0 q1 q2 q3 m0 m1 m2 m3 u wq0 wq1 wq2 wq3 h0 h1 h2 h3
    rw [vq', WV_of (q * V m0 m1 m2 m3) p0 p1 p2 p3 0 0 0 0 wp0 wp1 wp2 wp3 W_0 W_0 W_0 W_0 (by rw [z0]; omega)] at w
    exact w
  · have w := Add_any p0 p1 p2 p3 r0 r1 r2 r3 u wp0 wp1 wp2 wp3 wr0 wr1 wr2 wr3
    have hs : V p0 p1 p2 p3 + V r0 r1 r2 r3 = V a b c d := by omega
    obtain ⟨_, _, _, _, k4⟩ := D_of (V a b c d) a b c d 0 ha hb hc hd (by omega)
    rw [hs, NV_of (V a b c d) a b c d 0 ha hb hc hd (by omega), k4] at w
    exact w
  · have w := Compare_any r0 r1 r2 r3 m0 m1 m2 m3 u wr0 wr1 wr2 wr3 h0 h1 h2 h3
    have hc : cmpI (V r0 r1 r2 r3) (V m0 m1 m2 m3) = -1 := by unfold cmpI; rw [if_pos (by omega)]
    rw [hc] at w
    exact w
end Go.Proofs.Ytajpjbhppjlehaa
