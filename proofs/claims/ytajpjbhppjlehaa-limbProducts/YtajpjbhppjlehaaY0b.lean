/- One bit of the reference's Divide: what is called, in plain words. -/
import Derived.Test.YtajpjbhppjlehaaY0
namespace Go.Proofs.Ytajpjbhppjlehaa
open Go.RowKit
set_option linter.unusedVariables false
theorem HR_word (wl ql : List Int) (xn qv D r s : Int) (p : Nat) (hx : wl[p]? = some xn) (hq : ql[p]? = some qv)
    (h : HR (wl.drop (p + 1)) 0 = HR (ql.drop (p + 1)) 0 * D + r) (h' : r * 18446744073709551616 + xn = qv * D + s) : HR (wl.drop p) 0 = HR (ql.drop p) 0 * D + s := by
  obtain ⟨hc, hc'⟩ := List.getElem?_eq_some_iff.1 hx
  obtain ⟨hd, hd'⟩ := List.getElem?_eq_some_iff.1 hq
  rw [List.drop_eq_getElem_cons hc, List.drop_eq_getElem_cons hd, hc', hd', HR, HR]
  exact div_step _ _ D r xn qv s h h'
theorem iter_words (r0 r1 r2 r3 m0 m1 m2 m3 xb : Int) (w0 : W64 r0) (w1 : W64 r1) (w2 : W64 r2) (w3 : W64 r3) (h0 : W64 m0) (h1 : W64 m1) (h2 : W64 m2) (h3 : W64 m3) (hlt : V r0 r1 r2 r3 < V m0 m1 m2 m3) (hxb : xb = 0 ∨ xb = 1) :
    ∃ (s0 s1 s2 s3 y0 z0 z1 z2 z3 cv : Int) (ov f : Bool), y0 = s0 + xb ∧ W64 s0 ∧ W64 s1 ∧ W64 s2 ∧ W64 s3 ∧ W64 y0 ∧ W64 z0 ∧ W64 z1 ∧ W64 z2 ∧ W64 z3 ∧
      (∀ u, Calls Try.prog 10 #[A4 r0 r1 r2 r3, A4 r0 r1 r2 r3] u fun en u' => en = .returned (.tuple #[A4 s0 s1 s2 s3, .bool ov]) ∧ Below u.heap.size u u') ∧
      (∀ u, Calls Try.prog 14 #[A4 y0 s1 s2 s3, A4 m0 m1 m2 m3] u fun en u' => en = .returned (.int .i64 cv) ∧ Below u.heap.size u u') ∧
      (∀ u, Calls Try.prog 12 #[A4 y0 s1 s2 s3, A4 m0 m1 m2 m3] u fun en u' => en = .returned (.tuple #[A4 z0 z1 z2 z3, .bool f]) ∧ Below u.heap.size u u') ∧
      (ov = true ∨ 0 ≤ cv → V z0 z1 z2 z3 = 2 * V r0 r1 r2 r3 + xb - V m0 m1 m2 m3 ∧ V z0 z1 z2 z3 < V m0 m1 m2 m3) ∧
      (ov = false → cv < 0 → V y0 s1 s2 s3 = 2 * V r0 r1 r2 r3 + xb ∧ V y0 s1 s2 s3 < V m0 m1 m2 m3) := by
  have kr := V_bd r0 r1 r2 r3 w0 w1 w2 w3
  have km := V_bd m0 m1 m2 m3 h0 h1 h2 h3
  obtain ⟨e0, e1, e2, e3, e4, e5, e6⟩ := even_words (V r0 r1 r2 r3) xb kr.1 hxb
  have ad := fun u => rAdd_any r0 r1 r2 r3 r0 r1 r2 r3 u w0 w1 w2 w3 w0 w1 w2 w3
  have vy : V (D0 (V r0 r1 r2 r3 + V r0 r1 r2 r3) + xb) (D1 (V r0 r1 r2 r3 + V r0 r1 r2 r3)) (D2 (V r0 r1 r2 r3 + V r0 r1 r2 r3)) (D3 (V r0 r1 r2 r3 + V r0 r1 r2 r3)) = (2 * V r0 r1 r2 r3 + xb) % 115792089237316195423570985008687907853269984665640564039457584007913129639936 := by
    rw [← e0, ← e1, ← e2, ← e3]; exact V_D _
  have wy : W64 (D0 (V r0 r1 r2 r3 + V r0 r1 r2 r3) + xb) := ⟨by rcases hxb with rfl | rfl <;> omega, e5⟩
  have cm := fun u => rCompare_any _ _ _ _ m0 m1 m2 m3 u wy (W_D1 (V r0 r1 r2 r3 + V r0 r1 r2 r3)) (W_D2 (V r0 r1 r2 r3 + V r0 r1 r2 r3)) (W_D3 (V r0 r1 r2 r3 + V r0 r1 r2 r3)) h0 h1 h2 h3
  have sb := fun u => rSub_any _ _ _ _ m0 m1 m2 m3 u wy (W_D1 (V r0 r1 r2 r3 + V r0 r1 r2 r3)) (W_D2 (V r0 r1 r2 r3 + V r0 r1 r2 r3)) (W_D3 (V r0 r1 r2 r3 + V r0 r1 r2 r3)) h0 h1 h2 h3
  refine ⟨_, _, _, _, _, _, _, _, _, _, _, _, rfl, W_D0 _, W_D1 _, W_D2 _, W_D3 _, wy, W_D0 _, W_D1 _, W_D2 _, W_D3 _, ad, cm, sb, ?_, ?_⟩
  · intro ht
    rw [V_D, vy]
    have hge : 115792089237316195423570985008687907853269984665640564039457584007913129639936 ≤ 2 * V r0 r1 r2 r3 + xb ∨ V m0 m1 m2 m3 ≤ 2 * V r0 r1 r2 r3 + xb := by
      rcases ht with ht | ht
      · left
        have : D4 (V r0 r1 r2 r3 + V r0 r1 r2 r3) = 1 := by simpa using ht
        unfold D4 at this; rcases hxb with rfl | rfl <;> omega
      · rw [vy] at ht
        unfold cmpI at ht
        rcases hxb with rfl | rfl <;> (split at ht <;> omega)
    rcases hxb with rfl | rfl <;> omega
  · intro ho hc
    have : D4 (V r0 r1 r2 r3 + V r0 r1 r2 r3) ≠ 1 := by simpa using ho
    have h4 : D4 (V r0 r1 r2 r3 + V r0 r1 r2 r3) = 0 := by unfold D4 at this ⊢; omega
    have hl : 2 * V r0 r1 r2 r3 + xb < 115792089237316195423570985008687907853269984665640564039457584007913129639936 := by unfold D4 at h4; rcases hxb with rfl | rfl <;> omega
    rw [vy] at hc ⊢
    unfold cmpI at hc
    split at hc
    · rcases hxb with rfl | rfl <;> omega
    · split at hc <;> omega
/-- The word of the quotient: one bit more. -/
theorem qk_step (qk : Int) (j : Nat) (hj : j < 64) (h0 : 0 ≤ qk) (h1 : qk < 2 ^ j) :
    qk * 2 ^ (64 - j) = 2 * qk * 2 ^ (64 - (j + 1)) ∧ qk * 2 ^ (64 - j) + 2 ^ (63 - j) = (2 * qk + 1) * 2 ^ (64 - (j + 1)) ∧ W64 ((2 * qk + 1) * 2 ^ (64 - (j + 1))) ∧ 2 * qk + 1 < 2 ^ (j + 1) := by
  have e1 : 64 - (j + 1) = 63 - j := by omega
  have e2 : 64 - j = 63 - j + 1 := by omega
  have hp : (0 : Int) < 2 ^ (63 - j) := Int.pow_pos (by omega)
  have e3 : (2 : Int) ^ (j + 1) * 2 ^ (63 - j) = 18446744073709551616 := by
    rw [← Int.pow_add, show j + 1 + (63 - j) = 64 by omega]; rfl
  have h2 : 2 * qk + 1 < 2 ^ (j + 1) := by rw [Int.pow_succ]; omega
  rw [e1, e2, Int.pow_succ]
  refine ⟨by grind, by grind, ⟨Int.mul_nonneg (by omega) (by omega), ?_⟩, h2⟩
  rw [← e3]
  exact Int.mul_lt_mul_of_pos_right h2 hp
end Go.Proofs.Ytajpjbhppjlehaa
