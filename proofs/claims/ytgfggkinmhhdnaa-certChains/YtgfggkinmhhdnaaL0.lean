/- What the laws on products and quotients call, in their words. -/
import Derived.Test.YtgfggkinmhhdnaaW2
import Derived.Test.YtgfggkinmhhdnaaM4
import Derived.Test.YtgfggkinmhhdnaaD1
namespace Go.Proofs.Ytgfggkinmhhdnaa
open Go.RowKit
set_option linter.unusedVariables false
theorem NV_of (n a b c d k : Int) (ha : W64 a) (hb : W64 b) (hc : W64 c) (hd : W64 d) (h : n = V a b c d + k * 115792089237316195423570985008687907853269984665640564039457584007913129639936) : NV n = A4 a b c d := by
  obtain ⟨h0, h1, h2, h3, _⟩ := D_of n a b c d k ha hb hc hd h
  rw [NV, h0, h1, h2, h3]
theorem WV_of (n a b c d e f g h : Int) (ha : W64 a) (hb : W64 b) (hc : W64 c) (hd : W64 d) (he : W64 e) (hf : W64 f) (hg : W64 g) (hh : W64 h) (hn : n = V a b c d + V e f g h * 115792089237316195423570985008687907853269984665640564039457584007913129639936) : WV n = A8 a b c d e f g h := by
  obtain ⟨h0, h1, h2, h3, h4⟩ := D_of n a b c d (V e f g h) ha hb hc hd hn
  obtain ⟨k0, k1, k2, k3, k4⟩ := D_of (V e f g h) e f g h 0 he hf hg hh (by omega)
  rw [WV, h0, h1, h2, h3, h4, k0, k1, k2, k3]
theorem W8_D (P : Int) (h0 : 0 ≤ P) (h1 : P < 115792089237316195423570985008687907853269984665640564039457584007913129639936 * 115792089237316195423570985008687907853269984665640564039457584007913129639936) :
    V (D0 P) (D1 P) (D2 P) (D3 P) + V (D0 (D4 P)) (D1 (D4 P)) (D2 (D4 P)) (D3 (D4 P)) * 115792089237316195423570985008687907853269984665640564039457584007913129639936 = P := by
  rw [V_D, V_D]; unfold D4; omega
theorem prod_bd4 (a b c d x y z t : Int) (ha : W64 a) (hb : W64 b) (hc : W64 c) (hd : W64 d) (hx : W64 x) (hy : W64 y) (hz : W64 z) (ht : W64 t) :
    0 ≤ V a b c d * V x y z t ∧ V a b c d * V x y z t < 115792089237316195423570985008687907853269984665640564039457584007913129639936 * 115792089237316195423570985008687907853269984665640564039457584007913129639936 := by
  have h1 := V_bd a b c d ha hb hc hd
  have h2 := V_bd x y z t hx hy hz ht
  refine ⟨Int.mul_nonneg h1.1 h2.1, ?_⟩
  have k1 := Int.mul_le_mul_of_nonneg_right (a := V a b c d) (b := 115792089237316195423570985008687907853269984665640564039457584007913129639936 - 1) (by omega) h2.1
  omega
/-- A sum less one of its parts. -/
theorem SubBack_any (a b c d x y z t : Int) (w : World) (ha : W64 a) (hb : W64 b) (hc : W64 c) (hd : W64 d) (hx : W64 x) (hy : W64 y) (hz : W64 z) (ht : W64 t) :
    Calls Try.prog 45 #[NV (V a b c d + V x y z t), A4 x y z t] w fun en w' => ∃ f, en = .returned (.tuple #[A4 a b c d, .bool f]) ∧ Below w.heap.size w w' := by
  refine (Sub_any _ _ _ _ x y z t w (W_D0 _) (W_D1 _) (W_D2 _) (W_D3 _) hx hy hz ht).mono ?_
  rintro en w' ⟨rfl, hB⟩
  have k1 := V_bd a b c d ha hb hc hd
  have k2 := V_bd x y z t hx hy hz ht
  rw [NV_of (V (D0 (V a b c d + V x y z t)) (D1 (V a b c d + V x y z t)) (D2 (V a b c d + V x y z t)) (D3 (V a b c d + V x y z t)) - V x y z t) a b c d (-((V a b c d + V x y z t) / 115792089237316195423570985008687907853269984665640564039457584007913129639936)) ha hb hc hd (by rw [V_D]; omega)]
  exact ⟨_, rfl, hB⟩
/-- A product by one of its factors. -/
theorem DivBack_any (a b c d x y z t : Int) (w : World) (ha : W64 a) (hb : W64 b) (hc : W64 c) (hd : W64 d) (hx : W64 x) (hy : W64 y) (hz : W64 z) (ht : W64 t) (hM : V x y z t ≠ 0) :
    Calls Try.prog 46 #[WV (V a b c d * V x y z t), A4 x y z t] w fun en w' => en = .returned (.tuple #[A8 a b c d 0 0 0 0, A4 0 0 0 0, .int .i64 0]) ∧ Below w.heap.size w w' := by
  have hpb := prod_bd4 a b c d x y z t ha hb hc hd hx hy hz ht
  have k1 := V_bd a b c d ha hb hc hd
  refine (Divide_1 _ _ _ _ _ _ _ _ x y z t w (W_D0 _) (W_D1 _) (W_D2 _) (W_D3 _) (W_D0 _) (W_D1 _) (W_D2 _) (W_D3 _) hx hy hz ht hM).mono ?_
  rintro en w' ⟨rfl, hB⟩
  rw [W8_D _ hpb.1 hpb.2, Int.mul_ediv_cancel _ hM, Int.mul_emod_left, WV_of (V a b c d) a b c d 0 0 0 0 ha hb hc hd W_0 W_0 W_0 W_0 (by simp [V]), NV_of 0 0 0 0 0 0 W_0 W_0 W_0 W_0 (by simp [V])]
  exact ⟨rfl, hB⟩
end Go.Proofs.Ytgfggkinmhhdnaa
