/- Plain numbers: four words and their value. -/
import Derived.WalkKit
namespace Go.Proofs.Ytgfggkinmhhdnaa
/-- A word. -/
def W64 (x : Int) : Prop := 0 ≤ x ∧ x < 18446744073709551616
/-- The value of four words. -/
def V (a b c d : Int) : Int := a + b * 18446744073709551616 + c * 340282366920938463463374607431768211456 + d * 6277101735386680763835789423207666416102355444464034512896
/-- The words of a value. -/
def D0 (n : Int) : Int := n % 18446744073709551616
def D1 (n : Int) : Int := n / 18446744073709551616 % 18446744073709551616
def D2 (n : Int) : Int := n / 340282366920938463463374607431768211456 % 18446744073709551616
def D3 (n : Int) : Int := n / 6277101735386680763835789423207666416102355444464034512896 % 18446744073709551616
/-- What stands above four words. -/
def D4 (n : Int) : Int := n / 115792089237316195423570985008687907853269984665640564039457584007913129639936
theorem D_of (n a b c d k : Int) (ha : W64 a) (hb : W64 b) (hc : W64 c) (hd : W64 d) (h : n = V a b c d + k * 115792089237316195423570985008687907853269984665640564039457584007913129639936) :
    D0 n = a ∧ D1 n = b ∧ D2 n = c ∧ D3 n = d ∧ D4 n = k := by
  obtain ⟨a1, a2⟩ := ha; obtain ⟨b1, b2⟩ := hb; obtain ⟨c1, c2⟩ := hc; obtain ⟨d1, d2⟩ := hd
  unfold V at h; unfold D0 D1 D2 D3 D4
  refine ⟨?_, ?_, ?_, ?_, ?_⟩ <;> omega
theorem W_D0 (n : Int) : W64 (D0 n) := by unfold W64 D0; omega
theorem W_D1 (n : Int) : W64 (D1 n) := by unfold W64 D1; omega
theorem W_D2 (n : Int) : W64 (D2 n) := by unfold W64 D2; omega
theorem W_D3 (n : Int) : W64 (D3 n) := by unfold W64 D3; omega
theorem V_D (n : Int) : V (D0 n) (D1 n) (D2 n) (D3 n) = n % 115792089237316195423570985008687907853269984665640564039457584007913129639936 := by
  unfold V D0 D1 D2 D3; omega
theorem V_bd (a b c d : Int) (ha : W64 a) (hb : W64 b) (hc : W64 c) (hd : W64 d) : 0 ≤ V a b c d ∧ V a b c d < 115792089237316195423570985008687907853269984665640564039457584007913129639936 := by
  obtain ⟨a1, a2⟩ := ha; obtain ⟨b1, b2⟩ := hb; obtain ⟨c1, c2⟩ := hc; obtain ⟨d1, d2⟩ := hd
  unfold V; omega
theorem V_inj (a b c d x y z t : Int) (ha : W64 a) (hb : W64 b) (hc : W64 c) (hd : W64 d) (hx : W64 x) (hy : W64 y) (hz : W64 z) (ht : W64 t)
    (h : V a b c d = V x y z t) : a = x ∧ b = y ∧ c = z ∧ d = t := by
  obtain ⟨e0, e1, e2, e3, _⟩ := D_of (V a b c d) a b c d 0 ha hb hc hd (by omega)
  obtain ⟨f0, f1, f2, f3, _⟩ := D_of (V a b c d) x y z t 0 hx hy hz ht (by omega)
  exact ⟨by omega, by omega, by omega, by omega⟩
theorem sum0 (a b c d x y z t : Int)  :
    D0 (V a b c d + V x y z t) = (a + x) % 18446744073709551616 ∧ D1 (V a b c d + V x y z t) = (b + y + (a + x) / 18446744073709551616) % 18446744073709551616 ∧ D2 (V a b c d + V x y z t) = (c + z + (b + y + (a + x) / 18446744073709551616) / 18446744073709551616) % 18446744073709551616 ∧ D3 (V a b c d + V x y z t) = (d + t + (c + z + (b + y + (a + x) / 18446744073709551616) / 18446744073709551616) / 18446744073709551616) % 18446744073709551616 ∧ D4 (V a b c d + V x y z t) = (d + t + (c + z + (b + y + (a + x) / 18446744073709551616) / 18446744073709551616) / 18446744073709551616) / 18446744073709551616 := by
  unfold V D0 D1 D2 D3 D4; refine ⟨?_, ?_, ?_, ?_, ?_⟩ <;> omega
theorem sum1 (a b c d y z t : Int) (ha : W64 a) :
    D0 (V a b c d + V 0 y z t) = a ∧ D1 (V a b c d + V 0 y z t) = (b + y) % 18446744073709551616 ∧ D2 (V a b c d + V 0 y z t) = (c + z + (b + y) / 18446744073709551616) % 18446744073709551616 ∧ D3 (V a b c d + V 0 y z t) = (d + t + (c + z + (b + y) / 18446744073709551616) / 18446744073709551616) % 18446744073709551616 ∧ D4 (V a b c d + V 0 y z t) = (d + t + (c + z + (b + y) / 18446744073709551616) / 18446744073709551616) / 18446744073709551616 := by
  obtain ⟨a1, a2⟩ := ha
  unfold V D0 D1 D2 D3 D4; refine ⟨?_, ?_, ?_, ?_, ?_⟩ <;> omega
theorem sum2 (a b c d z t : Int) (ha : W64 a) (hb : W64 b) :
    D0 (V a b c d + V 0 0 z t) = a ∧ D1 (V a b c d + V 0 0 z t) = b ∧ D2 (V a b c d + V 0 0 z t) = (c + z) % 18446744073709551616 ∧ D3 (V a b c d + V 0 0 z t) = (d + t + (c + z) / 18446744073709551616) % 18446744073709551616 ∧ D4 (V a b c d + V 0 0 z t) = (d + t + (c + z) / 18446744073709551616) / 18446744073709551616 := by
  obtain ⟨a1, a2⟩ := ha
  obtain ⟨b1, b2⟩ := hb
  unfold V D0 D1 D2 D3 D4; refine ⟨?_, ?_, ?_, ?_, ?_⟩ <;> omega
theorem sum3 (a b c d t : Int) (ha : W64 a) (hb : W64 b) (hc : W64 c) :
    D0 (V a b c d + V 0 0 0 t) = a ∧ D1 (V a b c d + V 0 0 0 t) = b ∧ D2 (V a b c d + V 0 0 0 t) = c ∧ D3 (V a b c d + V 0 0 0 t) = (d + t) % 18446744073709551616 ∧ D4 (V a b c d + V 0 0 0 t) = (d + t) / 18446744073709551616 := by
  obtain ⟨a1, a2⟩ := ha
  obtain ⟨b1, b2⟩ := hb
  obtain ⟨c1, c2⟩ := hc
  unfold V D0 D1 D2 D3 D4; refine ⟨?_, ?_, ?_, ?_, ?_⟩ <;> omega
theorem sum4 (a b c d : Int) (ha : W64 a) (hb : W64 b) (hc : W64 c) (hd : W64 d) :
    D0 (V a b c d + V 0 0 0 0) = a ∧ D1 (V a b c d + V 0 0 0 0) = b ∧ D2 (V a b c d + V 0 0 0 0) = c ∧ D3 (V a b c d + V 0 0 0 0) = d ∧ D4 (V a b c d + V 0 0 0 0) = 0 := by
  obtain ⟨a1, a2⟩ := ha
  obtain ⟨b1, b2⟩ := hb
  obtain ⟨c1, c2⟩ := hc
  obtain ⟨d1, d2⟩ := hd
  unfold V D0 D1 D2 D3 D4; refine ⟨?_, ?_, ?_, ?_, ?_⟩ <;> omega
theorem dif0 (a b c d x y z t : Int)  :
    D0 (V a b c d - V x y z t) = (a - x) % 18446744073709551616 ∧ D1 (V a b c d - V x y z t) = (b - y + (a - x) / 18446744073709551616) % 18446744073709551616 ∧ D2 (V a b c d - V x y z t) = (c - z + (b - y + (a - x) / 18446744073709551616) / 18446744073709551616) % 18446744073709551616 ∧ D3 (V a b c d - V x y z t) = (d - t + (c - z + (b - y + (a - x) / 18446744073709551616) / 18446744073709551616) / 18446744073709551616) % 18446744073709551616 ∧ -D4 (V a b c d - V x y z t) = -((d - t + (c - z + (b - y + (a - x) / 18446744073709551616) / 18446744073709551616) / 18446744073709551616) / 18446744073709551616) := by
  unfold V D0 D1 D2 D3 D4; refine ⟨?_, ?_, ?_, ?_, ?_⟩ <;> omega
theorem dif1 (a b c d y z t : Int) (ha : W64 a) :
    D0 (V a b c d - V 0 y z t) = a ∧ D1 (V a b c d - V 0 y z t) = (b - y) % 18446744073709551616 ∧ D2 (V a b c d - V 0 y z t) = (c - z + (b - y) / 18446744073709551616) % 18446744073709551616 ∧ D3 (V a b c d - V 0 y z t) = (d - t + (c - z + (b - y) / 18446744073709551616) / 18446744073709551616) % 18446744073709551616 ∧ -D4 (V a b c d - V 0 y z t) = -((d - t + (c - z + (b - y) / 18446744073709551616) / 18446744073709551616) / 18446744073709551616) := by
  obtain ⟨a1, a2⟩ := ha
  unfold V D0 D1 D2 D3 D4; refine ⟨?_, ?_, ?_, ?_, ?_⟩ <;> omega
theorem dif2 (a b c d z t : Int) (ha : W64 a) (hb : W64 b) :
    D0 (V a b c d - V 0 0 z t) = a ∧ D1 (V a b c d - V 0 0 z t) = b ∧ D2 (V a b c d - V 0 0 z t) = (c - z) % 18446744073709551616 ∧ D3 (V a b c d - V 0 0 z t) = (d - t + (c - z) / 18446744073709551616) % 18446744073709551616 ∧ -D4 (V a b c d - V 0 0 z t) = -((d - t + (c - z) / 18446744073709551616) / 18446744073709551616) := by
  obtain ⟨a1, a2⟩ := ha
  obtain ⟨b1, b2⟩ := hb
  unfold V D0 D1 D2 D3 D4; refine ⟨?_, ?_, ?_, ?_, ?_⟩ <;> omega
theorem dif3 (a b c d t : Int) (ha : W64 a) (hb : W64 b) (hc : W64 c) :
    D0 (V a b c d - V 0 0 0 t) = a ∧ D1 (V a b c d - V 0 0 0 t) = b ∧ D2 (V a b c d - V 0 0 0 t) = c ∧ D3 (V a b c d - V 0 0 0 t) = (d - t) % 18446744073709551616 ∧ -D4 (V a b c d - V 0 0 0 t) = -((d - t) / 18446744073709551616) := by
  obtain ⟨a1, a2⟩ := ha
  obtain ⟨b1, b2⟩ := hb
  obtain ⟨c1, c2⟩ := hc
  unfold V D0 D1 D2 D3 D4; refine ⟨?_, ?_, ?_, ?_, ?_⟩ <;> omega
theorem dif4 (a b c d : Int) (ha : W64 a) (hb : W64 b) (hc : W64 c) (hd : W64 d) :
    D0 (V a b c d - V 0 0 0 0) = a ∧ D1 (V a b c d - V 0 0 0 0) = b ∧ D2 (V a b c d - V 0 0 0 0) = c ∧ D3 (V a b c d - V 0 0 0 0) = d ∧ -D4 (V a b c d - V 0 0 0 0) = 0 := by
  obtain ⟨a1, a2⟩ := ha
  obtain ⟨b1, b2⟩ := hb
  obtain ⟨c1, c2⟩ := hc
  obtain ⟨d1, d2⟩ := hd
  unfold V D0 D1 D2 D3 D4; refine ⟨?_, ?_, ?_, ?_, ?_⟩ <;> omega
end Go.Proofs.Ytgfggkinmhhdnaa
