/- What the laws on products and quotients call, in their words. -/
import Derived.Test.YtgfggkinmhhdnaaW2
import Derived.Test.YtgfggkinmhhdnaaM4
import Derived.Test.YtgfggkinmhhdnaaD1
namespace Go.Proofs.Ytgfggkinmhhdnaa
open Go.RowKit
set_option linter.unusedVariables false
theorem NV_of (n a b c d k : Int) (ha : W64 a) (hb : W64 b) (hc : W64 c) (hd : W64 d) (h : n = V a b c d + k * 115792089237316195423570985008687907853269984665640564039457584007913129639936) : NV n = A4 a b c d := by
  obtain ⟨h0, h1, h2, h3, _⟩ := D_of n a b c d k ha hb hc hd h
  rw [NV, h0, h1, h2, h3]
theorem WV_of (n a b c d e f g h : Int) (ha : W64 a) (hb : W64 b) (hc : W64 c) (hd : W64 d) (he : W64 e) (hf : W64 f) (hg : W64 g) (hh : W64 h) (hn : n = V a b c d + V e f g h * 115792089237316195423570985008687907853269984665640564039457584007913129639936) : WV n = A8 a b c d e f g h := by
  obtain ⟨h0, h1, h2, h3, h4⟩ := D_of n a b c d (V e f g h) ha hb hc hd hn
  obtain ⟨k0, k1, k2, k3, k4⟩ := D_of (V e f g h) e f g h 0 he hf hg hh (by omega)
  rw [WV, h0, h1, h2, h3, h4, k0, k1, k2, k3]
end Go.Proofs.Ytgfggkinmhhdnaa
