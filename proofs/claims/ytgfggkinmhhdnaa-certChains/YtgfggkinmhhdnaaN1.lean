/- Limb's functions, in the words of numbers. -/
import Derived.Test.YtgfggkinmhhdnaaW5
import Derived.Test.YtgfggkinmhhdnaaM4
import Derived.Test.YtgfggkinmhhdnaaD1
namespace Go.Proofs.Ytgfggkinmhhdnaa
open Go.RowKit
set_option linter.unusedSimpArgs false
set_option linter.unusedVariables false
/-- A number of four words. -/
def In (n : Int) : Prop := 0 ≤ n ∧ n < 115792089237316195423570985008687907853269984665640564039457584007913129639936
/-- A number of eight words. -/
def InW (n : Int) : Prop := 0 ≤ n ∧ n < 115792089237316195423570985008687907853269984665640564039457584007913129639936 * 115792089237316195423570985008687907853269984665640564039457584007913129639936
def ovB (a b : Int) : Bool := decide (115792089237316195423570985008687907853269984665640564039457584007913129639936 ≤ a + b)
def ltB (a b : Int) : Bool := decide (a < b)
theorem V_In {n : Int} (h : In n) : V (D0 n) (D1 n) (D2 n) (D3 n) = n := by rw [V_D]; unfold In at h; omega
theorem V_InW {n : Int} (h : InW n) : V (D0 n) (D1 n) (D2 n) (D3 n) + V (D0 (D4 n)) (D1 (D4 n)) (D2 (D4 n)) (D3 (D4 n)) * 115792089237316195423570985008687907853269984665640564039457584007913129639936 = n := by
  unfold InW at h; rw [V_D, V_D]; unfold D4; omega
theorem In_V {a b c d : Int} (ha : W64 a) (hb : W64 b) (hc : W64 c) (hd : W64 d) : In (V a b c d) := V_bd a b c d ha hb hc hd
theorem NV_V {a b c d : Int} (ha : W64 a) (hb : W64 b) (hc : W64 c) (hd : W64 d) : NV (V a b c d) = A4 a b c d := by
  obtain ⟨h0, h1, h2, h3, _⟩ := D_of (V a b c d) a b c d 0 ha hb hc hd (by omega)
  rw [NV, h0, h1, h2, h3]
theorem In.wide {n : Int} (h : In n) : InW n := by unfold In at h; unfold InW; omega
theorem In_mul {a b : Int} (ha : In a) (hb : In b) : InW (a * b) := by
  refine ⟨Int.mul_nonneg ha.1 hb.1, ?_⟩
  have k1 := Int.mul_le_mul_of_nonneg_right (a := a) (b := 115792089237316195423570985008687907853269984665640564039457584007913129639936 - 1) (by have := ha.2; omega) hb.1
  have := hb.2; omega
theorem In_mod {n m : Int} (hm : In m) (h : m ≠ 0) : In (n % m) := by
  have h0 := hm.1
  exact ⟨Int.emod_nonneg _ h, by have := Int.emod_lt_of_pos n (show 0 < m by omega); have := hm.2; omega⟩
theorem WV_In {n : Int} (h : In n) : WV n = A8 (D0 n) (D1 n) (D2 n) (D3 n) 0 0 0 0 := by
  have e : D4 n = 0 := by unfold D4; unfold In at h; omega
  rw [WV, e]; rfl
theorem InW_div {n m : Int} (hn : InW n) (hm : In m) (h : m ≠ 0) : InW (n / m) := by
  have h0 := hm.1; have h1 := hn.1; have h2 := hn.2
  refine ⟨Int.ediv_nonneg h1 h0, ?_⟩
  have : n / m ≤ n := Int.ediv_le_self _ h1
  omega
theorem nAdd (a b : Int) (w : World) (ha : In a) (hb : In b) : Calls Try.prog 70 #[NV a, NV b] w fun e w' => e = .returned (.tuple #[NV (a + b), .bool (ovB a b)]) ∧ Below w.heap.size w w' := by
  have k := Add_any _ _ _ _ _ _ _ _ w (W_D0 a) (W_D1 a) (W_D2 a) (W_D3 a) (W_D0 b) (W_D1 b) (W_D2 b) (W_D3 b)
  simp only [V_In ha, V_In hb] at k
  have e : (D4 (a + b) == 1) = ovB a b := by
    unfold In at ha hb; unfold ovB D4; rw [Bool.eq_iff_iff]; simp; omega
  rw [e] at k
  exact k
theorem nSub (a b : Int) (w : World) (ha : In a) (hb : In b) : Calls Try.prog 45 #[NV a, NV b] w fun e w' => e = .returned (.tuple #[NV (a - b), .bool (ltB a b)]) ∧ Below w.heap.size w w' := by
  have k := Sub_any _ _ _ _ _ _ _ _ w (W_D0 a) (W_D1 a) (W_D2 a) (W_D3 a) (W_D0 b) (W_D1 b) (W_D2 b) (W_D3 b)
  simp only [V_In ha, V_In hb] at k
  have e : (-D4 (a - b) == 1) = ltB a b := by
    unfold In at ha hb; unfold ltB D4; rw [Bool.eq_iff_iff]; simp; omega
  rw [e] at k
  exact k
theorem nMul (a b : Int) (w : World) (ha : In a) (hb : In b) : Calls Try.prog 80 #[NV a, NV b] w fun e w' => e = .returned (WV (a * b)) ∧ Below w.heap.size w w' := by
  have k := Mul_any _ _ _ _ _ _ _ _ w (W_D0 a) (W_D1 a) (W_D2 a) (W_D3 a) (W_D0 b) (W_D1 b) (W_D2 b) (W_D3 b)
  simp only [V_In ha, V_In hb] at k
  exact k
theorem nDivide (n m : Int) (w : World) (hn : InW n) (hm : In m) (h : m ≠ 0) : Calls Try.prog 46 #[WV n, NV m] w fun e w' => e = .returned (.tuple #[WV (n / m), NV (n % m), .int .i64 0]) ∧ Below w.heap.size w w' := by
  have k := Divide_1 _ _ _ _ _ _ _ _ _ _ _ _ w (W_D0 n) (W_D1 n) (W_D2 n) (W_D3 n) (W_D0 (D4 n)) (W_D1 (D4 n)) (W_D2 (D4 n)) (W_D3 (D4 n)) (W_D0 m) (W_D1 m) (W_D2 m) (W_D3 m) (by rw [V_In hm]; exact h)
  simp only [V_In hm, V_InW hn] at k
  exact k
theorem nWiden (n : Int) (w : World) (hn : In n) : Calls Try.prog 47 #[NV n] w fun e w' => e = .returned (WV n) ∧ Below w.heap.size w w' := by
  rw [WV_In hn]; exact Widen_any _ _ _ _ w
theorem NV_small {k : Int} (h0 : 0 ≤ k) (h1 : k < 18446744073709551616) : NV k = A4 k 0 0 0 := by
  have e0 : D0 k = k := by unfold D0; omega
  have e1 : D1 k = 0 := by unfold D1; omega
  have e2 : D2 k = 0 := by unfold D2; omega
  have e3 : D3 k = 0 := by unfold D3; omega
  rw [NV, e0, e1, e2, e3]
theorem nOf (k : Int) (w : World) (h0 : 0 ≤ k) (h1 : k < 18446744073709551616) : Calls Try.prog 31 #[.int .u64 k] w fun e w' => e = .returned (NV k) ∧ Below w.heap.size w w' := by
  rw [NV_small h0 h1]; exact of_any k w
end Go.Proofs.Ytgfggkinmhhdnaa
