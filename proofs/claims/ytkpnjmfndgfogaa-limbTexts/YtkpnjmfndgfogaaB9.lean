/- Plain numbers: digits to the base 16, and how many there are. -/
import Derived.Test.YtkpnjmfndgfogaaB8
namespace Go.Proofs.Ytkpnjmfndgfogaa
set_option linter.unusedVariables false
theorem p2 (n : Nat) : (0 : Int) < 2 ^ n := Int.pow_pos (by omega)
theorem pow_mono {m n : Nat} (h : m ≤ n) : (2 : Int) ^ m ≤ 2 ^ n := by
  have e : (2 : Int) ^ n = 2 ^ m * 2 ^ (n - m) := by rw [← Int.pow_add, show m + (n - m) = n by omega]
  have q := p2 (n - m)
  have := Int.mul_le_mul_of_nonneg_left (show (1 : Int) ≤ 2 ^ (n - m) by omega) (Int.le_of_lt (p2 m))
  rw [e]; omega
theorem byp_hi (a b c d : Int) (p : Nat) : byp a b c d p / 16 = nib a b c d (2 * p + 1) := by
  unfold byp nib
  rw [show (2 * p + 1) / 16 = p / 8 by omega, show (2 * p + 1) % 16 * 4 = p % 8 * 8 + 4 by omega]
  generalize (if p / 8 = 0 then a else if p / 8 = 1 then b else if p / 8 = 2 then c else d) = x
  have e : x / 2 ^ (p % 8 * 8 + 4) = x / 2 ^ (p % 8 * 8) / 16 := by
    rw [Int.pow_add, Int.ediv_ediv_of_nonneg (Int.le_of_lt (p2 _))]; rfl
  rw [e]; omega
theorem byp_lo (a b c d : Int) (p : Nat) : byp a b c d p % 16 = nib a b c d (2 * p) := by
  unfold byp nib
  rw [show (2 * p) / 16 = p / 8 by omega, show (2 * p) % 16 * 4 = p % 8 * 8 by omega]
  generalize (if p / 8 = 0 then a else if p / 8 = 1 then b else if p / 8 = 2 then c else d) = x
  omega
theorem word_nib (x rest : Int) (s : Nat) (hs : s ≤ 60) : (x + rest * 18446744073709551616) / 2 ^ s % 16 = x / 2 ^ s % 16 := by
  have e : (18446744073709551616 : Int) = 2 ^ (60 - s) * 16 * 2 ^ s := by
    rw [Int.mul_right_comm, ← Int.pow_add, show 60 - s + s = 60 by omega]; rfl
  have h : rest * 18446744073709551616 = rest * (2 ^ (60 - s) * 16) * 2 ^ s := by
    conv => lhs; rw [e]
    rw [Int.mul_assoc rest]
  rw [h, Int.add_mul_ediv_right _ _ (by have := p2 s; omega), ← Int.mul_assoc]
  omega
theorem V_div1 (a b c d : Int) (ha : W64 a) : V a b c d / 18446744073709551616 = b + (c + d * 18446744073709551616) * 18446744073709551616 := by
  obtain ⟨h1, h2⟩ := ha; unfold V; omega
theorem V_div2 (a b c d : Int) (ha : W64 a) (hb : W64 b) : V a b c d / 340282366920938463463374607431768211456 = c + d * 18446744073709551616 := by
  obtain ⟨h1, h2⟩ := ha; obtain ⟨k1, k2⟩ := hb; unfold V; omega
theorem V_div3 (a b c d : Int) (ha : W64 a) (hb : W64 b) (hc : W64 c) : V a b c d / 6277101735386680763835789423207666416102355444464034512896 = d := by
  obtain ⟨h1, h2⟩ := ha; obtain ⟨k1, k2⟩ := hb; obtain ⟨l1, l2⟩ := hc; unfold V; omega
theorem nib_V (a b c d : Int) (p : Nat) (hp : p < 64) (ha : W64 a) (hb : W64 b) (hc : W64 c) (hd : W64 d) : nib a b c d p = V a b c d / 2 ^ (4 * p) % 16 := by
  have hq : p / 16 = 0 ∨ p / 16 = 1 ∨ p / 16 = 2 ∨ p / 16 = 3 := by omega
  unfold nib
  rcases hq with hq | hq | hq | hq
  · rw [hq, show 4 * p = p % 16 * 4 by omega]
    have e : V a b c d = a + (b + (c + d * 18446744073709551616) * 18446744073709551616) * 18446744073709551616 := by unfold V; omega
    rw [e, word_nib _ _ _ (by omega)]; simp
  · rw [hq, show 4 * p = 64 + p % 16 * 4 by omega, Int.pow_add, ← Int.ediv_ediv_of_nonneg (by decide)]
    rw [show ((2 : Int) ^ 64) = 18446744073709551616 from rfl, V_div1 a b c d ha, word_nib _ _ _ (by omega)]; simp
  · rw [hq, show 4 * p = 128 + p % 16 * 4 by omega, Int.pow_add, ← Int.ediv_ediv_of_nonneg (by decide)]
    rw [show ((2 : Int) ^ 128) = 340282366920938463463374607431768211456 from rfl, V_div2 a b c d ha hb, word_nib _ _ _ (by omega)]; simp
  · rw [hq, show 4 * p = 192 + p % 16 * 4 by omega, Int.pow_add, ← Int.ediv_ediv_of_nonneg (by decide)]
    rw [show ((2 : Int) ^ 192) = 6277101735386680763835789423207666416102355444464034512896 from rfl, V_div3 a b c d ha hb hc]; simp
theorem blen_0 (a b c d : Int) (ha : W64 a) (hb : W64 b) (hc : W64 c) (hd : W64 d) (h : blen a b c d = 0) : V a b c d = 0 := by
  by_cases hV : V a b c d = 0
  · exact hV
  · have := lift_top a b c d ha hb hc hd hV
    omega
theorem blen_V (a b c d : Int) (ha : W64 a) (hb : W64 b) (hc : W64 c) (hd : W64 d) (h : V a b c d ≠ 0) :
    V a b c d < 2 ^ (blen a b c d).toNat ∧ 2 ^ (blen a b c d - 1).toNat ≤ V a b c d ∧ 0 < blen a b c d := by
  obtain ⟨h1, h2, h3, h4⟩ := lift_top a b c d ha hb hc hd h
  have hb2 := blen_bd a b c d ha hb hc hd
  have q := p2 (256 - blen a b c d).toNat
  refine ⟨?_, ?_, by omega⟩
  · have e : (115792089237316195423570985008687907853269984665640564039457584007913129639936 : Int) = 2 ^ (blen a b c d).toNat * 2 ^ (256 - blen a b c d).toNat := by
      rw [← Int.pow_add, show (blen a b c d).toNat + (256 - blen a b c d).toNat = 256 by omega]; rfl
    rw [e] at h4
    exact Int.lt_of_mul_lt_mul_right h4 (by omega)
  · have e : (57896044618658097711785492504343953926634992332820282019728792003956564819968 : Int) = 2 ^ (blen a b c d - 1).toNat * 2 ^ (256 - blen a b c d).toNat := by
      rw [← Int.pow_add, show (blen a b c d - 1).toNat + (256 - blen a b c d).toNat = 255 by omega]; rfl
    rw [e] at h3
    exact Int.le_of_mul_le_mul_right h3 q
theorem nd_hi (a b c d : Int) (ha : W64 a) (hb : W64 b) (hc : W64 c) (hd : W64 d) (p : Nat) (h1 : nd a b c d ≤ p) (h2 : p < 64) : nib a b c d p = 0 := by
  rw [nib_V a b c d p h2 ha hb hc hd]
  have hv := V_bd a b c d ha hb hc hd
  by_cases hV : V a b c d = 0
  · rw [hV]; simp
  · obtain ⟨k1, _, k3⟩ := blen_V a b c d ha hb hc hd hV
    have hle : (blen a b c d).toNat ≤ 4 * p := by unfold nd at h1; rw [if_neg (by omega)] at h1; omega
    have := pow_mono hle
    rw [Int.ediv_eq_zero_of_lt hv.1 (by omega)]; rfl
theorem nd_lo (a b c d : Int) (ha : W64 a) (hb : W64 b) (hc : W64 c) (hd : W64 d) : 1 ≤ nd a b c d ∧ nd a b c d ≤ 64 ∧ (nd a b c d = 1 ∨ nib a b c d (nd a b c d - 1) ≠ 0) := by
  have hb2 := blen_bd a b c d ha hb hc hd
  have hv := V_bd a b c d ha hb hc hd
  have h1 : 1 ≤ nd a b c d ∧ nd a b c d ≤ 64 := by unfold nd; split <;> omega
  refine ⟨h1.1, h1.2, ?_⟩
  by_cases hone : nd a b c d = 1
  · exact .inl hone
  · right
    have hz : blen a b c d ≠ 0 := by intro h; apply hone; unfold nd; rw [if_pos h]
    have hV : V a b c d ≠ 0 := by
      intro h
      have := blen_bd a b c d ha hb hc hd
      have hbl : blen a b c d = 0 := by
        have := V_inj a b c d 0 0 0 0 ha hb hc hd ⟨by omega, by omega⟩ ⟨by omega, by omega⟩ ⟨by omega, by omega⟩ ⟨by omega, by omega⟩ (by rw [h]; rfl)
        obtain ⟨rfl, rfl, rfl, rfl⟩ := this
        decide
      exact hz hbl
    obtain ⟨k1, k2, k3⟩ := blen_V a b c d ha hb hc hd hV
    have en : nd a b c d = ((blen a b c d + 3) / 4).toNat := by unfold nd; rw [if_neg hz]
    have e1 : 4 * (nd a b c d - 1) ≤ (blen a b c d - 1).toNat := by omega
    have e2 : (blen a b c d).toNat ≤ 4 * (nd a b c d - 1) + 4 := by omega
    rw [nib_V a b c d _ (by omega) ha hb hc hd]
    have g1 := pow_mono e1
    have g2 := pow_mono e2
    rw [Int.pow_add] at g2
    have q := p2 (4 * (nd a b c d - 1))
    have l1 : 1 ≤ V a b c d / 2 ^ (4 * (nd a b c d - 1)) := (Int.le_ediv_iff_mul_le q).2 (by omega)
    have l2 : V a b c d / 2 ^ (4 * (nd a b c d - 1)) < 16 := Int.ediv_lt_of_lt_mul q (by
      have : (2 : Int) ^ (4 * (nd a b c d - 1)) * 2 ^ 4 = 16 * 2 ^ (4 * (nd a b c d - 1)) := by rw [Int.mul_comm]; rfl
      omega)
    omega
theorem hexc_48 (v : Int) (h0 : 0 ≤ v) (h1 : v < 16) : hexc v = 48 ↔ v = 0 := by unfold hexc; split <;> omega
theorem hexc_bd (v : Int) (h0 : 0 ≤ v) (h1 : v < 16) : 48 ≤ hexc v ∧ hexc v ≤ 102 := by unfold hexc; split <;> omega
/-- Where the noughts end. -/
theorem nd_uniq (a b c d : Int) (ha : W64 a) (hb : W64 b) (hc : W64 c) (hd : W64 d) (j : Nat) (hj : j ≤ 63) (hz : ∀ i, i < j → hexc (nib a b c d (63 - i)) = 48) (hs : j = 63 ∨ hexc (nib a b c d (63 - j)) ≠ 48) : 64 - j = nd a b c d := by
  obtain ⟨n1, n2, n3⟩ := nd_lo a b c d ha hb hc hd
  have hi := nd_hi a b c d ha hb hc hd
  by_cases h : 64 - j < nd a b c d
  · -- the sign at nd - 1 is a nought
    have e := hz (64 - nd a b c d) (by omega)
    rw [show 63 - (64 - nd a b c d) = nd a b c d - 1 by omega, hexc_48 _ (nib_bd _ _ _ _ _).1 (nib_bd _ _ _ _ _).2] at e
    rcases n3 with n3 | n3
    · omega
    · exact absurd e n3
  · by_cases h' : nd a b c d < 64 - j
    · have e := hi (63 - j) (by omega) (by omega)
      rcases hs with hs | hs
      · omega
      · exact absurd ((hexc_48 _ (nib_bd _ _ _ _ _).1 (nib_bd _ _ _ _ _).2).2 e) hs
    · omega
end Go.Proofs.Ytkpnjmfndgfogaa
