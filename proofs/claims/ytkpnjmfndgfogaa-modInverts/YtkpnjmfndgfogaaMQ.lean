import Derived.Test.YtkpnjmfndgfogaaEE
import Derived.Test.YtkpnjmfndgfogaaMM
import Derived.Test.YtkpnjmfndgfogaaNN
/- Powers modulo an even number: plain numbers. -/
namespace Go.Proofs.Ytkpnjmfndgfogaa
set_option linter.unusedVariables false
/-- n & -n of words: the lowest bit that is 1. -/
theorem and_low (x : Nat) (k : Nat) (hx : x < 2 ^ k) (h0 : x ≠ 0) : ∃ s, s < k ∧ x &&& (2 ^ k - x) = 2 ^ s ∧ x % 2 ^ s = 0 ∧ x / 2 ^ s % 2 = 1 := by
  induction k generalizing x with
  | zero => simp at hx; omega
  | succ k ih =>
    by_cases h : x % 2 = 1
    · refine ⟨0, by omega, ?_, by simp [Nat.mod_one], by simpa using h⟩
      apply Nat.eq_of_testBit_eq
      intro i
      rw [Nat.testBit_and]
      cases i with
      | zero =>
        rw [Nat.testBit_zero, Nat.testBit_zero]
        have : (2 ^ (k + 1) - x) % 2 = 1 := by rw [Nat.pow_succ] at *; omega
        simp [h, this]
      | succ i =>
        rw [Nat.testBit_succ, Nat.testBit_succ]
        have e : (2 ^ (k + 1) - x) / 2 = 2 ^ k - (x / 2 + 1) := by rw [Nat.pow_succ] at *; omega
        have tb := Nat.testBit_two_pow_sub_succ (show x / 2 < 2 ^ k by rw [Nat.pow_succ] at hx; omega) i
        rw [e, tb, Nat.testBit_succ]
        cases hb : (x / 2).testBit i <;> simp
    · obtain ⟨s, h1, h2, h3, h4⟩ := ih (x / 2) (by rw [Nat.pow_succ] at hx; omega) (by omega)
      refine ⟨s + 1, by omega, ?_, ?_, ?_⟩
      · have e1 : 2 ^ (k + 1) - x = 2 * (2 ^ k - x / 2) := by rw [Nat.pow_succ]; omega
        have e2 : x = 2 * (x / 2) := by omega
        rw [e1]
        conv => lhs; lhs; rw [e2]
        apply Nat.eq_of_testBit_eq
        intro i
        rw [Nat.testBit_and]
        cases i with
        | zero => simp [Nat.testBit_zero, Nat.pow_succ]
        | succ i =>
          rw [Nat.testBit_succ, Nat.testBit_succ, Nat.testBit_succ, Nat.mul_div_cancel_left _ (by omega), Nat.mul_div_cancel_left _ (by omega), Nat.pow_succ, Nat.mul_div_cancel _ (by omega), ← h2, Nat.testBit_and]
      · rw [Nat.pow_succ, Nat.mul_comm (2 ^ s) 2]
        have := Nat.mod_mul (a := 2) (b := 2 ^ s) (x := x)
        rw [this, h3]; omega
      · rw [Nat.pow_succ, Nat.mul_comm (2 ^ s) 2, ← Nat.div_div_eq_div_mul]; exact h4
/-- Two remainders make one. -/
theorem crt_join (A o t i x y : Int) (ho : 0 < o) (ht : 0 < t) (hx0 : 0 ≤ x) (hxo : x < o) (hx : o ∣ A - x) (hy : t ∣ A - y) (hi : t ∣ i * o - 1) : x + ((y - x) % t * i % t) * o = A % (o * t) := by
  have n0 : t ≠ 0 := by omega
  have e1 := Int.mul_ediv_add_emod (y - x) t
  have e2 := Int.mul_ediv_add_emod ((y - x) % t * i) t
  have h1 := Int.emod_nonneg ((y - x) % t * i) n0
  have h2 := Int.emod_lt_of_pos ((y - x) % t * i) ht
  obtain ⟨p, hp⟩ := hx
  obtain ⟨q, hq⟩ := hy
  obtain ⟨r, hr⟩ := hi
  generalize (y - x) % t * i / t = b2 at *
  generalize (y - x) % t * i % t = k at *
  generalize (y - x) / t = b1 at *
  generalize (y - x) % t = d at *
  -- o divides A - (x + k o); t divides it too: k o = d i o - b2 t o, d = y - x - t b1
  have hd : d = y - x - t * b1 := by omega
  have hk : k = d * i - t * b2 := by omega
  have hA : ∃ z, A = x + k * o + o * t * z := by
    -- A - x = o p; A - x - k o = o (p - k); t divides o (p - k); i o = 1 + t r
    have e3 : o * (p - k) = t * (q + b1 - d * r + b2 * o) := by
      have : A = y + t * q := by omega
      rw [hk]
      have e4 : o * p = A - x := by omega
      grind
    refine ⟨i * (q + b1 - d * r + b2 * o) - r * (p - k), ?_⟩
    have e5 : p - k = t * (i * (q + b1 - d * r + b2 * o) - r * (p - k)) := by
      have : i * o * (p - k) = i * (t * (q + b1 - d * r + b2 * o)) := by rw [Int.mul_assoc, e3]
      have h6 : i * o = 1 + t * r := by omega
      rw [h6] at this
      grind
    have e6 : A = x + o * p := by omega
    rw [e6]
    have e7 : p = k + t * (i * (q + b1 - d * r + b2 * o) - r * (p - k)) := by omega
    generalize i * (q + b1 - d * r + b2 * o) - r * (p - k) = z at *
    rw [e7]; grind
  obtain ⟨z, hz⟩ := hA
  rw [hz, Int.add_mul_emod_self_left]
  have h5 : 0 ≤ k * o := Int.mul_nonneg h1 (by omega)
  have h6 : k * o ≤ (t - 1) * o := Int.mul_le_mul_of_nonneg_right (by omega) (by omega)
  have h7 : (t - 1) * o = o * t - o := by grind
  rw [Int.emod_eq_of_lt (by omega) (by omega)]
end Go.Proofs.Ytkpnjmfndgfogaa
/- The lowest bit, word by word. -/
namespace Go.Proofs.Ytkpnjmfndgfogaa
set_option linter.unusedVariables false
def anI (x y : Int) : Int := ((x.toNat &&& y.toNat : Nat) : Int)
theorem dig_and (x y k : Nat) : ((x &&& y) / 2 ^ k) % 2 ^ 64 = (x / 2 ^ k % 2 ^ 64) &&& (y / 2 ^ k % 2 ^ 64) := by
  rw [Nat.and_div_two_pow, Nat.and_mod_two_pow]
theorem dI (n : Nat) (k : Nat) : (((n : Int) / ((2 ^ k : Nat) : Int) % 18446744073709551616)).toNat = n / 2 ^ k % 2 ^ 64 := by
  have : ((n : Int) / ((2 ^ k : Nat) : Int) % 18446744073709551616) = ((n / 2 ^ k % 2 ^ 64 : Nat) : Int) := by
    rw [Int.natCast_emod, Int.natCast_ediv]; rfl
  rw [this, Int.toNat_natCast]
theorem low_words (m : Int) (hm : In m) (h : m ≠ 0) : ∃ s : Nat, s < 256 ∧ anI (D0 m) (D0 (0 - m + 115792089237316195423570985008687907853269984665640564039457584007913129639936)) = D0 (2 ^ s) ∧ anI (D1 m) (D1 (0 - m + 115792089237316195423570985008687907853269984665640564039457584007913129639936)) = D1 (2 ^ s) ∧ anI (D2 m) (D2 (0 - m + 115792089237316195423570985008687907853269984665640564039457584007913129639936)) = D2 (2 ^ s) ∧ anI (D3 m) (D3 (0 - m + 115792089237316195423570985008687907853269984665640564039457584007913129639936)) = D3 (2 ^ s) ∧ (2 : Int) ^ s ∣ m ∧ m / 2 ^ s % 2 = 1 ∧ m % 2 ^ s = 0 := by
  obtain ⟨h1, h2⟩ := hm
  obtain ⟨n, rfl⟩ := Int.eq_ofNat_of_zero_le h1
  have hn : n < 2 ^ 256 := by
    have e : (2 : Nat) ^ 256 = 115792089237316195423570985008687907853269984665640564039457584007913129639936 := by decide
    rw [e]; omega
  obtain ⟨s, hs, ha, hr, hq⟩ := and_low n 256 hn (by omega)
  have hl : (0 - (n : Int) + 115792089237316195423570985008687907853269984665640564039457584007913129639936) = ((2 ^ 256 - n : Nat) : Int) := by
    have e : (2 : Nat) ^ 256 = 115792089237316195423570985008687907853269984665640564039457584007913129639936 := by decide
    rw [e] at hn ⊢; omega
  rw [hl]
  generalize hl' : 2 ^ 256 - n = l at *
  have hp : ((2 : Int) ^ s) = ((2 ^ s : Nat) : Int) := by simp
  have w0 : ∀ x : Nat, D0 (x : Int) = (x : Int) / ((2 ^ 0 : Nat) : Int) % 18446744073709551616 := fun x => by simp [D0]
  have w1 : ∀ x : Nat, D1 (x : Int) = (x : Int) / ((2 ^ 64 : Nat) : Int) % 18446744073709551616 := fun x => by simp [D1]
  have w2 : ∀ x : Nat, D2 (x : Int) = (x : Int) / ((2 ^ 128 : Nat) : Int) % 18446744073709551616 := fun x => by simp [D2]
  have w3 : ∀ x : Nat, D3 (x : Int) = (x : Int) / ((2 ^ 192 : Nat) : Int) % 18446744073709551616 := fun x => by simp [D3]
  have key : ∀ k : Nat, anI ((n : Int) / ((2 ^ k : Nat) : Int) % 18446744073709551616) ((l : Int) / ((2 ^ k : Nat) : Int) % 18446744073709551616) = ((2 ^ s : Nat) : Int) / ((2 ^ k : Nat) : Int) % 18446744073709551616 := fun k => by
    unfold anI
    rw [dI, dI, ← dig_and, ha, Int.natCast_emod, Int.natCast_ediv]; rfl
  refine ⟨s, hs, ?_, ?_, ?_, ?_, ?_, ?_, ?_⟩
  · rw [hp, w0, w0, w0]; exact key 0
  · rw [hp, w1, w1, w1]; exact key 64
  · rw [hp, w2, w2, w2]; exact key 128
  · rw [hp, w3, w3, w3]; exact key 192
  · rw [hp]; exact Int.natCast_dvd_natCast.2 (Nat.dvd_of_mod_eq_zero hr)
  · rw [hp, ← Int.natCast_ediv]; omega
  · rw [hp, ← Int.natCast_emod]; omega
theorem pow_coprime (o : Int) (ho : o % 2 = 1) (h0 : 0 < o) (s : Nat) : gI (2 ^ s) (o % 2 ^ s) = 1 := by
  have hp : (0 : Int) < 2 ^ s := Int.pow_pos (by decide)
  rw [gI_step o (2 ^ s) (by omega) (by omega) (by omega)]
  unfold gI
  have : Nat.gcd o.toNat ((2 : Int) ^ s).toNat = 1 := by
    have e : ((2 : Int) ^ s).toNat = 2 ^ s := by
      rw [show ((2 : Int) ^ s) = ((2 ^ s : Nat) : Int) by simp, Int.toNat_natCast]
    rw [e]
    have hc : Nat.Coprime o.toNat 2 := by
      have h1 : o.toNat % 2 = 1 := by omega
      unfold Nat.Coprime
      rw [Nat.gcd_comm, Nat.gcd_rec, h1]; simp
    exact Nat.Coprime.pow_right s hc
  rw [this]; rfl
theorem In_pow {s : Nat} (h : s < 256) : In (2 ^ s) := by
  refine ⟨Int.le_of_lt (Int.pow_pos (by decide)), ?_⟩
  have h1 : (2 : Int) ^ s ≤ 2 ^ 255 := by
    have := Nat.pow_le_pow_right (show 0 < 2 by decide) (show s ≤ 255 by omega)
    have e1 : ((2 : Int) ^ s) = ((2 ^ s : Nat) : Int) := by simp
    have e2 : ((2 : Int) ^ 255) = ((2 ^ 255 : Nat) : Int) := by simp
    rw [e1, e2]; omega
  have e : (2 : Int) ^ 255 = 57896044618658097711785492504343953926634992332820282019728792003956564819968 := by decide
  rw [e] at h1; omega
end Go.Proofs.Ytkpnjmfndgfogaa
