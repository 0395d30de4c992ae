/- Squares, and what is no square, modulo a prime that is twice an odd number and one. -/
import Derived.Test.YtgfggkinmhhdnaaCTG
namespace Go.Proofs.Ytgfggkinmhhdnaa
set_option linter.unusedVariables false
theorem odd_sum (t s : Int) : ∀ k : Nat, (t + s) ∣ t ^ (2 * k + 1) + s ^ (2 * k + 1)
  | 0 => ⟨1, by rw [Int.mul_one, show 2 * 0 + 1 = 0 + 1 from rfl, Int.pow_succ, Int.pow_succ, Int.pow_zero, Int.pow_zero, Int.one_mul, Int.one_mul]⟩
  | k + 1 => by
    obtain ⟨c, hc⟩ := odd_sum t s k
    generalize t ^ (2 * k + 1) = x at hc
    have e1 : t ^ (2 * (k + 1) + 1) = t ^ (2 * k + 1) * (t * t) := by rw [show 2 * (k + 1) + 1 = (2 * k + 1) + 1 + 1 by omega, Int.pow_succ, Int.pow_succ, Int.mul_assoc]
    have e2 : s ^ (2 * (k + 1) + 1) = s ^ (2 * k + 1) * (s * s) := by rw [show 2 * (k + 1) + 1 = (2 * k + 1) + 1 + 1 by omega, Int.pow_succ, Int.pow_succ, Int.mul_assoc]
    obtain ⟨c', hc'⟩ := odd_sum t s k
    rw [e1, e2]
    clear e1 e2 hc c
    generalize t ^ (2 * k + 1) = x at *
    generalize s ^ (2 * k + 1) = y at *
    exact ⟨t * t * c' - y * (t - s), by grind⟩
theorem sq_pow {p q a : Int} (hp : Pr p.toNat) (h2 : p = 2 * q + 1) (hq : 0 ≤ q) (ha : 2 ≤ a) (hs : a * a < p - 1) : (a * a) ^ q.toNat % p = 1 := by
  have hlt : a < p := by
    have : a * 2 ≤ a * a := Int.mul_le_mul_of_nonneg_left ha (by omega)
    omega
  have hb : ¬ p.toNat ∣ a.toNat := fun h => by have := Nat.le_of_dvd (by omega) h; omega
  have hf := hp.fermat hb
  have e1 : p.toNat - 1 = 2 * q.toNat := by omega
  rw [e1, Nat.pow_mul] at hf
  have e2 : ((a.toNat ^ 2 : Nat) : Int) = a * a := by
    rw [Int.natCast_pow, Int.toNat_of_nonneg (by omega), Int.pow_succ, Int.pow_succ, Int.pow_zero, Int.one_mul]
  have hf2 : (((a.toNat ^ 2) ^ q.toNat % p.toNat : Nat) : Int) = 1 := by rw [hf]; rfl
  rw [Int.natCast_emod, Int.natCast_pow, e2, Int.toNat_of_nonneg (by omega)] at hf2
  exact hf2
theorem gn_sq {p q a : Int} (hp : Pr p.toNat) (h2 : p = 2 * q + 1) (hq : 0 ≤ q) (ha : 2 ≤ a) (hs : a * a < p - 1) : gnB (a * a) p q = true := by
  have h1 := sq_pow hp h2 hq ha hs
  have : a * 2 ≤ a * a := Int.mul_le_mul_of_nonneg_left ha (by omega)
  unfold gnB
  exact decide_eq_true ⟨by omega, hs, h1⟩
theorem gn_neg {p q a : Int} (hp : Pr p.toNat) (h2 : p = 2 * q + 1) (hq : 0 ≤ q) (ho : q % 2 = 1) (ha : 2 ≤ a) (hs : a * a < p - 1) : gnB (p - a * a) p q = false := by
  have h1 := sq_pow hp h2 hq ha hs
  unfold gnB
  refine decide_eq_false fun h => ?_
  have h3 := h.2.2
  have hk : q.toNat = 2 * (q.toNat / 2) + 1 := by omega
  have hd := odd_sum (p - a * a) (a * a) (q.toNat / 2)
  rw [← hk, Int.sub_add_cancel] at hd
  have hz := Int.emod_eq_zero_of_dvd hd
  rw [Int.add_emod, h1, h3] at hz
  have : (1 + 1 : Int) % p = 2 := Int.emod_eq_of_lt (by omega) (by
    have : a * 2 ≤ a * a := Int.mul_le_mul_of_nonneg_left ha (by omega)
    omega)
  omega
end Go.Proofs.Ytgfggkinmhhdnaa
