/- Plain numbers: digits of four bits, the highest first, as words. -/
import Derived.Test.YtgfggkinmhhdnaaC0
namespace Go.Proofs.Ytgfggkinmhhdnaa
set_option linter.unusedVariables false
/-- The byte at a place, counted from the lowest. -/
def dv (xs : List Int) (p : Nat) : Int := xs.getD (xs.length - 1 - p) 0
/-- The word q of the lowest k places. -/
def Uk (xs : List Int) (q : Nat) : Nat → Int
  | 0 => 0
  | k + 1 => Uk xs q k + if k / 16 = q then dv xs k * 2 ^ (k % 16 * 4) else 0
def Digs (xs : List Int) : Prop := ∀ x ∈ xs, 0 ≤ x ∧ x < 16
theorem dv_bd (xs : List Int) (h : Digs xs) (p : Nat) : 0 ≤ dv xs p ∧ dv xs p < 16 := by
  unfold dv
  by_cases hl : xs.length - 1 - p < xs.length
  · rw [List.getD_eq_getElem?_getD, List.getElem?_eq_getElem hl, Option.getD_some]; exact h _ (List.getElem_mem hl)
  · rw [List.getD_eq_getElem?_getD, List.getElem?_eq_none (by omega)]; simp
theorem Uk_lo (xs : List Int) (q : Nat) : ∀ k, k ≤ 16 * q → Uk xs q k = 0
  | 0, _ => rfl
  | k + 1, h => by
    unfold Uk
    rw [Uk_lo xs q k (by omega), if_neg (by omega)]; omega
theorem Uk_mid (xs : List Int) (h : Digs xs) (q : Nat) : ∀ k, 16 * q ≤ k → k ≤ 16 * q + 16 → 0 ≤ Uk xs q k ∧ Uk xs q k < 2 ^ ((k - 16 * q) * 4)
  | 0, h1, h2 => by
    have : q = 0 := by omega
    subst this; unfold Uk; simp
  | k + 1, h1, h2 => by
    by_cases e : 16 * q ≤ k
    · obtain ⟨i1, i2⟩ := Uk_mid xs h q k e (by omega)
      have b := dv_bd xs h k
      unfold Uk
      rw [if_pos (by omega), show (k + 1 - 16 * q) * 4 = (k - 16 * q) * 4 + 4 by omega, Int.pow_add, show k % 16 * 4 = (k - 16 * q) * 4 by omega]
      have p := pow_pos2 ((k - 16 * q) * 4)
      generalize (2 : Int) ^ ((k - 16 * q) * 4) = s at *
      have m1 : 0 ≤ dv xs k * s := Int.mul_nonneg b.1 (by omega)
      have m2 : dv xs k * s ≤ 15 * s := Int.mul_le_mul_of_nonneg_right (by omega) (by omega)
      have m3 : s * 2 ^ 4 = 16 * s := by rw [Int.mul_comm]; rfl
      omega
    · have e2 : 16 * q = k + 1 := by omega
      rw [Uk_lo xs q (k + 1) (by omega), show k + 1 - 16 * q = 0 by omega]; simp
theorem Uk_hi (xs : List Int) (q : Nat) : ∀ k, 16 * q + 16 ≤ k → Uk xs q k = Uk xs q (16 * q + 16)
  | 0, h => by omega
  | k + 1, h => by
    by_cases e : 16 * q + 16 = k + 1
    · rw [e]
    · have := Uk_hi xs q k (by omega)
      show Uk xs q k + _ = _
      rw [if_neg (by omega), this]; omega
theorem Uk_W (xs : List Int) (h : Digs xs) (q k : Nat) : W64 (Uk xs q k) := by
  by_cases h1 : k ≤ 16 * q
  · rw [Uk_lo xs q k h1]; exact ⟨by omega, by omega⟩
  · by_cases h2 : k ≤ 16 * q + 16
    · obtain ⟨i1, i2⟩ := Uk_mid xs h q k (by omega) h2
      refine ⟨i1, ?_⟩
      have e : (18446744073709551616 : Int) = 2 ^ ((k - 16 * q) * 4) * 2 ^ (64 - (k - 16 * q) * 4) := by
        rw [← Int.pow_add, show (k - 16 * q) * 4 + (64 - (k - 16 * q) * 4) = 64 by omega]; rfl
      have p := pow_pos2 (64 - (k - 16 * q) * 4)
      have m := Int.mul_le_mul_of_nonneg_left (show (1 : Int) ≤ 2 ^ (64 - (k - 16 * q) * 4) by omega) (Int.le_of_lt (pow_pos2 ((k - 16 * q) * 4)))
      rw [e]; omega
    · rw [Uk_hi xs q k (by omega)]
      obtain ⟨i1, i2⟩ := Uk_mid xs h q (16 * q + 16) (by omega) (by omega)
      refine ⟨i1, ?_⟩
      rw [show (16 * q + 16 - 16 * q) * 4 = 64 by omega] at i2
      exact i2
/-- A byte more, by or. -/
theorem Uk_or (xs : List Int) (h : Digs xs) (k q : Nat) (hq : k / 16 = q) : bits .or .u64 (Uk xs q k) (IntKind.u64.wrap (dv xs k * 2 ^ (k % 16 * 4))) = Uk xs q (k + 1) := by
  obtain ⟨i1, i2⟩ := Uk_mid xs h q k (by omega) (by omega)
  rw [show (k - 16 * q) * 4 = k % 16 * 4 by omega] at i2
  have b := dv_bd xs h k
  have wn := Uk_W xs h q (k + 1)
  have e : Uk xs q (k + 1) = Uk xs q k + dv xs k * 2 ^ (k % 16 * 4) := by
    show Uk xs q k + _ = _
    rw [if_pos hq]
  have m1 : 0 ≤ dv xs k * 2 ^ (k % 16 * 4) := Int.mul_nonneg b.1 (Int.le_of_lt (pow_pos2 _))
  rw [e] at wn ⊢
  rw [IntKind.wrap_u64, Int.emod_eq_of_lt m1 (by have := wn.2; omega)]
  exact or_int _ _ (k % 16 * 4) ⟨i1, i2⟩ b.1 wn.2
theorem Uk_keep (xs : List Int) (k q : Nat) (hq : k / 16 ≠ q) : Uk xs q (k + 1) = Uk xs q k := by
  show Uk xs q k + _ = _
  rw [if_neg hq]; omega

/-- A digit more from the top: what lies above. -/
theorem Uk_mono (xs : List Int) (h : Digs xs) (q : Nat) : ∀ k n, k ≤ n → Uk xs q k ≤ Uk xs q n
  | k, 0, hk => by
    have : k = 0 := by omega
    subst this; exact Int.le_refl _
  | k, n + 1, hk => by
    by_cases e : k = n + 1
    · subst e; exact Int.le_refl _
    · have i := Uk_mono xs h q k n (by omega)
      have b := dv_bd xs h n
      have m : 0 ≤ dv xs n * 2 ^ (n % 16 * 4) := Int.mul_nonneg b.1 (Int.le_of_lt (pow_pos2 _))
      show Uk xs q k ≤ Uk xs q n + _
      split <;> omega
theorem Uk_top (xs : List Int) (h : Digs xs) (k n q : Nat) (hk : k < n) (hq : k / 16 = q) : IntKind.u64.wrap (Uk xs q n - Uk xs q (k + 1) + dv xs k * 2 ^ (k % 16 * 4)) = Uk xs q n - Uk xs q k := by
  have e : Uk xs q (k + 1) = Uk xs q k + dv xs k * 2 ^ (k % 16 * 4) := by
    show Uk xs q k + _ = _
    rw [if_pos hq]
  have m := Uk_mono xs h q k n (by omega)
  have z := Uk_mono xs h q 0 k (by omega)
  have wn := Uk_W xs h q n
  have z0 : Uk xs q 0 = 0 := rfl
  rw [IntKind.wrap_u64, e, show Uk xs q n - (Uk xs q k + dv xs k * 2 ^ (k % 16 * 4)) + dv xs k * 2 ^ (k % 16 * 4) = Uk xs q n - Uk xs q k by omega]
  exact Int.emod_eq_of_lt (by omega) (by have := wn.2; omega)

/-- A byte more from the top: what lies above. -/
theorem Tk_mono (xs : List Int) (h : Bytes8 xs) (q : Nat) : ∀ k n, k ≤ n → Tk xs q k ≤ Tk xs q n
  | k, 0, hk => by
    have : k = 0 := by omega
    subst this; exact Int.le_refl _
  | k, n + 1, hk => by
    by_cases e : k = n + 1
    · subst e; exact Int.le_refl _
    · have i := Tk_mono xs h q k n (by omega)
      have b := bv_bd xs h n
      have m : 0 ≤ bv xs n * 2 ^ (n % 8 * 8) := Int.mul_nonneg b.1 (Int.le_of_lt (pow_pos2 _))
      show Tk xs q k ≤ Tk xs q n + _
      split <;> omega
theorem Tk_top (xs : List Int) (h : Bytes8 xs) (k n q : Nat) (hk : k < n) (hq : k / 8 = q) : IntKind.u64.wrap (Tk xs q n - Tk xs q (k + 1) + bv xs k * 2 ^ (k % 8 * 8)) = Tk xs q n - Tk xs q k := by
  have e : Tk xs q (k + 1) = Tk xs q k + bv xs k * 2 ^ (k % 8 * 8) := by
    show Tk xs q k + _ = _
    rw [if_pos hq]
  have m := Tk_mono xs h q k n (by omega)
  have z := Tk_mono xs h q 0 k (by omega)
  have wn := Tk_W xs h q n
  have z0 : Tk xs q 0 = 0 := rfl
  rw [IntKind.wrap_u64, e, show Tk xs q n - (Tk xs q k + bv xs k * 2 ^ (k % 8 * 8)) + bv xs k * 2 ^ (k % 8 * 8) = Tk xs q n - Tk xs q k by omega]
  exact Int.emod_eq_of_lt (by omega) (by have := wn.2; omega)
end Go.Proofs.Ytgfggkinmhhdnaa
