/- How many bits a word has: math/bits.Len64, LeadingZeros64. -/
import Derived.Test.YtajpjbhppjlehaaW2
import Derived.Shelf.Small.Bits
namespace Go.Proofs.Ytajpjbhppjlehaa
open Go.RowKit Go.Shelf
set_option linter.unusedSimpArgs false
set_option linter.unusedVariables false
def rLen : Ren := ⟨fun n => if n = 134 then 58 else 45, fun n => if n = 46 then 71 else if n = 53 then 22 else n, fun n => n⟩
theorem laysLen : Lays.n134 Try.prog rLen where
  mixed := by kernel_rfl
  f129 := by kernel_rfl
  f134 := by kernel_rfl
  t3 := by kernel_rfl
  a3 := fun _ => by kernel_rfl
  z3 := fun _ => by kernel_rfl
  v3 := fun _ => by kernel_rfl
  t4 := by kernel_rfl
  a4 := fun _ => by kernel_rfl
  z4 := fun _ => by kernel_rfl
  v4 := fun _ => by kernel_rfl
  t5 := by kernel_rfl
  a5 := fun _ => by kernel_rfl
  z5 := fun _ => by kernel_rfl
  v5 := fun _ => by kernel_rfl
  t9 := by kernel_rfl
  a9 := fun _ => by kernel_rfl
  z9 := fun _ => by kernel_rfl
  v9 := fun _ => by kernel_rfl
  t46 := by kernel_rfl
  a46 := fun _ => by kernel_rfl
  z46 := fun _ => by kernel_rfl
  v46 := fun _ => by kernel_rfl
  t53 := by kernel_rfl
  a53 := fun _ => by kernel_rfl
  z53 := fun _ => by kernel_rfl
  v53 := fun _ => by kernel_rfl
/-- The number of bits of a word. -/
def bl (x : Int) : Int := (Lib.bitLen x.toNat : Int)
theorem len64_any (x : Int) (w : World) (hx : W64 x) : Calls Try.prog 45 #[.int .u64 x] w fun e w' => e = .returned (.int .i64 (bl x)) ∧ w' = w :=
  Any.bits_Len64 { laysLen with } x w hx.1 (by have := hx.2; omega)
theorem lead64_any (x : Int) (w : World) (hx : W64 x) : Calls Try.prog 58 #[.int .u64 x] w fun e w' => e = .returned (.int .i64 (64 - bl x)) ∧ w' = w :=
  Any.bits_LeadingZeros64 laysLen x w hx.1 (by have := hx.2; omega)
theorem bl_bd (x : Int) (hx : W64 x) : 0 ≤ bl x ∧ bl x ≤ 64 := by
  have h := Lib.bitLen_le x.toNat 64 (by omega) (by have := hx.1; have := hx.2; omega)
  unfold bl; omega
theorem bitLen_spec : ∀ (k x : Nat), x < 2 ^ k → x ≠ 0 → k ≤ 64 → 0 < Lib.bitLen x ∧ 2 ^ (Lib.bitLen x - 1) ≤ x ∧ x < 2 ^ Lib.bitLen x
  | 0, x, h, h0, _ => by simp at h; omega
  | k + 1, x, h, h0, hk => by
    have hx : x < 2 ^ 64 := Nat.lt_of_lt_of_le h (Nat.pow_le_pow_right (by omega) hk)
    rw [Lib.bitLen_half x h0 hx]
    by_cases h1 : x / 2 = 0
    · have hz : Lib.bitLen (x / 2) = 0 := by rw [h1]; decide
      rw [hz]; simp; omega
    · obtain ⟨p, q, r⟩ := bitLen_spec k (x / 2) (by rw [Nat.pow_succ] at h; omega) h1 (by omega)
      refine ⟨by omega, ?_, ?_⟩
      · have e : 1 + Lib.bitLen (x / 2) - 1 = (Lib.bitLen (x / 2) - 1) + 1 := by omega
        rw [e, Nat.pow_succ]; omega
      · have e : 1 + Lib.bitLen (x / 2) = Lib.bitLen (x / 2) + 1 := by omega
        rw [e, Nat.pow_succ]; omega
theorem bl_top (x : Int) (hx : W64 x) (h : 9223372036854775808 ≤ x) : bl x = 64 := by
  have hb := bl_bd x hx
  obtain ⟨_, _, r⟩ := bitLen_spec 64 x.toNat (by have := hx.2; omega) (by omega) (by omega)
  have : ¬ Lib.bitLen x.toNat ≤ 63 := fun hle => by
    have := Nat.pow_le_pow_right (n := 2) (by omega) hle
    omega
  unfold bl at *; omega
end Go.Proofs.Ytajpjbhppjlehaa
