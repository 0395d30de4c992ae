import Derived.Test.YtgfggkinmhhdnaaW2
import Derived.Shelf.Small.Bits
/- How many bits a word has: math/bits.Len64, LeadingZeros64. -/
namespace Go.Proofs.Ytgfggkinmhhdnaa
open Go.RowKit Go.Shelf
set_option linter.unusedSimpArgs false
set_option linter.unusedVariables false
def rLen : Ren := ⟨fun n => if n = 134 then 94 else 75, fun n => if n = 46 then 109 else if n = 53 then 22 else n, fun n => n⟩
theorem laysLen : Lays.n134 Try.prog rLen where
  mixed := by kernel_rfl
  f129 := by kernel_rfl
  f134 := by kernel_rfl
  t3 := by kernel_rfl
  a3 := fun _ => by kernel_rfl
  z3 := fun _ => by kernel_rfl
  v3 := fun _ => by kernel_rfl
  t4 := by kernel_rfl
  a4 := fun _ => by kernel_rfl
  z4 := fun _ => by kernel_rfl
  v4 := fun _ => by kernel_rfl
  t5 := by kernel_rfl
  a5 := fun _ => by kernel_rfl
  z5 := fun _ => by kernel_rfl
  v5 := fun _ => by kernel_rfl
  t9 := by kernel_rfl
  a9 := fun _ => by kernel_rfl
  z9 := fun _ => by kernel_rfl
  v9 := fun _ => by kernel_rfl
  t46 := by kernel_rfl
  a46 := fun _ => by kernel_rfl
  z46 := fun _ => by kernel_rfl
  v46 := fun _ => by kernel_rfl
  t53 := by kernel_rfl
  a53 := fun _ => by kernel_rfl
  z53 := fun _ => by kernel_rfl
  v53 := fun _ => by kernel_rfl
/-- The number of bits of a word. -/
def bl (x : Int) : Int := (Lib.bitLen x.toNat : Int)
theorem len64_any (x : Int) (w : World) (hx : W64 x) : Calls Try.prog 75 #[.int .u64 x] w fun e w' => e = .returned (.int .i64 (bl x)) ∧ w' = w :=
  Any.bits_Len64 { laysLen with } x w hx.1 (by have := hx.2; omega)
theorem lead64_any (x : Int) (w : World) (hx : W64 x) : Calls Try.prog 94 #[.int .u64 x] w fun e w' => e = .returned (.int .i64 (64 - bl x)) ∧ w' = w :=
  Any.bits_LeadingZeros64 laysLen x w hx.1 (by have := hx.2; omega)
theorem bl_bd (x : Int) (hx : W64 x) : 0 ≤ bl x ∧ bl x ≤ 64 := by
  have h := Lib.bitLen_le x.toNat 64 (by omega) (by have := hx.1; have := hx.2; omega)
  unfold bl; omega
theorem bitLen_spec : ∀ (k x : Nat), x < 2 ^ k → x ≠ 0 → k ≤ 64 → 0 < Lib.bitLen x ∧ 2 ^ (Lib.bitLen x - 1) ≤ x ∧ x < 2 ^ Lib.bitLen x
  | 0, x, h, h0, _ => by simp at h; omega
  | k + 1, x, h, h0, hk => by
    have hx : x < 2 ^ 64 := Nat.lt_of_lt_of_le h (Nat.pow_le_pow_right (by omega) hk)
    rw [Lib.bitLen_half x h0 hx]
    by_cases h1 : x / 2 = 0
    · have hz : Lib.bitLen (x / 2) = 0 := by rw [h1]; decide
      rw [hz]; simp; omega
    · obtain ⟨p, q, r⟩ := bitLen_spec k (x / 2) (by rw [Nat.pow_succ] at h; omega) h1 (by omega)
      refine ⟨by omega, ?_, ?_⟩
      · have e : 1 + Lib.bitLen (x / 2) - 1 = (Lib.bitLen (x / 2) - 1) + 1 := by omega
        rw [e, Nat.pow_succ]; omega
      · have e : 1 + Lib.bitLen (x / 2) = Lib.bitLen (x / 2) + 1 := by omega
        rw [e, Nat.pow_succ]; omega
theorem bl_top (x : Int) (hx : W64 x) (h : 9223372036854775808 ≤ x) : bl x = 64 := by
  have hb := bl_bd x hx
  obtain ⟨_, _, r⟩ := bitLen_spec 64 x.toNat (by have := hx.2; omega) (by omega) (by omega)
  have : ¬ Lib.bitLen x.toNat ≤ 63 := fun hle => by
    have := Nat.pow_le_pow_right (n := 2) (by omega) hle
    omega
  unfold bl at *; omega
end Go.Proofs.Ytgfggkinmhhdnaa
/- Walks: limb's Length. -/
namespace Go.Proofs.Ytgfggkinmhhdnaa
open Go.RowKit
set_option linter.unusedSimpArgs false
set_option linter.unusedVariables false
/-- The number of bits of four words. -/
def blen (a b c d : Int) : Int := if d ≠ 0 then 192 + bl d else if c ≠ 0 then 128 + bl c else if b ≠ 0 then 64 + bl b else if a ≠ 0 then bl a else 0
set_option maxHeartbeats 1000000 in
theorem length_any (a b c d : Int) (w : World) (ha : W64 a) (hb : W64 b) (hc : W64 c) (hd : W64 d) :
    Calls Try.prog 60 #[A4 a b c d] w fun e w' => e = .returned (.int .i64 (blen a b c d)) ∧ Below w.heap.size w w' := by
  obtain ⟨a1, a2⟩ := bl_bd a ha; obtain ⟨b1, b2⟩ := bl_bd b hb; obtain ⟨c1, c2⟩ := bl_bd c hc; obtain ⟨d1, d2⟩ := bl_bd d hd
  unfold blen
  go_enter Try.func60, Try.ntmps60
  go_wp2
  refine wp_loop_rounds 5 ?_
  repeat any_goals (rw [rounds_succ]; go_wp2_with (go_at_call 75; refine (len64_any _ _ (by assumption)).mono ?_; rintro e w' ⟨rfl, rfl⟩))
  all_goals (go_ret; refine ⟨?_, by go_grown⟩; simp_all)
theorem bl_spec (x : Int) (hx : W64 x) (h : x ≠ 0) : 0 < bl x ∧ (2 : Int) ^ (bl x - 1).toNat ≤ x ∧ x < 2 ^ (bl x).toNat := by
  obtain ⟨x1, x2⟩ := hx
  obtain ⟨p, q, r⟩ := bitLen_spec 64 x.toNat (by omega) (by omega) (by omega)
  have e1 : (bl x - 1).toNat = Lib.bitLen x.toNat - 1 := by unfold bl; omega
  have e2 : (bl x).toNat = Lib.bitLen x.toNat := by unfold bl; omega
  rw [e1, e2]
  have q' : ((2 ^ (Lib.bitLen x.toNat - 1) : Nat) : Int) ≤ ((x.toNat : Nat) : Int) := Int.ofNat_le.2 q
  have r' : ((x.toNat : Nat) : Int) < ((2 ^ Lib.bitLen x.toNat : Nat) : Int) := Int.ofNat_lt.2 r
  simp only [Int.natCast_pow, Int.cast_ofNat_Int] at q' r'
  exact ⟨by unfold bl; omega, by omega, by omega⟩
/-- What is lifted by what its length lacks has its top bit. -/
theorem lift_top (a b c d : Int) (ha : W64 a) (hb : W64 b) (hc : W64 c) (hd : W64 d) (h : V a b c d ≠ 0) :
    0 ≤ 256 - blen a b c d ∧ 256 - blen a b c d ≤ 255 ∧ 57896044618658097711785492504343953926634992332820282019728792003956564819968 ≤ V a b c d * 2 ^ (256 - blen a b c d).toNat ∧ V a b c d * 2 ^ (256 - blen a b c d).toNat < 115792089237316195423570985008687907853269984665640564039457584007913129639936 := by
  have key : ∀ (k : Nat) (x low : Int), k ≤ 192 → W64 x → x ≠ 0 → 0 ≤ low → low < 2 ^ k → V a b c d = low + x * 2 ^ k → blen a b c d = k + bl x →
      0 ≤ 256 - blen a b c d ∧ 256 - blen a b c d ≤ 255 ∧ 57896044618658097711785492504343953926634992332820282019728792003956564819968 ≤ V a b c d * 2 ^ (256 - blen a b c d).toNat ∧ V a b c d * 2 ^ (256 - blen a b c d).toNat < 115792089237316195423570985008687907853269984665640564039457584007913129639936 := by
    intro k x low hk hx h0 l1 l2 e1 e2
    obtain ⟨p, q, r⟩ := bl_spec x hx h0
    have hb2 := bl_bd x hx
    refine ⟨by omega, by omega, ?_, ?_⟩
    · have h1 : (2 : Int) ^ (bl x - 1).toNat * 2 ^ k ≤ V a b c d := by
        have := Int.mul_le_mul_of_nonneg_right q (show (0 : Int) ≤ 2 ^ k from Int.le_of_lt (Int.pow_pos (by omega)))
        omega
      have h2 := Int.mul_le_mul_of_nonneg_right h1 (show (0 : Int) ≤ 2 ^ (256 - blen a b c d).toNat from Int.le_of_lt (Int.pow_pos (by omega)))
      rw [← Int.pow_add, ← Int.pow_add, show (bl x - 1).toNat + k + (256 - blen a b c d).toNat = 255 by omega] at h2
      exact h2
    · have h1 : V a b c d < (2 : Int) ^ (bl x).toNat * 2 ^ k := by
        have h3 : x + 1 ≤ 2 ^ (bl x).toNat := r
        have := Int.mul_le_mul_of_nonneg_right h3 (show (0 : Int) ≤ 2 ^ k from Int.le_of_lt (Int.pow_pos (by omega)))
        rw [Int.add_mul] at this
        omega
      have h2 := Int.mul_lt_mul_of_pos_right h1 (show (0 : Int) < 2 ^ (256 - blen a b c d).toNat from Int.pow_pos (by omega))
      rw [← Int.pow_add, ← Int.pow_add, show (bl x).toNat + k + (256 - blen a b c d).toNat = 256 by omega] at h2
      exact h2
  have ha' := ha; have hb' := hb; have hc' := hc
  obtain ⟨a1, a2⟩ := ha'; obtain ⟨b1, b2⟩ := hb'; obtain ⟨c1, c2⟩ := hc'
  by_cases h3 : d = 0
  · by_cases h2 : c = 0
    · by_cases h1 : b = 0
      · have h0 : a ≠ 0 := by intro h0; apply h; rw [h0, h1, h2, h3]; rfl
        exact key 0 a 0 (by omega) ha h0 (by omega) (by decide) (by subst h3 h2 h1; unfold V; omega) (by unfold blen; simp [h3, h2, h1, h0])
      · exact key 64 b a (by omega) hb h1 a1 (by simpa using a2) (by subst h3 h2; unfold V; omega) (by unfold blen; simp [h3, h2, h1])
    · exact key 128 c (a + b * 18446744073709551616) (by omega) hc h2 (by omega) (by show _ < (340282366920938463463374607431768211456 : Int); omega) (by subst h3; unfold V; omega) (by unfold blen; simp [h3, h2])
  · exact key 192 d (a + b * 18446744073709551616 + c * 340282366920938463463374607431768211456) (by omega) hd h3 (by omega) (by show _ < (6277101735386680763835789423207666416102355444464034512896 : Int); omega) (by unfold V; omega) (by unfold blen; simp [h3])
end Go.Proofs.Ytgfggkinmhhdnaa
