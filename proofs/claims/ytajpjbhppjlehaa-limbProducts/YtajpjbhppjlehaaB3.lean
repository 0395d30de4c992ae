/- Walks: limb's Bit, and the reference's. -/
import Derived.Test.YtajpjbhppjlehaaW5
import Derived.Shelf.Bits.Mul64
namespace Go.Proofs.Ytajpjbhppjlehaa
open Go.RowKit
set_option linter.unusedSimpArgs false
set_option linter.unusedVariables false

/-- The word in which the bit i lies. -/
def wordOf (a b c d i : Int) : Int := if i / 64 = 0 then a else if i / 64 = 1 then b else if i / 64 = 2 then c else d
/-- Is the bit i 1? -/
def bitv (a b c d i : Int) : Bool := decide (0 ≤ i) && decide (i < 256) && (wordOf a b c d i / 2 ^ (i % 64).toNat % 2 == 1)
theorem and1 (x : Int) (h : W64 x) : bits .and .u64 x 1 = x % 2 := by
  obtain ⟨h1, h2⟩ := h
  obtain ⟨x, rfl⟩ := Int.eq_ofNat_of_zero_le h1
  have e := bits_and_u64_nat x 1 (by omega) (by omega)
  have f : x &&& 1 = x % 2 := Nat.and_two_pow_sub_one_eq_mod x 1
  rw [f] at e
  exact e.trans (by omega)
theorem W_shr (x : Int) (n : Nat) (hx : W64 x) : W64 (x / 2 ^ n) := by
  obtain ⟨x1, x2⟩ := hx
  have p : (0 : Int) < 2 ^ n := Int.pow_pos (by omega)
  have h1 : 0 ≤ x / 2 ^ n := Int.ediv_nonneg x1 (by omega)
  have h2 : x / 2 ^ n ≤ x := Int.ediv_le_self _ x1
  exact ⟨h1, by omega⟩
set_option maxHeartbeats 1000000 in
theorem bit_out (a b c d i : Int) (w : World) (h : i < 0 ∨ 256 ≤ i) :
    Calls Try.prog 24 #[A4 a b c d, .int .i64 i] w fun en w' => en = .returned (.bool false) ∧ Below w.heap.size w w' := by
  by_cases h0 : i < 0
  · go_enter Try.func24, Try.ntmps24
    go_wp2
    go_ret
    exact ⟨rfl, by go_grown⟩
  · have h1 : 256 ≤ i := by omega
    go_enter Try.func24, Try.ntmps24
    go_wp2
    go_ret
    exact ⟨rfl, by go_grown⟩
set_option maxHeartbeats 1000000 in
theorem bit_in0 (a b c d i r : Int) (w : World) (hx : W64 a) (h0 : 0 ≤ i) (h1 : i < 256) (hk : i / 64 = 0) (hr : i % 64 = r) (r0 : 0 ≤ r) (r1 : r ≤ 63) :
    Calls Try.prog 24 #[A4 a b c d, .int .i64 i] w fun en w' => en = .returned (.bool (a / 2 ^ r.toNat % 2 == 1)) ∧ Below w.heap.size w w' := by
  have ha := and1 _ (W_shr a r.toNat hx)
  go_enter Try.func24, Try.ntmps24
  go_wp2
  go_ret
  exact ⟨rfl, by go_grown⟩
set_option maxHeartbeats 1000000 in
theorem bit_in1 (a b c d i r : Int) (w : World) (hx : W64 b) (h0 : 0 ≤ i) (h1 : i < 256) (hk : i / 64 = 1) (hr : i % 64 = r) (r0 : 0 ≤ r) (r1 : r ≤ 63) :
    Calls Try.prog 24 #[A4 a b c d, .int .i64 i] w fun en w' => en = .returned (.bool (b / 2 ^ r.toNat % 2 == 1)) ∧ Below w.heap.size w w' := by
  have ha := and1 _ (W_shr b r.toNat hx)
  go_enter Try.func24, Try.ntmps24
  go_wp2
  go_ret
  exact ⟨rfl, by go_grown⟩
set_option maxHeartbeats 1000000 in
theorem bit_in2 (a b c d i r : Int) (w : World) (hx : W64 c) (h0 : 0 ≤ i) (h1 : i < 256) (hk : i / 64 = 2) (hr : i % 64 = r) (r0 : 0 ≤ r) (r1 : r ≤ 63) :
    Calls Try.prog 24 #[A4 a b c d, .int .i64 i] w fun en w' => en = .returned (.bool (c / 2 ^ r.toNat % 2 == 1)) ∧ Below w.heap.size w w' := by
  have ha := and1 _ (W_shr c r.toNat hx)
  go_enter Try.func24, Try.ntmps24
  go_wp2
  go_ret
  exact ⟨rfl, by go_grown⟩
set_option maxHeartbeats 1000000 in
theorem bit_in3 (a b c d i r : Int) (w : World) (hx : W64 d) (h0 : 0 ≤ i) (h1 : i < 256) (hk : i / 64 = 3) (hr : i % 64 = r) (r0 : 0 ≤ r) (r1 : r ≤ 63) :
    Calls Try.prog 24 #[A4 a b c d, .int .i64 i] w fun en w' => en = .returned (.bool (d / 2 ^ r.toNat % 2 == 1)) ∧ Below w.heap.size w w' := by
  have ha := and1 _ (W_shr d r.toNat hx)
  go_enter Try.func24, Try.ntmps24
  go_wp2
  go_ret
  exact ⟨rfl, by go_grown⟩
theorem Bit_any (a b c d i : Int) (w : World) (ha : W64 a) (hb : W64 b) (hc : W64 c) (hd : W64 d) :
    Calls Try.prog 24 #[A4 a b c d, .int .i64 i] w fun en w' => en = .returned (.bool (bitv a b c d i)) ∧ Below w.heap.size w w' := by
  by_cases h : i < 0 ∨ 256 ≤ i
  · have e : bitv a b c d i = false := by
      unfold bitv; rcases h with h | h
      · simp; omega
      · simp; omega
    rw [e]; exact bit_out a b c d i w h
  · have h0 : 0 ≤ i := by omega
    have h1 : i < 256 := by omega
    have hc4 : i / 64 = 0 ∨ i / 64 = 1 ∨ i / 64 = 2 ∨ i / 64 = 3 := by omega
    unfold bitv wordOf
    simp only [h0, h1, decide_true, Bool.true_and]
    rcases hc4 with hk | hk | hk | hk
    · rw [hk]; exact bit_in0 a b c d i (i % 64) w ha h0 h1 hk rfl (by omega) (by omega)
    · rw [hk]; exact bit_in1 a b c d i (i % 64) w hb h0 h1 hk rfl (by omega) (by omega)
    · rw [hk]; exact bit_in2 a b c d i (i % 64) w hc h0 h1 hk rfl (by omega) (by omega)
    · rw [hk]; exact bit_in3 a b c d i (i % 64) w hd h0 h1 hk rfl (by omega) (by omega)
end Go.Proofs.Ytajpjbhppjlehaa
