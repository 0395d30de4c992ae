/- Walks: the reference's bit and Bit. -/
import Derived.Test.YtajpjbhppjlehaaB3
import Derived.Test.YtajpjbhppjlehaaW6
namespace Go.Proofs.Ytajpjbhppjlehaa
open Go.RowKit
set_option linter.unusedSimpArgs false
set_option linter.unusedVariables false

set_option maxHeartbeats 1000000 in
theorem bitd_any (g cap k : Nat) (x i r : Int) (w : World) (hk8 : (k : Int) < 8) (hk0 : (0 : Int) ≤ (k : Int)) (hc : w.cell? ⟨g, k, none⟩ = some (.int .u64 x)) (x0 : 0 ≤ x) (x1 : x < 18446744073709551616)
    (h0 : 0 ≤ i) (h1 : i < 256) (hk : i / 32 = (k : Int)) (hr : i % 32 = r) (r0 : 0 ≤ r) (r1 : r ≤ 31) :
    Calls Try.prog 47 #[.slice (some ⟨g, 0, none⟩) 8 cap, .int .i64 i] w fun en w' => en = .returned (.int .u64 (x / 2 ^ r.toNat % 2)) ∧ w' = w := by
  go_enter Try.func47, Try.ntmps47
  go_wp2
  go_loop [5, 6] (fun s5 s6 => ∃ j : Nat, (j : Int) ≤ r ∧ s6 = .int .i64 j ∧ s5 = .int .u64 (x / 2 ^ j)) (fun _ s6 => (r - intOf s6).toNat)
  case atStart => exact ⟨0, by omega, rfl, by simp⟩
  case round =>
    obtain ⟨j, hj, rfl, rfl⟩ := hrel
    have hw := W_shr x j ⟨x0, x1⟩
    obtain ⟨hw0, hw1⟩ := hw
    have hstep : x / 2 ^ j / 2 = x / 2 ^ (j + 1) := by rw [Int.pow_succ, Int.ediv_ediv_of_nonneg (Int.le_of_lt (Int.pow_pos (by omega)))]
    have HS : Hid (x / 2 ^ j / 2 = x / 2 ^ (j + 1)) := hstep
    clear hstep hc
    by_cases hlt : (j : Int) < r
    · go_wp2
      go_round
      case rel => exact ⟨j + 1, by omega, by go_num, congrArg (Value.int IntKind.u64) HS.out⟩
      case measure => simp [intOf]; omega
    · have hjr : j = r.toNat := by omega
      subst hjr
      go_wp2
      go_ret
      exact ⟨rfl, rfl⟩
theorem half_lo (x : Int) (n : Nat) (h : n ≤ 31) : x % 4294967296 / 2 ^ n % 2 = x / 2 ^ n % 2 := by
  have p : (0 : Int) < 2 ^ n := Int.pow_pos (by omega)
  have e : (4294967296 : Int) = 2 ^ n * (2 * 2 ^ (31 - n)) := by
    rw [← Int.mul_assoc, Int.mul_comm ((2 : Int) ^ n) 2, Int.mul_assoc, ← Int.pow_add, show n + (31 - n) = 31 by omega]; rfl
  have m := Int.mul_ediv_add_emod x 4294967296
  have hx : x = x % 4294967296 + 2 ^ n * (2 * (2 ^ (31 - n) * (x / 4294967296))) := by
    have hq : ∀ q : Int, (2 : Int) ^ n * (2 * (2 ^ (31 - n) * q)) = 4294967296 * q := fun q => by
      conv => rhs; rw [e]
      rw [Int.mul_assoc, Int.mul_assoc]
    have := hq (x / 4294967296)
    omega
  have h2 : x / 2 ^ n = x % 4294967296 / 2 ^ n + 2 * (2 ^ (31 - n) * (x / 4294967296)) := by
    conv => lhs; rw [hx]
    rw [Int.add_mul_ediv_left _ _ (by omega)]
  rw [h2]; omega
theorem half_hi (x : Int) (n : Nat) : x / 4294967296 / 2 ^ n = x / 2 ^ (32 + n) := by
  rw [Int.ediv_ediv_of_nonneg (by omega), Int.pow_add]; rfl
set_option maxHeartbeats 1000000 in
theorem rbit_out (a b c d i : Int) (w : World) (h : i < 0 ∨ 256 ≤ i) :
    Calls Try.prog 25 #[A4 a b c d, .int .i64 i] w fun en w' => en = .returned (.bool false) ∧ Below w.heap.size w w' := by
  by_cases h0 : i < 0
  · go_enter Try.func25, Try.ntmps25
    go_wp2
    go_ret
    exact ⟨rfl, by go_grown⟩
  · have h1 : 256 ≤ i := by omega
    have h2 : 0 ≤ i := by omega
    go_enter Try.func25, Try.ntmps25
    go_wp2
    go_ret
    exact ⟨rfl, by go_grown⟩
set_option maxRecDepth 100000 in
set_option maxHeartbeats 1000000 in
theorem rbit_in (a b c d i r x : Int) (k : Nat) (w : World) (ha : W64 a) (hb : W64 b) (hc : W64 c) (hd : W64 d) (h0 : 0 ≤ i) (h1 : i < 256) (hk8 : (k : Int) < 8) (hk : i / 32 = (k : Int)) (hr : i % 32 = r) (hx : (dgl 4 a b c d)[k]? = some (.int .u64 x)) (x0 : 0 ≤ x) (x1 : x < 18446744073709551616) :
    Calls Try.prog 25 #[A4 a b c d, .int .i64 i] w fun en w' => en = .returned (.bool (x / 2 ^ r.toNat % 2 == 1)) ∧ Below w.heap.size w w' := by
  have HX : Hid _ := hx
  clear hx
  go_enter Try.func25, Try.ntmps25
  go_wp2_with fail
  refine (digits_any _ a b c d _ (by unfold C4; simp [go_sem]) ha hb hc hd).mono ?_
  rintro en w1 ⟨g, cap, rfl, hown, hB⟩
  have hcell := hown.cells (g := g) rfl k _ HX.out
  have hadd : (⟨g, 0, none⟩ : Addr).add k = ⟨g, k, none⟩ := by unfold Addr.add; split <;> simp_all
  rw [hadd] at hcell
  have hB' : Below w.heap.size w w1 := bstep (balloc (bself w) _) hB
  clear hown hB hadd
  have HC : Hid _ := hcell
  clear hcell
  go_wp2_with fail
  refine (bitd_any g cap k x i r _ hk8 (by omega) HC.out x0 x1 h0 h1 hk hr (by omega) (by omega)).mono ?_
  rintro en w2 ⟨rfl, rfl⟩
  go_wp2
  go_ret
  exact ⟨rfl, hB'⟩
theorem rBit_any (a b c d i : Int) (w : World) (ha : W64 a) (hb : W64 b) (hc : W64 c) (hd : W64 d) :
    Calls Try.prog 25 #[A4 a b c d, .int .i64 i] w fun en w' => en = .returned (.bool (bitv a b c d i)) ∧ Below w.heap.size w w' := by
  by_cases h : i < 0 ∨ 256 ≤ i
  · have e : bitv a b c d i = false := by
      unfold bitv; rcases h with h | h
      · simp; omega
      · simp; omega
    rw [e]; exact rbit_out a b c d i w h
  · have h0 : 0 ≤ i := by omega
    have h1 : i < 256 := by omega
    have hc8 : i / 32 = 0 ∨ i / 32 = 1 ∨ i / 32 = 2 ∨ i / 32 = 3 ∨ i / 32 = 4 ∨ i / 32 = 5 ∨ i / 32 = 6 ∨ i / 32 = 7 := by omega
    unfold bitv wordOf
    simp only [h0, h1, decide_true, Bool.true_and]
    have ha' := ha; have hb' := hb; have hc' := hc; have hd' := hd
    obtain ⟨a1, a2⟩ := ha'; obtain ⟨b1, b2⟩ := hb'; obtain ⟨c1, c2⟩ := hc'; obtain ⟨d1, d2⟩ := hd'
    rcases hc8 with hk | hk | hk | hk | hk | hk | hk | hk
    · have hq : i / 64 = 0 := by omega
      have := rbit_in a b c d i (i % 32) (a % 4294967296) 0 w ha hb hc hd h0 h1 (by omega) hk rfl rfl (by omega) (by omega)
      rw [hq]
      rw [half_lo a (i % 32).toNat (by omega), show (i % 32).toNat = (i % 64).toNat by omega] at this
      exact this
    · have hq : i / 64 = 0 := by omega
      have := rbit_in a b c d i (i % 32) (a / 4294967296) 1 w ha hb hc hd h0 h1 (by omega) hk rfl rfl (by omega) (by omega)
      rw [hq]
      rw [half_hi a (i % 32).toNat, show 32 + (i % 32).toNat = (i % 64).toNat by omega] at this
      exact this
    · have hq : i / 64 = 1 := by omega
      have := rbit_in a b c d i (i % 32) (b % 4294967296) 2 w ha hb hc hd h0 h1 (by omega) hk rfl rfl (by omega) (by omega)
      rw [hq]
      rw [half_lo b (i % 32).toNat (by omega), show (i % 32).toNat = (i % 64).toNat by omega] at this
      exact this
    · have hq : i / 64 = 1 := by omega
      have := rbit_in a b c d i (i % 32) (b / 4294967296) 3 w ha hb hc hd h0 h1 (by omega) hk rfl rfl (by omega) (by omega)
      rw [hq]
      rw [half_hi b (i % 32).toNat, show 32 + (i % 32).toNat = (i % 64).toNat by omega] at this
      exact this
    · have hq : i / 64 = 2 := by omega
      have := rbit_in a b c d i (i % 32) (c % 4294967296) 4 w ha hb hc hd h0 h1 (by omega) hk rfl rfl (by omega) (by omega)
      rw [hq]
      rw [half_lo c (i % 32).toNat (by omega), show (i % 32).toNat = (i % 64).toNat by omega] at this
      exact this
    · have hq : i / 64 = 2 := by omega
      have := rbit_in a b c d i (i % 32) (c / 4294967296) 5 w ha hb hc hd h0 h1 (by omega) hk rfl rfl (by omega) (by omega)
      rw [hq]
      rw [half_hi c (i % 32).toNat, show 32 + (i % 32).toNat = (i % 64).toNat by omega] at this
      exact this
    · have hq : i / 64 = 3 := by omega
      have := rbit_in a b c d i (i % 32) (d % 4294967296) 6 w ha hb hc hd h0 h1 (by omega) hk rfl rfl (by omega) (by omega)
      rw [hq]
      rw [half_lo d (i % 32).toNat (by omega), show (i % 32).toNat = (i % 64).toNat by omega] at this
      exact this
    · have hq : i / 64 = 3 := by omega
      have := rbit_in a b c d i (i % 32) (d / 4294967296) 7 w ha hb hc hd h0 h1 (by omega) hk rfl rfl (by omega) (by omega)
      rw [hq]
      rw [half_hi d (i % 32).toNat, show 32 + (i % 32).toNat = (i % 64).toNat by omega] at this
      exact this
end Go.Proofs.Ytajpjbhppjlehaa
