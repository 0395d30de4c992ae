/- Walks: limb's scale. -/
import Derived.Test.YtgfggkinmhhdnaaM1
import Derived.Deep.RegionHeld3
namespace Go.Proofs.Ytgfggkinmhhdnaa
open Go.RowKit
set_option linter.unusedSimpArgs false
set_option linter.unusedVariables false

theorem V_mul (a b c d p : Int) : V a b c d * p = a * p + b * p * 18446744073709551616 + c * p * 340282366920938463463374607431768211456 + d * p * 6277101735386680763835789423207666416102355444464034512896 := by
  unfold V
  rw [Int.add_mul, Int.add_mul, Int.add_mul, Int.mul_right_comm b, Int.mul_right_comm c, Int.mul_right_comm d]
theorem W_hi (x p : Int) (hx : W64 x) (hp : W64 p) : W64 (x * p / 18446744073709551616) := by
  obtain ⟨x1, x2⟩ := hx; obtain ⟨p1, p2⟩ := hp
  have h0 : 0 ≤ x * p := Int.mul_nonneg x1 p1
  have h1 : x * p ≤ 18446744073709551615 * 18446744073709551615 := Int.mul_le_mul (by omega) (by omega) p1 (by omega)
  unfold W64; omega
theorem W_lo (x : Int) : W64 (x % 18446744073709551616) := by unfold W64; omega
theorem W_0 : W64 0 := by unfold W64; omega
theorem scale_spec (a b c d p : Int) (ha : W64 a) (hb : W64 b) (hc : W64 c) (hd : W64 d) (hp : W64 p) :
    D0 (V a b c d * p) = D0 (V (a * p % 18446744073709551616) (b * p % 18446744073709551616) (c * p % 18446744073709551616) (d * p % 18446744073709551616) + V 0 (a * p / 18446744073709551616) (b * p / 18446744073709551616) (c * p / 18446744073709551616)) ∧ D1 (V a b c d * p) = D1 (V (a * p % 18446744073709551616) (b * p % 18446744073709551616) (c * p % 18446744073709551616) (d * p % 18446744073709551616) + V 0 (a * p / 18446744073709551616) (b * p / 18446744073709551616) (c * p / 18446744073709551616)) ∧ D2 (V a b c d * p) = D2 (V (a * p % 18446744073709551616) (b * p % 18446744073709551616) (c * p % 18446744073709551616) (d * p % 18446744073709551616) + V 0 (a * p / 18446744073709551616) (b * p / 18446744073709551616) (c * p / 18446744073709551616)) ∧ D3 (V a b c d * p) = D3 (V (a * p % 18446744073709551616) (b * p % 18446744073709551616) (c * p % 18446744073709551616) (d * p % 18446744073709551616) + V 0 (a * p / 18446744073709551616) (b * p / 18446744073709551616) (c * p / 18446744073709551616)) ∧ D4 (V a b c d * p) = (d * p / 18446744073709551616) + D4 (V (a * p % 18446744073709551616) (b * p % 18446744073709551616) (c * p % 18446744073709551616) (d * p % 18446744073709551616) + V 0 (a * p / 18446744073709551616) (b * p / 18446744073709551616) (c * p / 18446744073709551616)) ∧ 0 ≤ D4 (V (a * p % 18446744073709551616) (b * p % 18446744073709551616) (c * p % 18446744073709551616) (d * p % 18446744073709551616) + V 0 (a * p / 18446744073709551616) (b * p / 18446744073709551616) (c * p / 18446744073709551616)) ∧ (d * p / 18446744073709551616) + D4 (V (a * p % 18446744073709551616) (b * p % 18446744073709551616) (c * p % 18446744073709551616) (d * p % 18446744073709551616) + V 0 (a * p / 18446744073709551616) (b * p / 18446744073709551616) (c * p / 18446744073709551616)) < 18446744073709551616 := by
  have hd' := W_hi d p hd hp
  obtain ⟨a1, a2⟩ := ha; obtain ⟨b1, b2⟩ := hb; obtain ⟨c1, c2⟩ := hc; obtain ⟨d1, d2⟩ := hd; obtain ⟨p1, p2⟩ := hp
  rw [V_mul]
  have q0 : 0 ≤ a * p := Int.mul_nonneg a1 p1
  have q1 : 0 ≤ b * p := Int.mul_nonneg b1 p1
  have q2 : 0 ≤ c * p := Int.mul_nonneg c1 p1
  have q3 : 0 ≤ d * p := Int.mul_nonneg d1 p1
  have m : ∀ x : Int, 0 ≤ x → x < 18446744073709551616 → x * p ≤ 18446744073709551615 * 18446744073709551615 := fun x h1 h2 => Int.mul_le_mul (by omega) (by omega) p1 (by omega)
  have m0 := m a a1 a2; have m1 := m b b1 b2; have m2 := m c c1 c2; have m3 := m d d1 d2
  generalize a * p = A at *
  generalize b * p = B at *
  generalize c * p = C at *
  generalize d * p = D at *
  unfold D0 D1 D2 D3 D4 V
  refine ⟨?_, ?_, ?_, ?_, ?_, ?_, ?_⟩ <;> omega

set_option maxRecDepth 100000 in
set_option maxHeartbeats 1000000 in
theorem scale_any (a b c d p : Int) (w : World) (ha : W64 a) (hb : W64 b) (hc : W64 c) (hd : W64 d) (hp : W64 p) :
    Calls Try.prog 77 #[A4 a b c d, .int .u64 p] w fun e w' => e = .returned (.tuple #[NV (V a b c d * p), .int .u64 (D4 (V a b c d * p))]) ∧ Below w.heap.size w w' := by
  obtain ⟨e0, e1, e2, e3, e4, e5, e6⟩ := scale_spec a b c d p ha hb hc hd hp
  have HE : Hid (Ending.returned (.tuple #[NV (V a b c d * p), .int .u64 (D4 (V a b c d * p))]) = Ending.returned (.tuple #[NV (V (a * p % 18446744073709551616) (b * p % 18446744073709551616) (c * p % 18446744073709551616) (d * p % 18446744073709551616) + V 0 (a * p / 18446744073709551616) (b * p / 18446744073709551616) (c * p / 18446744073709551616)), .int .u64 ((d * p / 18446744073709551616) + D4 (V (a * p % 18446744073709551616) (b * p % 18446744073709551616) (c * p % 18446744073709551616) (d * p % 18446744073709551616) + V 0 (a * p / 18446744073709551616) (b * p / 18446744073709551616) (c * p / 18446744073709551616)))])) := by
    unfold NV; rw [e0, e1, e2, e3, e4]; rfl
  have hd0 := (W_hi d p hd hp).1
  clear e0 e1 e2 e3 e4
  go_enter Try.func77, Try.ntmps77
  go_wp2
  refine wp_loop_rounds 5 ?_
  rw [rounds_succ]
  go_wp2_with fail
  refine (mul64_any a p ha hp _).mono ?_
  rintro e w' ⟨rfl, rfl⟩
  go_wp2
  rw [rounds_succ]
  go_wp2_with fail
  refine (mul64_any b p hb hp _).mono ?_
  rintro e w' ⟨rfl, rfl⟩
  go_wp2
  rw [rounds_succ]
  go_wp2_with fail
  refine (mul64_any c p hc hp _).mono ?_
  rintro e w' ⟨rfl, rfl⟩
  go_wp2
  rw [rounds_succ]
  go_wp2_with fail
  refine (mul64_any d p hd hp _).mono ?_
  rintro e w' ⟨rfl, rfl⟩
  go_wp2
  rw [rounds_succ]
  go_wp2_with fail
  refine (add_any _ _ _ _ _ _ _ _ _ (W_lo _) (W_lo _) (W_lo _) (W_lo _) W_0 (W_hi a p ha hp) (W_hi b p hb hp) (W_hi c p hc hp)).mono ?_
  rintro e w1 ⟨rfl, hB⟩
  obtain ⟨hcell, hfroz, hsize⟩ := bcell hB
  simp only [World.size_alloc] at hsize hcell hfroz
  have z0 : w.heap.size < w1.heap.size := by omega
  have z1 : w.heap.size + 1 < w1.heap.size := by omega
  have z2 : w.heap.size + 1 + 1 < w1.heap.size := by omega
  have z3 : w.heap.size + 1 + 1 + 1 < w1.heap.size := by omega
  have hB' : Below w.heap.size w w1 := Below.trans (by go_grown) (hB.mono (by simp; omega))
  clear hB
  have hw : IntKind.u64.wrap ((d * p / 18446744073709551616) + D4 (V (a * p % 18446744073709551616) (b * p % 18446744073709551616) (c * p % 18446744073709551616) (d * p % 18446744073709551616) + V 0 (a * p / 18446744073709551616) (b * p / 18446744073709551616) (c * p / 18446744073709551616))) = (d * p / 18446744073709551616) + D4 (V (a * p % 18446744073709551616) (b * p % 18446744073709551616) (c * p % 18446744073709551616) (d * p % 18446744073709551616) + V 0 (a * p / 18446744073709551616) (b * p / 18446744073709551616) (c * p / 18446744073709551616)) := by rw [IntKind.wrap_u64]; omega
  have hs1 := hB'.size
  go_wp2
  go_region
  go_wp2
  refine bodyPost_ret (v := .tuple #[NV (V (a * p % 18446744073709551616) (b * p % 18446744073709551616) (c * p % 18446744073709551616) (d * p % 18446744073709551616) + V 0 (a * p / 18446744073709551616) (b * p / 18446744073709551616) (c * p / 18446744073709551616)), .int .u64 ((d * p / 18446744073709551616) + D4 (V (a * p % 18446744073709551616) (b * p % 18446744073709551616) (c * p % 18446744073709551616) (d * p % 18446744073709551616) + V 0 (a * p / 18446744073709551616) (b * p / 18446744073709551616) (c * p / 18446744073709551616)))]) (by simp [results, Try.results77, go_sem, hcell, z0, z1, z2, z3, hw]) rfl ⟨HE.out.symm, ?_⟩
  repeat' (first | (with_reducible exact Below.refl _ _) | (with_reducible assumption) | (with_reducible refine below_drewN ?_ _) | (with_reducible refine Below.drew ?_) | (with_reducible refine Below.setCell ?_ ?_ _) | (with_reducible refine Below.alloc ?_ ?_ _) | go_size)
end Go.Proofs.Ytgfggkinmhhdnaa
