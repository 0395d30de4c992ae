import Derived.Test.YtkpnjmfndgfogaaRS
import Derived.Test.YtkpnjmfndgfogaaM1
/- Numbers modulo one: minusInverse. -/
namespace Go.Proofs.Ytkpnjmfndgfogaa
open Go.RowKit
set_option linter.unusedVariables false
set_option linter.unusedSimpArgs false
def nx (n x : Int) : Int := IntKind.u64.wrap (x * IntKind.u64.wrap (2 - IntKind.u64.wrap (n * x)))
def mik (n : Int) : Nat → Int
  | 0 => n
  | k + 1 => nx n (mik n k)
/-- What minusInverse answers. -/
def mi (n : Int) : Int := IntKind.u64.wrap (-(mik n 5))
theorem wrap_u (x : Int) : IntKind.u64.wrap x = x % 18446744073709551616 := by
  simp [IntKind.wrap, IntKind.signed, IntKind.bits]
theorem nx_step (n x c D : Int) (h : c ∣ 1 - n * x) (h1 : D ∣ c * c) (h2 : D ∣ 18446744073709551616) : D ∣ 1 - n * nx n x := by
  unfold nx
  rw [wrap_u, wrap_u, wrap_u]
  obtain ⟨p, hp⟩ := h
  obtain ⟨q, hq⟩ := h1
  obtain ⟨r, hr⟩ := h2
  have e1 := Int.mul_ediv_add_emod (n * x) 18446744073709551616
  have e2 := Int.mul_ediv_add_emod (2 - n * x % 18446744073709551616) 18446744073709551616
  have e3 := Int.mul_ediv_add_emod (x * ((2 - n * x % 18446744073709551616) % 18446744073709551616)) 18446744073709551616
  generalize x * ((2 - n * x % 18446744073709551616) % 18446744073709551616) / 18446744073709551616 = t3 at *
  generalize x * ((2 - n * x % 18446744073709551616) % 18446744073709551616) % 18446744073709551616 = y at *
  generalize (2 - n * x % 18446744073709551616) / 18446744073709551616 = t2 at *
  generalize (2 - n * x % 18446744073709551616) % 18446744073709551616 = z at *
  generalize n * x / 18446744073709551616 = t1 at *
  generalize n * x % 18446744073709551616 = s at *
  -- y = x z - R t3, z = 2 - s - R t2, s = n x - R t1
  refine ⟨q * p * p + n * r * t3 + n * x * r * t2 - n * x * r * t1, ?_⟩
  have hy : y = x * z - 18446744073709551616 * t3 := by omega
  have hz : z = 2 - s - 18446744073709551616 * t2 := by omega
  have hs : s = n * x - 18446744073709551616 * t1 := by omega
  have hpp : (1 - n * x) * (1 - n * x) = D * (q * p * p) := by rw [hp]; grind
  rw [hy, hz, hs]
  grind
theorem mi_spec (n : Int) (h : n % 2 = 1) : 18446744073709551616 ∣ mi n * n + 1 := by
  have h0 : (8 : Int) ∣ 1 - n * mik n 0 := by
    show (8 : Int) ∣ 1 - n * n
    obtain ⟨q, hq⟩ : ∃ q, n = 2 * q + 1 := ⟨n / 2, by omega⟩
    obtain ⟨r, hr⟩ : ∃ r, q * (q + 1) = 2 * r := by
      rcases Int.emod_two_eq q with h | h
      · exact ⟨q / 2 * (q + 1), by have := Int.mul_ediv_add_emod q 2; generalize q / 2 = s at *; have : q = 2 * s := by omega
                                   subst this; grind⟩
      · exact ⟨q * ((q + 1) / 2), by have := Int.mul_ediv_add_emod (q + 1) 2; have e : (q + 1) % 2 = 0 := by omega
                                     generalize (q + 1) / 2 = s at *; have : q + 1 = 2 * s := by omega
                                     rw [this]; grind⟩
    exact ⟨-r, by subst hq; grind⟩
  have h1 := nx_step n (mik n 0) 8 64 h0 (by decide) (by decide)
  have h2 := nx_step n (mik n 1) 64 4096 h1 (by decide) (by decide)
  have h3 := nx_step n (mik n 2) 4096 16777216 h2 (by decide) (by decide)
  have h4 := nx_step n (mik n 3) 16777216 281474976710656 h3 (by decide) (by decide)
  have h5 := nx_step n (mik n 4) 281474976710656 18446744073709551616 h4 (by decide) (by decide)
  have h6 : (18446744073709551616 : Int) ∣ 1 - n * mik n 5 := h5
  unfold mi
  rw [wrap_u]
  obtain ⟨p, hp⟩ := h6
  have e := Int.mul_ediv_add_emod (-(mik n 5)) 18446744073709551616
  generalize -(mik n 5) / 18446744073709551616 = t at *
  generalize -(mik n 5) % 18446744073709551616 = s at *
  generalize mik n 5 = y at *
  refine ⟨p - t * n, ?_⟩
  have hs : s = -y - 18446744073709551616 * t := by omega
  rw [hs]; grind
theorem W_mi (n : Int) : W64 (mi n) := by unfold mi; rw [wrap_u]; exact ⟨Int.emod_nonneg _ (by decide), Int.emod_lt_of_pos _ (by decide)⟩
theorem ret_u {a b : Int} (h : a = b) : Ending.returned (.int .u64 a) = .returned (.int .u64 b) := by rw [h]
set_option maxRecDepth 100000 in
set_option maxHeartbeats 4000000 in
theorem minv (n : Int) (w : World) (hn : W64 n) : Calls Try.prog 104 #[.int .u64 n] w fun e w' => e = .returned (.int .u64 (mi n)) ∧ w' = w := by
  obtain ⟨n1, n2⟩ := hn
  go_enter Try.func104, Try.ntmps104
  go_wp2
  go_loop [3, 5] (fun x i => ∃ k : Nat, k ≤ 5 ∧ i = .int .i64 k ∧ x = .int .u64 (mik n k)) (fun _ i => 5 - (intOf i).toNat)
  case atStart => exact ⟨0, by omega, rfl, rfl⟩
  case round =>
    obtain ⟨k, hk, rfl, rfl⟩ := hrel
    by_cases hlt : k < 5
    · have hlt' : (k : Int) < 5 := by omega
      go_wp2
      go_round
      case rel => exact ⟨k + 1, by omega, by go_num, rfl⟩
      case measure => simp [intOf]; omega
    · have hlt' : ¬ (k : Int) < 5 := by omega
      have h5 : k = 5 := by omega
      subst h5
      go_wp2
      go_ret
      exact ⟨rfl, rfl⟩
end Go.Proofs.Ytkpnjmfndgfogaa
/- Products modulo an odd number: plain numbers. -/
namespace Go.Proofs.Ytkpnjmfndgfogaa
set_option linter.unusedVariables false
/-- A digit. -/
def dgt (b : Int) (k : Nat) : Int := b / 18446744073709551616 ^ k % 18446744073709551616
theorem LN_at (b : Int) : ∀ k : Nat, k < 4 → (LN b)[k]? = some (.int .u64 (dgt b k))
  | 0, _ => by simp [dgt, D0]
  | 1, _ => by simp [dgt, D1]
  | 2, _ => by simp [dgt, D2]
  | 3, _ => by simp [dgt, D3]
theorem W_dgt (b : Int) (k : Nat) : W64 (dgt b k) := by unfold dgt W64; omega
theorem emod_mul' (b x y : Int) (hx : 0 < x) (hy : 0 < y) : b % (x * y) = b % x + x * (b / x % y) := by
  have e1 := Int.mul_ediv_add_emod b x
  have e2 := Int.mul_ediv_add_emod (b / x) y
  have h1 := Int.emod_nonneg b (show x ≠ 0 by omega)
  have h2 := Int.emod_lt_of_pos b hx
  have h3 := Int.emod_nonneg (b / x) (show y ≠ 0 by omega)
  have h4 := Int.emod_lt_of_pos (b / x) hy
  generalize b / x % y = s at *
  generalize b / x / y = t at *
  generalize b / x = q at *
  generalize b % x = r at *
  have hb : b = r + x * s + x * y * t := by rw [← e1, ← e2]; grind
  rw [hb, Int.add_mul_emod_self_left]
  have h5 : 0 ≤ x * s := Int.mul_nonneg (by omega) h3
  have h6 : x * s ≤ x * (y - 1) := Int.mul_le_mul_of_nonneg_left (by omega) (by omega)
  have h7 : x * (y - 1) = x * y - x := by grind
  exact Int.emod_eq_of_lt (by omega) (by omega)
theorem low_succ (b : Int) (k : Nat) : b % 18446744073709551616 ^ (k + 1) = b % 18446744073709551616 ^ k + 18446744073709551616 ^ k * dgt b k := by
  rw [Int.pow_succ, emod_mul' _ _ _ (Int.pow_pos (by decide)) (by decide)]; rfl
/-- One round. -/
def mK (S a β cl : Int) : Int := D0 ((S + a * β) % 2135987035920910082395021706169552114602704522356652769947041607822219725780640550022962086936576) * cl % 18446744073709551616
def mS (S a β m cl : Int) : Int := (S + a * β + m * mK S a β cl) / 18446744073709551616
theorem mK_W (S a β cl : Int) : W64 (mK S a β cl) := by unfold mK W64; omega
theorem mul_bd {x y X Y : Int} (hx : 0 ≤ x) (hX : x ≤ X) (hy : 0 ≤ y) (hY : y ≤ Y) : 0 ≤ x * y ∧ x * y ≤ X * Y :=
  ⟨Int.mul_nonneg hx hy, Int.mul_le_mul hX hY hy (by omega)⟩
theorem mS_spec (S a β m cl : Int) (hS0 : 0 ≤ S) (hS : S < 2 * m) (ha0 : 0 ≤ a) (ha : a < m) (hβ : W64 β) (hm : m < 115792089237316195423570985008687907853269984665640564039457584007913129639936) (hc : 18446744073709551616 ∣ cl * D0 m + 1) :
    18446744073709551616 * mS S a β m cl = S + a * β + m * mK S a β cl ∧ 0 ≤ mS S a β m cl ∧ mS S a β m cl < 2 * m ∧
    [Value.int .u64 (D1 (((S + a * β) % 2135987035920910082395021706169552114602704522356652769947041607822219725780640550022962086936576 + m * mK S a β cl) % 2135987035920910082395021706169552114602704522356652769947041607822219725780640550022962086936576)), .int .u64 (D2 (((S + a * β) % 2135987035920910082395021706169552114602704522356652769947041607822219725780640550022962086936576 + m * mK S a β cl) % 2135987035920910082395021706169552114602704522356652769947041607822219725780640550022962086936576)), .int .u64 (D3 (((S + a * β) % 2135987035920910082395021706169552114602704522356652769947041607822219725780640550022962086936576 + m * mK S a β cl) % 2135987035920910082395021706169552114602704522356652769947041607822219725780640550022962086936576)), .int .u64 (D4 (((S + a * β) % 2135987035920910082395021706169552114602704522356652769947041607822219725780640550022962086936576 + m * mK S a β cl) % 2135987035920910082395021706169552114602704522356652769947041607822219725780640550022962086936576)), .int .u64 (((S + a * β) / 2135987035920910082395021706169552114602704522356652769947041607822219725780640550022962086936576 + ((S + a * β) % 2135987035920910082395021706169552114602704522356652769947041607822219725780640550022962086936576 + m * mK S a β cl) / 2135987035920910082395021706169552114602704522356652769947041607822219725780640550022962086936576) % 18446744073709551616)] =
      [Value.int .u64 (D0 (mS S a β m cl)), .int .u64 (D1 (mS S a β m cl)), .int .u64 (D2 (mS S a β m cl)), .int .u64 (D3 (mS S a β m cl)), .int .u64 (D4 (mS S a β m cl))] := by
  have kW := mK_W S a β cl
  have b1 := mul_bd (x := a) (y := β) (X := m - 1) (Y := 18446744073709551615) ha0 (by omega) hβ.1 (by have := hβ.2; omega)
  have b2 := mul_bd (x := m) (y := mK S a β cl) (X := m) (Y := 18446744073709551615) (by omega) (Int.le_refl _) kW.1 (by have := kW.2; omega)
  have hdv : 18446744073709551616 ∣ S + a * β + m * mK S a β cl := by
    obtain ⟨p, hp⟩ := hc
    have e1 : D0 ((S + a * β) % 2135987035920910082395021706169552114602704522356652769947041607822219725780640550022962086936576) = (S + a * β) % 18446744073709551616 := by unfold D0; omega
    have e2 := Int.mul_ediv_add_emod (S + a * β) 18446744073709551616
    have e3 := Int.mul_ediv_add_emod (D0 ((S + a * β) % 2135987035920910082395021706169552114602704522356652769947041607822219725780640550022962086936576) * cl) 18446744073709551616
    have e4 : m = 18446744073709551616 * (m / 18446744073709551616) + D0 m := by unfold D0; omega
    have e5 : mK S a β cl = D0 ((S + a * β) % 2135987035920910082395021706169552114602704522356652769947041607822219725780640550022962086936576) * cl % 18446744073709551616 := rfl
    rw [← e5] at e3
    rw [e1] at e3
    generalize mK S a β cl = κ at *
    generalize (S + a * β) % 18446744073709551616 = t at *
    generalize (S + a * β) / 18446744073709551616 = q at *
    generalize t * cl / 18446744073709551616 = r at *
    generalize m / 18446744073709551616 = m1 at *
    generalize D0 m = m0 at *
    refine ⟨q + p * t - r * m0 + m1 * κ, ?_⟩
    have h1 : κ = t * cl - 18446744073709551616 * r := by omega
    rw [← e2, e4, h1]
    grind
  have hdv' : 18446744073709551616 * mS S a β m cl = S + a * β + m * mK S a β cl := by
    unfold mS; exact Int.mul_ediv_cancel' hdv
  refine ⟨hdv', ?_⟩
  have hb1 : (m - 1) * 18446744073709551615 = m * 18446744073709551615 - 18446744073709551615 := by omega
  generalize mS S a β m cl = S' at *
  generalize mK S a β cl = κ at *
  generalize a * β = p at *
  generalize m * κ = q at *
  clear hdv
  refine ⟨by omega, by omega, ?_⟩
  have hE : ((S + p) % 2135987035920910082395021706169552114602704522356652769947041607822219725780640550022962086936576 + q) % 2135987035920910082395021706169552114602704522356652769947041607822219725780640550022962086936576 = (S + p + q) % 2135987035920910082395021706169552114602704522356652769947041607822219725780640550022962086936576 := by omega
  have hF : ((S + p) / 2135987035920910082395021706169552114602704522356652769947041607822219725780640550022962086936576 + ((S + p) % 2135987035920910082395021706169552114602704522356652769947041607822219725780640550022962086936576 + q) / 2135987035920910082395021706169552114602704522356652769947041607822219725780640550022962086936576) % 18446744073709551616 = (S + p + q) / 2135987035920910082395021706169552114602704522356652769947041607822219725780640550022962086936576 := by omega
  rw [hE, hF, ← hdv']
  have d1 : D1 (18446744073709551616 * S' % 2135987035920910082395021706169552114602704522356652769947041607822219725780640550022962086936576) = D0 S' := by unfold D0 D1; omega
  have d2 : D2 (18446744073709551616 * S' % 2135987035920910082395021706169552114602704522356652769947041607822219725780640550022962086936576) = D1 S' := by unfold D1 D2; omega
  have d3 : D3 (18446744073709551616 * S' % 2135987035920910082395021706169552114602704522356652769947041607822219725780640550022962086936576) = D2 S' := by unfold D2 D3; omega
  have d4 : D4 (18446744073709551616 * S' % 2135987035920910082395021706169552114602704522356652769947041607822219725780640550022962086936576) = D3 S' := by unfold D3 D4; omega
  have d5 : 18446744073709551616 * S' / 2135987035920910082395021706169552114602704522356652769947041607822219725780640550022962086936576 = D4 S' := by unfold D4; omega
  rw [d1, d2, d3, d4, d5]
theorem mS_next (S a b m cl : Int) (k : Nat) (hr : 18446744073709551616 * mS S a (dgt b k) m cl = S + a * dgt b k + m * mK S a (dgt b k) cl) (hd : m ∣ 18446744073709551616 ^ k * S - a * (b % 18446744073709551616 ^ k)) :
    m ∣ 18446744073709551616 ^ (k + 1) * mS S a (dgt b k) m cl - a * (b % 18446744073709551616 ^ (k + 1)) := by
  rw [low_succ, Int.pow_succ, Int.mul_assoc, hr]
  obtain ⟨p, hp⟩ := hd
  refine ⟨p + 18446744073709551616 ^ k * mK S a (dgt b k) cl, ?_⟩
  generalize (18446744073709551616 : Int) ^ k = r at *
  generalize dgt b k = d at *
  generalize mK S a d cl = κ at *
  generalize b % r = l at *
  grind
/-- The product that has lost a factor. -/
def IsMg (a b m x : Int) : Prop := 0 ≤ x ∧ x < m ∧ m ∣ 115792089237316195423570985008687907853269984665640564039457584007913129639936 * x - a * b
theorem odd_coprime (m y : Int) (h : m % 2 = 1) (k : Nat) (hd : m ∣ 2 ^ k * y) : m ∣ y := by
  induction k with
  | zero => simpa using hd
  | succ k ih =>
    apply ih
    obtain ⟨q, hq⟩ := hd
    have hq2 : q % 2 = 0 := by
      have : (2 : Int) ∣ m * q := ⟨2 ^ k * y, by rw [← hq, Int.pow_succ]; grind⟩
      have h2 := Int.emod_eq_zero_of_dvd this
      rw [Int.mul_emod, h] at h2
      omega
    obtain ⟨r, hr⟩ : ∃ r, q = 2 * r := ⟨q / 2, by omega⟩
    refine ⟨r, ?_⟩
    rw [hr, Int.pow_succ] at hq
    have : 2 * (2 ^ k * y) = 2 * (m * r) := by grind
    omega
theorem IsMg.uniq {a b m x y : Int} (ho : m % 2 = 1) (hx : IsMg a b m x) (hy : IsMg a b m y) : x = y := by
  obtain ⟨p, hp⟩ := hx.2.2
  obtain ⟨q, hq⟩ := hy.2.2
  have e : (2 : Int) ^ 256 = 115792089237316195423570985008687907853269984665640564039457584007913129639936 := by decide
  have h1 : m ∣ 2 ^ 256 * (x - y) := ⟨p - q, by rw [e]; grind⟩
  have h2 := odd_coprime m (x - y) ho 256 h1
  obtain ⟨k, hk⟩ := h2
  have a1 := hx.1; have a2 := hx.2.1; have a3 := hy.1; have a4 := hy.2.1
  have : k = 0 := by
    by_cases hk0 : k = 0
    · exact hk0
    · exfalso
      rcases Int.lt_or_gt_of_ne hk0 with h | h
      · have := Int.mul_le_mul_of_nonneg_left (show k ≤ -1 by omega) (show 0 ≤ m by omega); omega
      · have := Int.mul_le_mul_of_nonneg_left (show 1 ≤ k by omega) (show 0 ≤ m by omega); omega
  subst this; omega
theorem mg_lt {a b m S : Int} (h0 : 0 ≤ S) (h1 : S < m) (hd : m ∣ 18446744073709551616 ^ 4 * S - a * (b % 18446744073709551616 ^ 4)) (hb : 0 ≤ b ∧ b < 115792089237316195423570985008687907853269984665640564039457584007913129639936) : IsMg a b m S := by
  have e : (18446744073709551616 : Int) ^ 4 = 115792089237316195423570985008687907853269984665640564039457584007913129639936 := by decide
  rw [e, Int.emod_eq_of_lt hb.1 hb.2] at hd
  exact ⟨h0, h1, hd⟩
theorem mg_ge {a b m S : Int} (h0 : m ≤ S) (h1 : S < 2 * m) (hd : m ∣ 18446744073709551616 ^ 4 * S - a * (b % 18446744073709551616 ^ 4)) (hb : 0 ≤ b ∧ b < 115792089237316195423570985008687907853269984665640564039457584007913129639936) : IsMg a b m (S - m) := by
  have e : (18446744073709551616 : Int) ^ 4 = 115792089237316195423570985008687907853269984665640564039457584007913129639936 := by decide
  rw [e, Int.emod_eq_of_lt hb.1 hb.2] at hd
  obtain ⟨p, hp⟩ := hd
  exact ⟨by omega, by omega, ⟨p - 115792089237316195423570985008687907853269984665640564039457584007913129639936, by grind⟩⟩
end Go.Proofs.Ytkpnjmfndgfogaa
