/- Walks: math/bits.Div64 at a divisor whose top bit is 1. -/
import Derived.Test.YtgfggkinmhhdnaaBB
import Derived.Shelf.Bits.Mul64
import Derived.Test.YtgfggkinmhhdnaaV0
import Derived.Deep.QuietTactic
import Derived.BigQuiet
import Derived.Deep.DeepCutAuto
import Derived.Deep.CutBlock
namespace Go.Proofs.Ytgfggkinmhhdnaa
open Go.RowKit
set_option linter.unusedSimpArgs false
set_option linter.unusedVariables false
set_option maxHeartbeats 1000000 in
theorem div64_0 (lo y : Int) (w : World) (hl : W64 lo) (hy : W64 y) (h2 : 9223372036854775808 ≤ y) :
    Calls Try.prog 88 #[.int .u64 0, .int .u64 lo, .int .u64 y] w fun e w' => (∃ r, e = .returned (.tuple #[.int .u64 (lo / y), .int .u64 r])) ∧ Below w.heap.size w w' := by
  obtain ⟨l1, l2⟩ := hl; obtain ⟨y1, y2⟩ := hy
  have hy0 : (y == 0) = false := by simp; omega
  go_enter Try.func88, Try.ntmps88
  go_wp2
  go_quiet (fail)
  go_wp2
  go_ret2
  exact ⟨⟨_, rfl⟩, below_drewN (Below.refl _ _) _⟩
theorem and32 (x : Int) (h : W64 x) : bits .and .u64 x 4294967295 = x % 4294967296 := by
  obtain ⟨h1, h2⟩ := h
  obtain ⟨x, rfl⟩ := Int.eq_ofNat_of_zero_le h1
  rw [Mul64.maskN x (by omega)]; omega
theorem or0 (x : Int) (h : W64 x) : bits .or .u64 x 0 = x := by
  obtain ⟨h1, h2⟩ := h
  obtain ⟨x, rfl⟩ := Int.eq_ofNat_of_zero_le h1
  have := bits_or_u64_nat x 0 (by omega) (by omega)
  simpa using this
theorem ret2w {a a' b : Int} (h : a = a') : Ending.returned (.tuple #[.int .u64 a, .int .u64 b]) = Ending.returned (.tuple #[.int .u64 a', .int .u64 b]) := by rw [h]
theorem qd_step {u q h r : Int} (e : u = q * h + r) : Hid (u = (q - 1) * h + (r + h)) := by
  show u = _
  rw [Int.sub_mul]; omega
set_option maxHeartbeats 4000000 in
theorem div64_1 (hi lo y : Int) (w : World) (hh : W64 hi) (hl : W64 lo) (hy : W64 y) (h2 : 9223372036854775808 ≤ y) (h3 : hi < y) (h4 : 0 < hi) :
    Calls Try.prog 88 #[.int .u64 hi, .int .u64 lo, .int .u64 y] w fun e w' => (∃ r, e = .returned (.tuple #[.int .u64 ((hi * 18446744073709551616 + lo) / y), .int .u64 r])) ∧ Below w.heap.size w w' := by
  have hbl := bl_top y hy h2
  have hy' := hy
  have ay := and32 y hy
  have al := and32 lo hl
  have ho : bits .or .u64 hi (lo / 18446744073709551616) = hi := by rw [show lo / 18446744073709551616 = 0 from by have := hl.1; have := hl.2; omega]; exact or0 hi hh
  obtain ⟨i1, i2⟩ := hh; obtain ⟨l1, l2⟩ := hl; obtain ⟨y1, y2⟩ := hy
  have hy0 : (y == 0) = false := by simp; omega
  have hi0 : (hi == 0) = false := by simp; omega
  have hn : ¬ y ≤ hi := by omega
  obtain ⟨yh, eyh⟩ : ∃ yh, y / 4294967296 = yh := ⟨_, rfl⟩
  obtain ⟨yl, eyl⟩ : ∃ yl, y % 4294967296 = yl := ⟨_, rfl⟩
  obtain ⟨lh, elh⟩ : ∃ lh, lo / 4294967296 = lh := ⟨_, rfl⟩
  obtain ⟨ll, ell⟩ : ∃ ll, lo % 4294967296 = ll := ⟨_, rfl⟩
  have hyh : 2147483648 ≤ yh ∧ yh < 4294967296 := by omega
  have hyl : 0 ≤ yl ∧ yl < 4294967296 := by omega
  have hlh : 0 ≤ lh ∧ lh < 4294967296 := by omega
  have hll : 0 ≤ ll ∧ ll < 4294967296 := by omega
  have ey : Hid (y = yh * 4294967296 + yl) := by show y = _; omega
  have el : Hid (lo = lh * 4294967296 + ll) := by show lo = _; omega
  rw [eyl] at ay
  rw [ell] at al
  obtain ⟨q, eq⟩ : ∃ q, hi / yh = q := ⟨_, rfl⟩
  obtain ⟨r, er⟩ : ∃ r, hi - q * yh = r := ⟨_, rfl⟩
  have hqr : 0 ≤ r ∧ r < yh := by
    have a1 := Int.emod_nonneg hi (show yh ≠ 0 by omega)
    have a2 := Int.emod_lt_of_pos hi (show 0 < yh by omega)
    have a3 := Int.mul_ediv_add_emod hi yh
    rw [eq, Int.mul_comm] at a3
    omega
  have e1 : hi = q * yh + r := by omega
  have st := qd_start hi lh yh yl q r hlh hyh hyl ⟨i1, by rw [← ey.out]; exact h3⟩ e1 hqr
  have hq0 : 0 ≤ q := by omega
  have ert : hi.tdiv yh = q := by rw [Int.tdiv_eq_ediv_of_nonneg i1]; exact eq
  have ewr : IntKind.u64.wrap (hi - IntKind.u64.wrap (q * yh)) = r := by
    rw [IntKind.wrap_u64, IntKind.wrap_u64]; omega
  have ewr2 : IntKind.u64.wrap (hi - q * yh) = r := by
    rw [IntKind.wrap_u64]; omega
  have E1 : Hid (hi = q * yh + r) := e1
  clear eyl ell er e1
  go_enter Try.func88, Try.ntmps88
  go_wp2_with fail
  refine (lead64_any y _ hy').mono ?_
  rintro e w' ⟨rfl, rfl⟩
  rw [hbl]
  clear hbl
  go_upto_block 0 with fail
  clear ewr ewr2 ert eq
  go_cut [15, 16] (fun s15 s16 wx => s15 = .int .u64 (Qd hi lh yh yl) ∧ (∃ r, s16 = .int .u64 r) ∧ w' = wx)
  case first =>
    go_wp2_with fail
    go_loop [15, 16] (fun s15 s16 => ∃ q r, s15 = .int .u64 q ∧ s16 = .int .u64 r ∧ Hid (hi = q * yh + r) ∧ 0 ≤ r ∧ r < 4294967296 ∧ Qd hi lh yh yl ≤ q ∧ q ≤ 4294967297) (fun s15 _ => (intOf s15 - Qd hi lh yh yl).toNat)
    case atStart => exact ⟨q, r, rfl, rfl, E1, hqr.1, by omega, st.1, st.2.1⟩
    case round =>
      obtain ⟨q', r', rfl, rfl, E2, r1, r2, k1, k2⟩ := hrel
      have t1 := qd_test hi lh yh yl q' r' hlh hyh hyl E2.out
      have hp0 : 0 ≤ q' * yl := Int.mul_nonneg (by omega) hyl.1
      have hp1 : q' * yl ≤ 4294967297 * 4294967295 := Int.mul_le_mul k2 (by omega) hyl.1 (by omega)
      clear E1 hqr
      have kst := st.2.2.2
      go_wp2
      all_goals first
        | (go_meet; case rel => exact ⟨congrArg (Value.int IntKind.u64) (by have k5 := qd_break hi lh yh yl (q' - 1) (r' + yh) hlh hyh hyl (qd_step E2.out) ⟨by omega, by omega⟩ (by omega); omega), ⟨_, rfl⟩, rfl⟩)
        | (go_meet; case rel => exact ⟨congrArg (Value.int IntKind.u64) (by omega), ⟨_, rfl⟩, rfl⟩)
        | exact ⟨⟨q' - 1, r' + yh, rfl, rfl, qd_step E2.out, by omega, by omega, by omega, by omega⟩, by simp [intOf]; omega⟩
  case rest =>
    obtain ⟨rfl, ⟨r0, rfl⟩, rfl⟩ := hcut
    clear E1 hqr hq0
    have c1 := st.2.2.1
    have c2 := st.2.2.2
    clear st
    have hrs := qd_rest hi lh yh yl hlh hyh hyl
    rw [← ey.out] at hrs
    obtain ⟨m, em⟩ : ∃ m, hi * 4294967296 + lh - Qd hi lh yh yl * y = m := ⟨_, rfl⟩
    rw [em] at hrs
    have EM : Hid (m = hi * 4294967296 + lh - Qd hi lh yh yl * (yh * 4294967296 + yl)) := by show m = _; rw [← ey.out]; exact em.symm
    have hm : IntKind.u64.wrap (IntKind.u64.wrap (IntKind.u64.wrap (hi * 4294967296) + lh) - IntKind.u64.wrap (Qd hi lh yh yl * y)) = m := by
      simp only [IntKind.wrap_u64]; omega
    clear em
    obtain ⟨q2, eq2⟩ : ∃ q2, m / yh = q2 := ⟨_, rfl⟩
    obtain ⟨r2, er2⟩ : ∃ r2, m - q2 * yh = r2 := ⟨_, rfl⟩
    have hqr2 : 0 ≤ r2 ∧ r2 < yh := by
      have a1 := Int.emod_nonneg m (show yh ≠ 0 by omega)
      have a2 := Int.emod_lt_of_pos m (show 0 < yh by omega)
      have a3 := Int.mul_ediv_add_emod m yh
      rw [eq2, Int.mul_comm] at a3
      omega
    have e2 : m = q2 * yh + r2 := by omega
    have st2 := qd_start m ll yh yl q2 r2 hll hyh hyl ⟨hrs.1, by rw [← ey.out]; exact hrs.2⟩ e2 hqr2
    have hq20 : 0 ≤ q2 := by omega
    have hq21 : IntKind.u64.wrap q2 = q2 := by rw [IntKind.wrap_u64]; omega
    have ert2 : m.tdiv yh = q2 := by rw [Int.tdiv_eq_ediv_of_nonneg hrs.1]; exact eq2
    have ewr : IntKind.u64.wrap (m - IntKind.u64.wrap (q2 * yh)) = r2 := by
      rw [IntKind.wrap_u64, IntKind.wrap_u64]; omega
    have E1 : Hid (m = q2 * yh + r2) := e2
    clear er2 e2 eq2
    go_upto_block 2 with fail
    clear ewr ert2 hm
    go_cut [18, 16] (fun s15 s16 wx => s15 = .int .u64 (Qd m ll yh yl) ∧ (∃ r, s16 = .int .u64 r) ∧ w' = wx)
    case first =>
      go_wp2_with fail
      go_loop [18, 16] (fun s15 s16 => ∃ q r, s15 = .int .u64 q ∧ s16 = .int .u64 r ∧ Hid (m = q * yh + r) ∧ 0 ≤ r ∧ r < 4294967296 ∧ Qd m ll yh yl ≤ q ∧ q ≤ 4294967297) (fun s15 _ => (intOf s15 - Qd m ll yh yl).toNat)
      case atStart => exact ⟨q2, r2, rfl, rfl, E1, hqr2.1, by omega, st2.1, st2.2.1⟩
      case round =>
        obtain ⟨q', r', rfl, rfl, E2, r1, r2', k1, k2⟩ := hrel
        have t1 := qd_test m ll yh yl q' r' hll hyh hyl E2.out
        have hp0 : 0 ≤ q' * yl := Int.mul_nonneg (by omega) hyl.1
        have hp1 : q' * yl ≤ 4294967297 * 4294967295 := Int.mul_le_mul k2 (by omega) hyl.1 (by omega)
        clear E1 hqr2
        have kst := st2.2.2.2
        have kst0 := st2.2.2.1
        go_wp2
        all_goals first
          | (go_meet; case rel => exact ⟨congrArg (Value.int IntKind.u64) (by have k5 := qd_break m ll yh yl (q' - 1) (r' + yh) hll hyh hyl (qd_step E2.out) ⟨by omega, by omega⟩ (by omega); omega), ⟨_, rfl⟩, rfl⟩)
          | (go_meet; case rel => exact ⟨congrArg (Value.int IntKind.u64) (by omega), ⟨_, rfl⟩, rfl⟩)
          | exact ⟨⟨q' - 1, r' + yh, rfl, rfl, qd_step E2.out, by omega, by omega, by omega, by omega⟩, by simp [intOf]; omega⟩
    case rest =>
      obtain ⟨rfl, ⟨r3, rfl⟩, rfl⟩ := hcut
      have d1 := st2.2.2.1
      have d2 := st2.2.2.2
      clear st2 E1 hqr2
      have HF : Hid (Qd hi lh yh yl * 4294967296 + Qd m ll yh yl = (hi * 18446744073709551616 + lo) / y) := by
        show _ = _
        rw [qd_two hi lh ll yh yl hlh hll hyh hyl m EM.out, ← ey.out, ← el.out]
      go_wp2
      go_ret2
      exact ⟨⟨_, ret2w HF.out⟩, Below.refl _ _⟩
theorem div64_any (hi lo y : Int) (w : World) (hh : W64 hi) (hl : W64 lo) (hy : W64 y) (h2 : 9223372036854775808 ≤ y) (h3 : hi < y) :
    Calls Try.prog 88 #[.int .u64 hi, .int .u64 lo, .int .u64 y] w fun e w' => (∃ r, e = .returned (.tuple #[.int .u64 ((hi * 18446744073709551616 + lo) / y), .int .u64 r])) ∧ Below w.heap.size w w' := by
  by_cases h : 0 < hi
  · exact div64_1 hi lo y w hh hl hy h2 h3 h
  · have h0 : hi = 0 := by have := hh.1; omega
    subst h0
    have := div64_0 lo y w hl hy h2
    simpa using this
end Go.Proofs.Ytgfggkinmhhdnaa
