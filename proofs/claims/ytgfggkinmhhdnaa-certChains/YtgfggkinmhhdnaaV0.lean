/- Plain numbers: one step of a division by two halves. -/
import Derived.Test.YtgfggkinmhhdnaaP1
namespace Go.Proofs.Ytgfggkinmhhdnaa
set_option linter.unusedVariables false
/-- A digit of a quotient: what is divided is u times b and v, the divisor h times b and l. -/
def Qd (u v h l : Int) : Int := (u * 4294967296 + v) / (h * 4294967296 + l)
theorem qd_start (u v h l q r : Int) (hv : 0 ≤ v ∧ v < 4294967296) (hh : 2147483648 ≤ h ∧ h < 4294967296) (hl : 0 ≤ l ∧ l < 4294967296) (hu : 0 ≤ u ∧ u < h * 4294967296 + l)
    (e : u = q * h + r) (hr : 0 ≤ r ∧ r < h) : Qd u v h l ≤ q ∧ q ≤ 4294967297 ∧ 0 ≤ Qd u v h l ∧ Qd u v h l < 4294967296 := by
  have h0 : 0 < h * 4294967296 + l := by omega
  have hq : q ≤ 4294967297 := by
    by_cases c : 4294967298 ≤ q
    · have : 4294967298 * h ≤ q * h := Int.mul_le_mul_of_nonneg_right c (by omega)
      omega
    · omega
  refine ⟨?_, hq, Int.ediv_nonneg (by omega) (by omega), ?_⟩
  · -- Q h b ≤ Q y ≤ u b + v < (q h + h) b
    have h1 : Qd u v h l * (h * 4294967296 + l) ≤ u * 4294967296 + v := Int.ediv_mul_le _ (by omega)
    have h2 : 0 ≤ Qd u v h l := Int.ediv_nonneg (by omega) (by omega)
    generalize Qd u v h l = Q at *
    have h3 : Q * (h * 4294967296 + l) = Q * h * 4294967296 + Q * l := by rw [Int.mul_add, Int.mul_assoc]
    have h4 : 0 ≤ Q * l := Int.mul_nonneg h2 hl.1
    by_cases c : q + 1 ≤ Q
    · have h5 : (q + 1) * h ≤ Q * h := Int.mul_le_mul_of_nonneg_right c (by omega)
      rw [Int.add_mul] at h5
      omega
    · omega
  · unfold Qd
    exact Int.ediv_lt_of_lt_mul h0 (by omega)
/-- What the digit's test says. -/
theorem qd_test (u v h l q r : Int) (hv : 0 ≤ v ∧ v < 4294967296) (hh : 2147483648 ≤ h ∧ h < 4294967296) (hl : 0 ≤ l ∧ l < 4294967296) (e : u = q * h + r) :
    (4294967296 * r + v < q * l → Qd u v h l < q) ∧ (q * l ≤ 4294967296 * r + v → q ≤ Qd u v h l) := by
  have h0 : 0 < h * 4294967296 + l := by omega
  have h3 : q * (h * 4294967296 + l) = q * h * 4294967296 + q * l := by rw [Int.mul_add, Int.mul_assoc]
  constructor
  · intro c
    unfold Qd
    exact Int.ediv_lt_of_lt_mul h0 (by omega)
  · intro c
    unfold Qd
    exact (Int.le_ediv_iff_mul_le h0).2 (by omega)
theorem qd_break (u v h l q r : Int) (hv : 0 ≤ v ∧ v < 4294967296) (hh : 2147483648 ≤ h ∧ h < 4294967296) (hl : 0 ≤ l ∧ l < 4294967296) (e : u = q * h + r) (hq : 0 ≤ q ∧ q ≤ 4294967296) (hr : 4294967296 ≤ r) : q ≤ Qd u v h l := by
  refine (qd_test u v h l q r hv hh hl e).2 ?_
  have : q * l ≤ 4294967296 * 4294967296 := Int.mul_le_mul hq.2 (by omega) hl.1 (by omega)
  omega
theorem qd_rest (u v h l : Int) (hv : 0 ≤ v ∧ v < 4294967296) (hh : 2147483648 ≤ h ∧ h < 4294967296) (hl : 0 ≤ l ∧ l < 4294967296) :
    0 ≤ u * 4294967296 + v - Qd u v h l * (h * 4294967296 + l) ∧ u * 4294967296 + v - Qd u v h l * (h * 4294967296 + l) < h * 4294967296 + l := by
  have h0 : 0 < h * 4294967296 + l := by omega
  have h1 : Qd u v h l * (h * 4294967296 + l) ≤ u * 4294967296 + v := Int.ediv_mul_le _ (by omega)
  have h2 := Int.lt_ediv_add_one_mul_self (u * 4294967296 + v) h0
  unfold Qd at *
  rw [Int.add_mul] at h2
  omega
/-- Two digits make the quotient. -/
theorem qd_two (u v1 v0 h l : Int) (hv1 : 0 ≤ v1 ∧ v1 < 4294967296) (hv0 : 0 ≤ v0 ∧ v0 < 4294967296) (hh : 2147483648 ≤ h ∧ h < 4294967296) (hl : 0 ≤ l ∧ l < 4294967296) (m : Int) (hm : m = u * 4294967296 + v1 - Qd u v1 h l * (h * 4294967296 + l)) :
    Qd u v1 h l * 4294967296 + Qd m v0 h l = (u * 18446744073709551616 + (v1 * 4294967296 + v0)) / (h * 4294967296 + l) := by
  have h0 : 0 < h * 4294967296 + l := by omega
  have e : u * 18446744073709551616 + (v1 * 4294967296 + v0) = (m * 4294967296 + v0) + (Qd u v1 h l * 4294967296) * (h * 4294967296 + l) := by
    rw [hm, Int.mul_right_comm (Qd u v1 h l)]; omega
  rw [e, Int.add_mul_ediv_right _ _ (by omega)]
  unfold Qd; omega
end Go.Proofs.Ytgfggkinmhhdnaa
