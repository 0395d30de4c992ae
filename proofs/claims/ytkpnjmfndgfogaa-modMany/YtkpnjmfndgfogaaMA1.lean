/- Numbers modulo one: Reduce, Add. -/
import Derived.Test.YtkpnjmfndgfogaaN1
namespace Go.Proofs.Ytkpnjmfndgfogaa
open Go.RowKit
set_option linter.unusedSimpArgs false
set_option linter.unusedVariables false
theorem nAdd_lt (a b : Int) (w : World) (ha : In a) (hb : In b) (h : a + b < 115792089237316195423570985008687907853269984665640564039457584007913129639936) : Calls Try.prog 83 #[NV a, NV b] w fun e w' => e = .returned (.tuple #[NV (a + b), .bool false]) ∧ Below w.heap.size w w' := by
  have e : ovB a b = false := by unfold ovB; simp; omega
  have k := nAdd a b w ha hb
  rw [e] at k; exact k
theorem NV_less (s : Int) : NV (s - 115792089237316195423570985008687907853269984665640564039457584007913129639936) = NV s := by
  have e0 : D0 (s - 115792089237316195423570985008687907853269984665640564039457584007913129639936) = D0 s := by unfold D0; omega
  have e1 : D1 (s - 115792089237316195423570985008687907853269984665640564039457584007913129639936) = D1 s := by unfold D1; omega
  have e2 : D2 (s - 115792089237316195423570985008687907853269984665640564039457584007913129639936) = D2 s := by unfold D2; omega
  have e3 : D3 (s - 115792089237316195423570985008687907853269984665640564039457584007913129639936) = D3 s := by unfold D3; omega
  rw [NV, e0, e1, e2, e3]
theorem nAdd_ge (a b : Int) (w : World) (ha : In a) (hb : In b) (h : 115792089237316195423570985008687907853269984665640564039457584007913129639936 ≤ a + b) : Calls Try.prog 83 #[NV a, NV b] w fun e w' => e = .returned (.tuple #[NV (a + b - 115792089237316195423570985008687907853269984665640564039457584007913129639936), .bool true]) ∧ Below w.heap.size w w' := by
  have e : ovB a b = true := by unfold ovB; simp; omega
  have k := nAdd a b w ha hb
  rw [e] at k; rw [NV_less]; exact k
theorem nDivide0 (n : Int) (w : World) : Calls Try.prog 82 #[WV n, A4 0 0 0 0] w fun e w' => e = .returned (.tuple #[A8 0 0 0 0 0 0 0 0, A4 0 0 0 0, .int .i64 10]) ∧ Below w.heap.size w w' := Divide_0 _ _ _ _ _ _ _ _ w
set_option maxHeartbeats 400000 in
theorem mReduce (n m : Int) (w : World) (hn : InW n) (hm : In m) (h : m ≠ 0) :
    Calls Try.prog 56 #[WV n, NV m] w fun e w' => e = .returned (.tuple #[NV (n % m), .int .i64 0]) ∧ Below w.heap.size w w' := by
  go_enter Try.func56, Try.ntmps56
  go_wp2_with fail
  refine (nDivide n m _ hn hm h).mono ?_
  rintro e w1 ⟨rfl, hB⟩
  obtain ⟨hcell, hfroz, hsize⟩ := bcell hB
  simp only [World.size_alloc] at hsize hcell hfroz
  have z0 : w.heap.size < w1.heap.size := by omega
  have z1 : w.heap.size + 1 < w1.heap.size := by omega
  have z2 : w.heap.size + 1 + 1 < w1.heap.size := by omega
  have hB' : Below w.heap.size w w1 := Below.trans (by go_grown) (hB.mono (by simp; omega))
  clear hn hm h hB
  go_wp2
  refine bodyPost_ret (v := .tuple #[NV (n % m), .int .i64 0]) (by simp [results, Try.results56, go_sem, hcell, z0, z1, z2]) rfl ⟨rfl, ?_⟩
  go_grown
set_option maxHeartbeats 400000 in
theorem mReduce0 (n : Int) (w : World) :
    Calls Try.prog 56 #[WV n, A4 0 0 0 0] w fun e w' => e = .returned (.tuple #[A4 0 0 0 0, .int .i64 20]) ∧ Below w.heap.size w w' := by
  go_enter Try.func56, Try.ntmps56
  go_wp2_with fail
  refine (nDivide0 n _).mono ?_
  rintro e w1 ⟨rfl, hB⟩
  obtain ⟨hcell, hfroz, hsize⟩ := bcell hB
  simp only [World.size_alloc] at hsize hcell hfroz
  have z0 : w.heap.size < w1.heap.size := by omega
  have z1 : w.heap.size + 1 < w1.heap.size := by omega
  have z2 : w.heap.size + 1 + 1 < w1.heap.size := by omega
  have hB' : Below w.heap.size w w1 := Below.trans (by go_grown) (hB.mono (by simp; omega))
  clear hB
  go_wp2
  refine bodyPost_ret (v := .tuple #[A4 0 0 0 0, .int .i64 20]) (by simp [results, Try.results56, go_sem, hcell, z0, z1, z2]) rfl ⟨rfl, ?_⟩
  go_grown
end Go.Proofs.Ytkpnjmfndgfogaa
