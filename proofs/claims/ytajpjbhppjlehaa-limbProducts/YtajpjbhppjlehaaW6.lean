/- Walks: the reference's wide, Widen. -/
import Derived.Test.YtajpjbhppjlehaaW5
namespace Go.Proofs.Ytajpjbhppjlehaa
open Go.RowKit
set_option linter.unusedSimpArgs false
set_option linter.unusedVariables false

def H32 (x : Int) : Prop := 0 ≤ x ∧ x < 4294967296
set_option maxRecDepth 100000 in
set_option maxHeartbeats 4000000 in
theorem wide_any (g cap : Nat) (x0 x1 x2 x3 x4 x5 x6 x7 x8 x9 x10 x11 x12 x13 x14 x15 : Int) (w : World) (c0 : w.cell? ⟨g, 0, none⟩ = some (.int .u64 x0)) (c1 : w.cell? ⟨g, 1, none⟩ = some (.int .u64 x1)) (c2 : w.cell? ⟨g, 2, none⟩ = some (.int .u64 x2)) (c3 : w.cell? ⟨g, 3, none⟩ = some (.int .u64 x3)) (c4 : w.cell? ⟨g, 4, none⟩ = some (.int .u64 x4)) (c5 : w.cell? ⟨g, 5, none⟩ = some (.int .u64 x5)) (c6 : w.cell? ⟨g, 6, none⟩ = some (.int .u64 x6)) (c7 : w.cell? ⟨g, 7, none⟩ = some (.int .u64 x7)) (c8 : w.cell? ⟨g, 8, none⟩ = some (.int .u64 x8)) (c9 : w.cell? ⟨g, 9, none⟩ = some (.int .u64 x9)) (c10 : w.cell? ⟨g, 10, none⟩ = some (.int .u64 x10)) (c11 : w.cell? ⟨g, 11, none⟩ = some (.int .u64 x11)) (c12 : w.cell? ⟨g, 12, none⟩ = some (.int .u64 x12)) (c13 : w.cell? ⟨g, 13, none⟩ = some (.int .u64 x13)) (c14 : w.cell? ⟨g, 14, none⟩ = some (.int .u64 x14)) (c15 : w.cell? ⟨g, 15, none⟩ = some (.int .u64 x15)) (h0 : H32 x0) (h1 : H32 x1) (h2 : H32 x2) (h3 : H32 x3) (h4 : H32 x4) (h5 : H32 x5) (h6 : H32 x6) (h7 : H32 x7) (h8 : H32 x8) (h9 : H32 x9) (h10 : H32 x10) (h11 : H32 x11) (h12 : H32 x12) (h13 : H32 x13) (h14 : H32 x14) (h15 : H32 x15) :
    Calls Try.prog 39 #[.slice (some ⟨g, 0, none⟩) 16 cap] w fun e w' => e = .returned (A8 (x0 + x1 * 4294967296) (x2 + x3 * 4294967296) (x4 + x5 * 4294967296) (x6 + x7 * 4294967296) (x8 + x9 * 4294967296) (x10 + x11 * 4294967296) (x12 + x13 * 4294967296) (x14 + x15 * 4294967296)) ∧ Below w.heap.size w w' := by
  obtain ⟨l0, u0⟩ := h0
  obtain ⟨l1, u1⟩ := h1
  obtain ⟨l2, u2⟩ := h2
  obtain ⟨l3, u3⟩ := h3
  obtain ⟨l4, u4⟩ := h4
  obtain ⟨l5, u5⟩ := h5
  obtain ⟨l6, u6⟩ := h6
  obtain ⟨l7, u7⟩ := h7
  obtain ⟨l8, u8⟩ := h8
  obtain ⟨l9, u9⟩ := h9
  obtain ⟨l10, u10⟩ := h10
  obtain ⟨l11, u11⟩ := h11
  obtain ⟨l12, u12⟩ := h12
  obtain ⟨l13, u13⟩ := h13
  obtain ⟨l14, u14⟩ := h14
  obtain ⟨l15, u15⟩ := h15
  have lg : g < w.heap.size := World.block_lt_of_cell? w _ c0
  have lg1 : g < w.heap.size + 1 := by omega
  have lg2 : g < w.heap.size + 1 + 1 := by omega
  go_enter Try.func39, Try.ntmps39
  go_wp2
  refine wp_loop_rounds 9 ?_
  rw [rounds_succ]
  go_wp2
  go_region
  go_wp2
  rw [rounds_succ]
  go_wp2
  go_region
  go_wp2
  rw [rounds_succ]
  go_wp2
  go_region
  go_wp2
  rw [rounds_succ]
  go_wp2
  go_region
  go_wp2
  rw [rounds_succ]
  go_wp2
  go_region
  go_wp2
  rw [rounds_succ]
  go_wp2
  go_region
  go_wp2
  rw [rounds_succ]
  go_wp2
  go_region
  go_wp2
  rw [rounds_succ]
  go_wp2
  go_region
  go_wp2
  rw [rounds_succ]
  go_wp2
  refine bodyPost_ret (v := A8 (x0 + x1 * 4294967296) (x2 + x3 * 4294967296) (x4 + x5 * 4294967296) (x6 + x7 * 4294967296) (x8 + x9 * 4294967296) (x10 + x11 * 4294967296) (x12 + x13 * 4294967296) (x14 + x15 * 4294967296)) (by simp [results, Try.results39, go_sem]) rfl ⟨rfl, ?_⟩
  repeat' (first | (with_reducible exact Below.refl _ _) | (with_reducible assumption) | (with_reducible refine below_drewN ?_ _) | (with_reducible refine Below.drew ?_) | (with_reducible refine Below.setCell ?_ ?_ _) | (with_reducible refine Below.alloc ?_ ?_ _) | go_size)
end Go.Proofs.Ytajpjbhppjlehaa
