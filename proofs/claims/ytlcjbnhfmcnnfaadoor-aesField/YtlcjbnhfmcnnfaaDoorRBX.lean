/- The reference's block: the numbers. -/
import Derived.Test.YtlcjbnhfmcnnfaaDoorSMX
namespace Go.Proofs.YtlcjbnhfmcnnfaaDoor
open Go.RowKit
set_option linter.unusedVariables false
set_option linter.unusedSimpArgs false
end Go.Proofs.YtlcjbnhfmcnnfaaDoor
/- The reference's small functions. -/
namespace Go.Proofs.YtlcjbnhfmcnnfaaDoor
open Go.RowKit
set_option linter.unusedVariables false
set_option linter.unusedSimpArgs false
end Go.Proofs.YtlcjbnhfmcnnfaaDoor
/- What the reference pads and tells: the numbers. -/
namespace Go.Proofs.YtlcjbnhfmcnnfaaDoor
open Go.RowKit
set_option linter.unusedVariables false
set_option linter.unusedSimpArgs false
section
variable {R : Rg} {P : Program} {ops : Array Oper} {Q : Exit → Act → World → Prop} {f : Nat → Bool} {t : Nat → Value} {u : World} {a : Act} {i : Nat} {o : Oper}
end
end Go.Proofs.YtlcjbnhfmcnnfaaDoor
/- The reference's padding. -/
namespace Go.Proofs.YtlcjbnhfmcnnfaaDoor
open Go.RowKit
set_option linter.unusedVariables false
set_option linter.unusedSimpArgs false
theorem bsB0 (x : Nat) (w : World) : (Instr.buildSlice 24 1 ([0].zip [.int .u8 (x : Int)]).toArray).run Tryd.prog w = .ok (.slice (some ⟨w.heap.size, 0, none⟩) 1 1) (w.alloc (.cells (U8 [x]).toArray 5)) := by kernel_rfl
theorem PS_NW {lo n : Nat} {xs : List Nat} {u : World} {y : Value} (h : PS lo n (U8 xs) u y) : NW n (U8 xs) u y := by
  obtain ⟨b, cap, rfl, _, h2, h3, h4⟩ := h
  exact ⟨_, cap, rfl, .inr ⟨_, rfl, fun j v hj => by rw [Addr.add0]; exact (h4 j v hj).1⟩⟩
end Go.Proofs.YtlcjbnhfmcnnfaaDoor
