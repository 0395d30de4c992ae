/- The reference's padding. -/
import Derived.Test.YtlcjbnhfmcnnfaaDoorRP0
namespace Go.Proofs.YtlcjbnhfmcnnfaaDoor
open Go.RowKit
set_option linter.unusedVariables false
set_option linter.unusedSimpArgs false
theorem bsB0 (x : Nat) (w : World) : (Instr.buildSlice 24 1 ([0].zip [.int .u8 (x : Int)]).toArray).run Tryd.prog w = .ok (.slice (some ⟨w.heap.size, 0, none⟩) 1 1) (w.alloc (.cells (U8 [x]).toArray 5)) := by kernel_rfl
theorem PS_NW {lo n : Nat} {xs : List Nat} {u : World} {y : Value} (h : PS lo n (U8 xs) u y) : NW n (U8 xs) u y := by
  obtain ⟨b, cap, rfl, _, h2, h3, h4⟩ := h
  exact ⟨_, cap, rfl, .inr ⟨_, rfl, fun j v hj => by rw [Addr.add0]; exact (h4 j v hj).1⟩⟩
theorem neq_it (p q : Operand) (x y : Int) (b : Bool) (w : World) (h : decide (x ≠ y) = b) : (do eqGuard .neq 3 p q (.int .i64 x) (.int .i64 y); binOp .neq 3 (.int .i64 x) (.int .i64 y) : Sem Value).run Tryd.prog w = .ok (.bool b) w := by
  subst h; go_simp
  first | done | (by_cases e : x = y <;> simp [e])
theorem geq_i (p q : Operand) (x y : Int) (b : Bool) (w : World) (h : decide (y ≤ x) = b) : (do eqGuard .geq 3 p q (.int .i64 x) (.int .i64 y); binOp .geq 3 (.int .i64 x) (.int .i64 y) : Sem Value).run Tryd.prog w = .ok (.bool b) w := by
  subst h; go_simp
def lenV2 : Value → Nat
  | .slice _ n _ => n
  | _ => 0
theorem ixB0 (g n cap j : Nat) (h : j < n) (w : World) : (Instr.indexAt 24 (.slice (some ⟨g, 0, none⟩) n cap) (.int .i64 j)).run Tryd.prog w = .ok (.pointer (some ⟨g, j, none⟩)) w := by
  have := ixB g 0 n cap j h w
  rwa [Nat.zero_add] at this
theorem NW_full {u : World} {b n cap : Nat} {xs : List Nat} (hl : xs.length = n) (h : CV u b (U8 xs)) : NW n (U8 xs) u (.slice (some ⟨b, 0, none⟩) n cap) :=
  ⟨_, cap, rfl, .inr ⟨_, rfl, fun j v hj => by rw [Addr.add0]; exact (h j v hj).1⟩⟩
end Go.Proofs.YtlcjbnhfmcnnfaaDoor
