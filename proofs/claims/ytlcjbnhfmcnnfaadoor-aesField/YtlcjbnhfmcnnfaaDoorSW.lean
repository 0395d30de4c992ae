/- SHA-256: the chapter's examples, and what the laws draw. -/

import Derived.Test.YtlcjbnhfmcnnfaaDoorSH9
import Derived.Lib.SlBytesConst
namespace Go.Proofs.YtlcjbnhfmcnnfaaDoor
open Go.RowKit
set_option linter.unusedVariables false
set_option linter.unusedSimpArgs false
theorem not_t (w : World) : (Op.unary .not (.bool true)).run Tryd.prog w = .ok (.bool false) w := by go_simp
theorem dig_abc : (dig [97, 98, 99]).take 4 = [186, 120, 22, 191] := by decide +kernel
theorem pfx_nil : pfx [] 16 = 58288 := by decide +kernel
theorem eql_8 (p q : Operand) (T : TypeId) (x y : Int) (b : Bool) (w : World) (h : (x == y) = b) : (do eqGuard .eql T p q (.int .u8 x) (.int .u8 y); binOp .eql T (.int .u8 x) (.int .u8 y) : Sem Value).run Tryd.prog w = .ok (.bool b) w := by
  subst h; go_simp
theorem slHB (sl : Option Addr) (n cap k : Nat) (h : k ≤ n) (hc : n ≤ cap) (hn : sl = none → cap = 0) (w : World) : (Instr.sliceAt 24 (.slice sl n cap) none (some (.int .i64 k)) none).run Tryd.prog w = .ok (.slice sl k cap) w := by
  cases sl with
  | none =>
    have e0 := hn rfl
    have e1 : n = 0 := by omega
    have e2 : k = 0 := by omega
    subst e0 e1 e2
    show (Instr.sliceAt 24 (.slice none 0 0) none (some (.int .i64 0)) none).run Tryd.prog w = _
    kernel_rfl
  | some a =>
    have h3 : k ≤ cap := by omega
    simp [Instr.sliceAt, Instr.slice, go_sem, Tryd.underlying24, h3]
theorem PS_in {lo : Nat} {xs : List Nat} {u : World} {y : Value} (h : PS lo xs.length (U8 xs) u y) : IN u u.heap.size y xs := by
  obtain ⟨b, cap, rfl, _, h2, h3, h4⟩ := h
  exact ⟨_, _, b, 0, rfl, h3, .inr rfl, h2, CV.sb h4⟩
theorem IN_nil (u : World) (h : 0 < u.heap.size) : IN u u.heap.size (.slice none 0 0) [] := ⟨none, 0, 0, 0, rfl, Nat.le_refl _, .inl rfl, h, fun j hj => by simp at hj⟩
theorem PS_mk (w : World) : PS w.heap.size 3 (U8 [97, 98, 99]) (w.alloc (.cells #[.int .u8 97, .int .u8 98, .int .u8 99] 5 (3, 4))) (.slice (some ⟨w.heap.size, 0, none⟩) 3 3) := by
  refine ⟨w.heap.size, 3, rfl, Nat.le_refl _, by simp, Nat.le_refl _, fun j v hj => ?_⟩
  have hb : (w.alloc (.cells #[.int .u8 97, .int .u8 98, .int .u8 99] 5 (3, 4))).heap[w.heap.size]? = some (.cells #[.int .u8 97, .int .u8 98, .int .u8 99] 5 (3, 4)) := by
    show (w.heap.push _)[w.heap.size]? = _
    simp
  have hj3 : j < 3 := (List.getElem?_eq_some_iff.1 hj).1
  constructor
  · unfold World.cell?
    rw [hb]
    rcases (by omega : j = 0 ∨ j = 1 ∨ j = 2) with rfl | rfl | rfl <;> (cases hj; rfl)
  · unfold World.frozen?
    rw [hb]
    rcases (by omega : j = 0 ∨ j = 1 ∨ j = 2) with rfl | rfl | rfl <;> rfl
end Go.Proofs.YtlcjbnhfmcnnfaaDoor
