/- SHA-256: the chapter's examples, and what the laws draw. -/

import Derived.Test.YtbgdcgboomdimaaDoorSH9
import Derived.Lib.SlBytesConst
namespace Go.Proofs.YtbgdcgboomdimaaDoor
open Go.RowKit
set_option linter.unusedVariables false
set_option linter.unusedSimpArgs false
theorem eql_8 (p q : Operand) (T : TypeId) (x y : Int) (b : Bool) (w : World) (h : (x == y) = b) : (do eqGuard .eql T p q (.int .u8 x) (.int .u8 y); binOp .eql T (.int .u8 x) (.int .u8 y) : Sem Value).run Tryd.prog w = .ok (.bool b) w := by
  subst h; go_simp
theorem slHB (sl : Option Addr) (n cap k : Nat) (h : k ≤ n) (hc : n ≤ cap) (hn : sl = none → cap = 0) (w : World) : (Instr.sliceAt 22 (.slice sl n cap) none (some (.int .i64 k)) none).run Tryd.prog w = .ok (.slice sl k cap) w := by
  cases sl with
  | none =>
    have e0 := hn rfl
    have e1 : n = 0 := by omega
    have e2 : k = 0 := by omega
    subst e0 e1 e2
    show (Instr.sliceAt 22 (.slice none 0 0) none (some (.int .i64 0)) none).run Tryd.prog w = _
    kernel_rfl
  | some a =>
    have h3 : k ≤ cap := by omega
    simp [Instr.sliceAt, Instr.slice, go_sem, Tryd.underlying22, h3]
theorem PS_in {lo : Nat} {xs : List Nat} {u : World} {y : Value} (h : PS lo xs.length (U8 xs) u y) : IN u u.heap.size y xs := by
  obtain ⟨b, cap, rfl, _, h2, h3, h4⟩ := h
  exact ⟨_, _, b, 0, rfl, h3, .inr rfl, h2, CV.sb h4⟩
theorem sc32 (ds : List Nat) (hd : ds.length = 32) (u : World) : (storeCells ⟨u.heap.size, 0, none⟩ (U8 ds)).run Tryd.prog (u.alloc (.cells #[.int .u8 0, .int .u8 0, .int .u8 0, .int .u8 0, .int .u8 0, .int .u8 0, .int .u8 0, .int .u8 0, .int .u8 0, .int .u8 0, .int .u8 0, .int .u8 0, .int .u8 0, .int .u8 0, .int .u8 0, .int .u8 0, .int .u8 0, .int .u8 0, .int .u8 0, .int .u8 0, .int .u8 0, .int .u8 0, .int .u8 0, .int .u8 0, .int .u8 0, .int .u8 0, .int .u8 0, .int .u8 0, .int .u8 0, .int .u8 0, .int .u8 0, .int .u8 0] 24)) = .ok () ((u.alloc (.cells #[.int .u8 0, .int .u8 0, .int .u8 0, .int .u8 0, .int .u8 0, .int .u8 0, .int .u8 0, .int .u8 0, .int .u8 0, .int .u8 0, .int .u8 0, .int .u8 0, .int .u8 0, .int .u8 0, .int .u8 0, .int .u8 0, .int .u8 0, .int .u8 0, .int .u8 0, .int .u8 0, .int .u8 0, .int .u8 0, .int .u8 0, .int .u8 0, .int .u8 0, .int .u8 0, .int .u8 0, .int .u8 0, .int .u8 0, .int .u8 0, .int .u8 0, .int .u8 0] 24)).setCells u.heap.size 0 (U8 ds)) := by
  have hc : CV (u.alloc (.cells #[.int .u8 0, .int .u8 0, .int .u8 0, .int .u8 0, .int .u8 0, .int .u8 0, .int .u8 0, .int .u8 0, .int .u8 0, .int .u8 0, .int .u8 0, .int .u8 0, .int .u8 0, .int .u8 0, .int .u8 0, .int .u8 0, .int .u8 0, .int .u8 0, .int .u8 0, .int .u8 0, .int .u8 0, .int .u8 0, .int .u8 0, .int .u8 0, .int .u8 0, .int .u8 0, .int .u8 0, .int .u8 0, .int .u8 0, .int .u8 0, .int .u8 0, .int .u8 0] 24)) u.heap.size (U8 z32) := CV.new u (U8 z32) 24
  have hl : (U8 z32).length = 32 := by rw [U8_len]; rfl
  have hl2 : (U8 ds).length = 32 := by rw [U8_len]; exact hd
  have h := run_storeCells_cells (P := Tryd.prog) u.heap.size 0 (U8 ds) 0 (u.alloc (.cells #[.int .u8 0, .int .u8 0, .int .u8 0, .int .u8 0, .int .u8 0, .int .u8 0, .int .u8 0, .int .u8 0, .int .u8 0, .int .u8 0, .int .u8 0, .int .u8 0, .int .u8 0, .int .u8 0, .int .u8 0, .int .u8 0, .int .u8 0, .int .u8 0, .int .u8 0, .int .u8 0, .int .u8 0, .int .u8 0, .int .u8 0, .int .u8 0, .int .u8 0, .int .u8 0, .int .u8 0, .int .u8 0, .int .u8 0, .int .u8 0, .int .u8 0, .int .u8 0] 24)) (fun j hj => by
    rw [Nat.zero_add, (hc j _ (List.getElem?_eq_getElem (by omega))).1]; rfl) (fun j hj => by
    rw [Nat.zero_add]; exact (hc j _ (List.getElem?_eq_getElem (by omega))).2) U8_mem
  exact h
theorem bk32 (ds : List Nat) (hd : ds.length = 32) (m : Nat) (u : World) (hm : m ≤ u.heap.size) : Bk m ((u.alloc (.cells #[.int .u8 0, .int .u8 0, .int .u8 0, .int .u8 0, .int .u8 0, .int .u8 0, .int .u8 0, .int .u8 0, .int .u8 0, .int .u8 0, .int .u8 0, .int .u8 0, .int .u8 0, .int .u8 0, .int .u8 0, .int .u8 0, .int .u8 0, .int .u8 0, .int .u8 0, .int .u8 0, .int .u8 0, .int .u8 0, .int .u8 0, .int .u8 0, .int .u8 0, .int .u8 0, .int .u8 0, .int .u8 0, .int .u8 0, .int .u8 0, .int .u8 0, .int .u8 0] 24)).setCells u.heap.size 0 (U8 ds)) [(true, u.heap.size, U8 (ds))] := by
  have hc : CV (u.alloc (.cells #[.int .u8 0, .int .u8 0, .int .u8 0, .int .u8 0, .int .u8 0, .int .u8 0, .int .u8 0, .int .u8 0, .int .u8 0, .int .u8 0, .int .u8 0, .int .u8 0, .int .u8 0, .int .u8 0, .int .u8 0, .int .u8 0, .int .u8 0, .int .u8 0, .int .u8 0, .int .u8 0, .int .u8 0, .int .u8 0, .int .u8 0, .int .u8 0, .int .u8 0, .int .u8 0, .int .u8 0, .int .u8 0, .int .u8 0, .int .u8 0, .int .u8 0, .int .u8 0] 24)) u.heap.size (U8 z32) := CV.new u (U8 z32) 24
  refine ⟨⟨⟨by rw [size_setCells]; simp, fun _ => hm, hc.put ?_⟩, trivial⟩, by simp⟩
  rw [U8_len, U8_len, hd]; rfl
end Go.Proofs.YtbgdcgboomdimaaDoor
