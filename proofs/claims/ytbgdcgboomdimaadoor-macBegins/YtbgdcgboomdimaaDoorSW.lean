/- SHA-256: the chapter's examples, and what the laws draw. -/

import Derived.Test.YtbgdcgboomdimaaDoorSH9
import Derived.Lib.SlBytesConst
namespace Go.Proofs.YtbgdcgboomdimaaDoor
open Go.RowKit
set_option linter.unusedVariables false
set_option linter.unusedSimpArgs false
set_option maxRecDepth 100000 in
set_option maxHeartbeats 4000000 in
theorem among_any (x n : Int) (h1 : 1 ≤ n) (h2 : n ≤ 1000) (hx : -9223372036854775808 ≤ x ∧ x < 9223372036854775808) : ∃ k : Nat, (k : Int) < n ∧ ∀ w, Calls Tryd.prog 24 #[.int .i64 x, .int .i64 n] w fun e w' => e = .returned (.int .i64 (k : Int)) ∧ Below w.heap.size w w' := by
  have e1 : IntKind.u64.wrap n = n := by rw [IntKind.wrap_u64]; omega
  obtain ⟨y, ey⟩ : ∃ y, IntKind.u64.wrap x = y := ⟨_, rfl⟩
  have y0 : 0 ≤ y := by rw [← ey, IntKind.wrap_u64]; omega
  have e2 : y.tmod n = y % n := Int.tmod_eq_emod_of_nonneg y0
  have m0 := Int.emod_nonneg y (show n ≠ 0 by omega)
  have m1 := Int.emod_lt_of_pos y (show 0 < n by omega)
  have e3 : IntKind.i64.wrap (y % n) = y % n := by simp [IntKind.wrap, IntKind.signed, IntKind.bits]; omega
  have e4 : IntKind.u64.wrap (y % n) = y % n := by rw [IntKind.wrap_u64]; omega
  refine ⟨(y % n).toNat, by omega, fun w => ?_⟩
  rw [show ((y % n).toNat : Int) = y % n by omega]
  generalize y % n = z at *
  have hn1 : ¬ n < 1 := by omega
  have hn0 : n ≠ 0 := by omega
  go_enter Tryd.func24, Tryd.ntmps24
  go_wp2
  go_ret
  exact ⟨rfl, Below.refl _ _⟩
theorem ent_seneschalbase_Among (vs : Array Value) (w : World) : (callFunc 24 vs).run Tryd.prog w = .ok (.enter 24 vs) w := by kernel_rfl
theorem not_t (w : World) : (Op.unary .not (.bool true)).run Tryd.prog w = .ok (.bool false) w := by go_simp
theorem eql_8 (p q : Operand) (T : TypeId) (x y : Int) (b : Bool) (w : World) (h : (x == y) = b) : (do eqGuard .eql T p q (.int .u8 x) (.int .u8 y); binOp .eql T (.int .u8 x) (.int .u8 y) : Sem Value).run Tryd.prog w = .ok (.bool b) w := by
  subst h; go_simp
theorem slHB (sl : Option Addr) (n cap k : Nat) (h : k ≤ n) (hc : n ≤ cap) (hn : sl = none → cap = 0) (w : World) : (Instr.sliceAt 22 (.slice sl n cap) none (some (.int .i64 k)) none).run Tryd.prog w = .ok (.slice sl k cap) w := by
  cases sl with
  | none =>
    have e0 := hn rfl
    have e1 : n = 0 := by omega
    have e2 : k = 0 := by omega
    subst e0 e1 e2
    show (Instr.sliceAt 22 (.slice none 0 0) none (some (.int .i64 0)) none).run Tryd.prog w = _
    kernel_rfl
  | some a =>
    have h3 : k ≤ cap := by omega
    simp [Instr.sliceAt, Instr.slice, go_sem, Tryd.underlying22, h3]
theorem PS_in {lo : Nat} {xs : List Nat} {u : World} {y : Value} (h : PS lo xs.length (U8 xs) u y) : IN u u.heap.size y xs := by
  obtain ⟨b, cap, rfl, _, h2, h3, h4⟩ := h
  exact ⟨_, _, b, 0, rfl, h3, .inr rfl, h2, CV.sb h4⟩
theorem IN_nil (u : World) (h : 0 < u.heap.size) : IN u u.heap.size (.slice none 0 0) [] := ⟨none, 0, 0, 0, rfl, Nat.le_refl _, .inl rfl, h, fun j hj => by simp at hj⟩
theorem sc32 (ds : List Nat) (hd : ds.length = 32) (u : World) : (storeCells ⟨u.heap.size, 0, none⟩ (U8 ds)).run Tryd.prog (u.alloc (.cells #[.int .u8 0, .int .u8 0, .int .u8 0, .int .u8 0, .int .u8 0, .int .u8 0, .int .u8 0, .int .u8 0, .int .u8 0, .int .u8 0, .int .u8 0, .int .u8 0, .int .u8 0, .int .u8 0, .int .u8 0, .int .u8 0, .int .u8 0, .int .u8 0, .int .u8 0, .int .u8 0, .int .u8 0, .int .u8 0, .int .u8 0, .int .u8 0, .int .u8 0, .int .u8 0, .int .u8 0, .int .u8 0, .int .u8 0, .int .u8 0, .int .u8 0, .int .u8 0] 24)) = .ok () ((u.alloc (.cells #[.int .u8 0, .int .u8 0, .int .u8 0, .int .u8 0, .int .u8 0, .int .u8 0, .int .u8 0, .int .u8 0, .int .u8 0, .int .u8 0, .int .u8 0, .int .u8 0, .int .u8 0, .int .u8 0, .int .u8 0, .int .u8 0, .int .u8 0, .int .u8 0, .int .u8 0, .int .u8 0, .int .u8 0, .int .u8 0, .int .u8 0, .int .u8 0, .int .u8 0, .int .u8 0, .int .u8 0, .int .u8 0, .int .u8 0, .int .u8 0, .int .u8 0, .int .u8 0] 24)).setCells u.heap.size 0 (U8 ds)) := by
  have hc : CV (u.alloc (.cells #[.int .u8 0, .int .u8 0, .int .u8 0, .int .u8 0, .int .u8 0, .int .u8 0, .int .u8 0, .int .u8 0, .int .u8 0, .int .u8 0, .int .u8 0, .int .u8 0, .int .u8 0, .int .u8 0, .int .u8 0, .int .u8 0, .int .u8 0, .int .u8 0, .int .u8 0, .int .u8 0, .int .u8 0, .int .u8 0, .int .u8 0, .int .u8 0, .int .u8 0, .int .u8 0, .int .u8 0, .int .u8 0, .int .u8 0, .int .u8 0, .int .u8 0, .int .u8 0] 24)) u.heap.size (U8 z32) := CV.new u (U8 z32) 24
  have hl : (U8 z32).length = 32 := by rw [U8_len]; rfl
  have hl2 : (U8 ds).length = 32 := by rw [U8_len]; exact hd
  have h := run_storeCells_cells (P := Tryd.prog) u.heap.size 0 (U8 ds) 0 (u.alloc (.cells #[.int .u8 0, .int .u8 0, .int .u8 0, .int .u8 0, .int .u8 0, .int .u8 0, .int .u8 0, .int .u8 0, .int .u8 0, .int .u8 0, .int .u8 0, .int .u8 0, .int .u8 0, .int .u8 0, .int .u8 0, .int .u8 0, .int .u8 0, .int .u8 0, .int .u8 0, .int .u8 0, .int .u8 0, .int .u8 0, .int .u8 0, .int .u8 0, .int .u8 0, .int .u8 0, .int .u8 0, .int .u8 0, .int .u8 0, .int .u8 0, .int .u8 0, .int .u8 0] 24)) (fun j hj => by
    rw [Nat.zero_add, (hc j _ (List.getElem?_eq_getElem (by omega))).1]; rfl) (fun j hj => by
    rw [Nat.zero_add]; exact (hc j _ (List.getElem?_eq_getElem (by omega))).2) U8_mem
  exact h
theorem bk32 (ds : List Nat) (hd : ds.length = 32) (m : Nat) (u : World) (hm : m ≤ u.heap.size) : Bk m ((u.alloc (.cells #[.int .u8 0, .int .u8 0, .int .u8 0, .int .u8 0, .int .u8 0, .int .u8 0, .int .u8 0, .int .u8 0, .int .u8 0, .int .u8 0, .int .u8 0, .int .u8 0, .int .u8 0, .int .u8 0, .int .u8 0, .int .u8 0, .int .u8 0, .int .u8 0, .int .u8 0, .int .u8 0, .int .u8 0, .int .u8 0, .int .u8 0, .int .u8 0, .int .u8 0, .int .u8 0, .int .u8 0, .int .u8 0, .int .u8 0, .int .u8 0, .int .u8 0, .int .u8 0] 24)).setCells u.heap.size 0 (U8 ds)) [(true, u.heap.size, U8 (ds))] := by
  have hc : CV (u.alloc (.cells #[.int .u8 0, .int .u8 0, .int .u8 0, .int .u8 0, .int .u8 0, .int .u8 0, .int .u8 0, .int .u8 0, .int .u8 0, .int .u8 0, .int .u8 0, .int .u8 0, .int .u8 0, .int .u8 0, .int .u8 0, .int .u8 0, .int .u8 0, .int .u8 0, .int .u8 0, .int .u8 0, .int .u8 0, .int .u8 0, .int .u8 0, .int .u8 0, .int .u8 0, .int .u8 0, .int .u8 0, .int .u8 0, .int .u8 0, .int .u8 0, .int .u8 0, .int .u8 0] 24)) u.heap.size (U8 z32) := CV.new u (U8 z32) 24
  refine ⟨⟨⟨by rw [size_setCells]; simp, fun _ => hm, hc.put ?_⟩, trivial⟩, by simp⟩
  rw [U8_len, U8_len, hd]; rfl
end Go.Proofs.YtbgdcgboomdimaaDoor
