/- Bytes and blocks of AES in memory. -/
import Derived.Test.YtlcjbnhfmcnnfaaDoorAF2
import Derived.Test.YtlcjbnhfmcnnfaaDoorSMX
namespace Go.Proofs.YtlcjbnhfmcnnfaaDoor
open Go.RowKit
set_option linter.unusedVariables false
set_option linter.unusedSimpArgs false
def z4 : List Nat := List.replicate 4 0
def z16 : List Nat := List.replicate 16 0
def z176 : List Nat := List.replicate 176 0
def z256 : List Nat := List.replicate 256 0
abbrev Z16b : List Value := [.int .u8 0, .int .u8 0, .int .u8 0, .int .u8 0, .int .u8 0, .int .u8 0, .int .u8 0, .int .u8 0, .int .u8 0, .int .u8 0, .int .u8 0, .int .u8 0, .int .u8 0, .int .u8 0, .int .u8 0, .int .u8 0]
theorem al__4_uint8 (w : World) : (Instr.alloc 48 true (.tuple #[])).run Tryd.prog w = .ok (.pointer (some ⟨w.heap.size, 0, none⟩)) (w.alloc (.cells (U8 z4).toArray 48)) := by kernel_rfl
theorem info__4_uint8 : (Tryd.prog.info? 48).map (·.size) = some 4 := by kernel_rfl
theorem al__16_uint8 (w : World) : (Instr.alloc 32 true (.tuple #[])).run Tryd.prog w = .ok (.pointer (some ⟨w.heap.size, 0, none⟩)) (w.alloc (.cells (U8 z16).toArray 32)) := by kernel_rfl
theorem info__16_uint8 : (Tryd.prog.info? 32).map (·.size) = some 16 := by kernel_rfl
theorem al__11__16_uint8 (w : World) : (Instr.alloc 33 true (.tuple #[])).run Tryd.prog w = .ok (.pointer (some ⟨w.heap.size, 0, none⟩)) (w.alloc (.cells (U8 z176).toArray 33)) := by kernel_rfl
theorem info__11__16_uint8 : (Tryd.prog.info? 33).map (·.size) = some 176 := by kernel_rfl
theorem xb4 (b k : Nat) (w : World) (h : k < 4) : (Instr.indexAt 48 (.pointer (some ⟨b, 0, none⟩)) (.int .i64 k)).run Tryd.prog w = .ok (.pointer (some ⟨b, k, none⟩)) w := by
  have h2 : (k : Int) < 4 := by omega
  go_simp
theorem xb16 (b k : Nat) (w : World) (h : k < 16) : (Instr.indexAt 32 (.pointer (some ⟨b, 0, none⟩)) (.int .i64 k)).run Tryd.prog w = .ok (.pointer (some ⟨b, k, none⟩)) w := by
  have h2 : (k : Int) < 16 := by omega
  go_simp
theorem xb128 (b k : Nat) (w : World) (h : k < 128) : (Instr.indexAt 40 (.pointer (some ⟨b, 0, none⟩)) (.int .u8 k)).run Tryd.prog w = .ok (.pointer (some ⟨b, k, none⟩)) w := by
  have h2 : (k : Int) < 128 := by omega
  go_simp
theorem xb11 (b k : Nat) (w : World) (h : k < 11) : (Instr.indexAt 33 (.pointer (some ⟨b, 0, none⟩)) (.int .i64 k)).run Tryd.prog w = .ok (.pointer (some ⟨b, 16 * k, none⟩)) w := by
  have h2 : (k : Int) < 11 := by omega
  have h3 : k * 16 = 16 * k := Nat.mul_comm _ _
  go_simp
theorem ix4v {o : Oper} {ev : Operand → Value} {T : TypeId} {x y : Operand} {l : List Nat} {k : Nat} (u : World) (hT : T = 48) (ho : o.op = .index T x y) (hx : ev x = .agg (U8 l).toArray) (hy : ev y = .int .i64 k) (hl : l.length = 4) (hk : k < 4) : (execOp ev o).run Tryd.prog u = .ok (.value (.int .u8 ((l.getD k 0 : Nat) : Int))) u := by
  subst hT
  have h2 : (k : Int) < 4 := by omega
  have h3 : (U8 l).toArray[k]? = some (.int .u8 ((l.getD k 0 : Nat) : Int)) := by rw [List.getElem?_toArray]; exact U8_get l k (by omega)
  have e : (Instr.index 48 (.agg (U8 l).toArray) (.int .i64 k)).run Tryd.prog u = .ok (.int .u8 ((l.getD k 0 : Nat) : Int)) u := by
    generalize ((l.getD k 0 : Nat) : Int) = z at *
    generalize (U8 l).toArray = cs at *
    have u3 := Tryd.underlying5
    have a3 := Tryd.isAgg5
    have z3 := Tryd.sizeOf5
    unfold Instr.index
    simp only [asIntOf, Sem.run_bind, Sem.run_pure, Result.andThen_ok, run_underlying Tryd.underlying48]
    go_simp
  unfold execOp; rw [ho]; simp only [hx, hy]
  rw [Sem.run_bind, e, Result.andThen_ok, Sem.run_pure]
theorem ix16v {o : Oper} {ev : Operand → Value} {T : TypeId} {x y : Operand} {l : List Nat} {k : Nat} (u : World) (hT : T = 32) (ho : o.op = .index T x y) (hx : ev x = .agg (U8 l).toArray) (hy : ev y = .int .i64 k) (hl : l.length = 16) (hk : k < 16) : (execOp ev o).run Tryd.prog u = .ok (.value (.int .u8 ((l.getD k 0 : Nat) : Int))) u := by
  subst hT
  have h2 : (k : Int) < 16 := by omega
  have h3 : (U8 l).toArray[k]? = some (.int .u8 ((l.getD k 0 : Nat) : Int)) := by rw [List.getElem?_toArray]; exact U8_get l k (by omega)
  have e : (Instr.index 32 (.agg (U8 l).toArray) (.int .i64 k)).run Tryd.prog u = .ok (.int .u8 ((l.getD k 0 : Nat) : Int)) u := by
    generalize ((l.getD k 0 : Nat) : Int) = z at *
    generalize (U8 l).toArray = cs at *
    have u3 := Tryd.underlying5
    have a3 := Tryd.isAgg5
    have z3 := Tryd.sizeOf5
    unfold Instr.index
    simp only [asIntOf, Sem.run_bind, Sem.run_pure, Result.andThen_ok, run_underlying Tryd.underlying32]
    go_simp
  unfold execOp; rw [ho]; simp only [hx, hy]
  rw [Sem.run_bind, e, Result.andThen_ok, Sem.run_pure]
/-- The row of sixteen from there on. -/
def rowB (l : List Nat) (k : Nat) : List Nat := (l.drop (16 * k)).take 16
theorem ix11v {o : Oper} {ev : Operand → Value} {T : TypeId} {x y : Operand} {l : List Nat} {k : Nat} (u : World) (hT : T = 33) (ho : o.op = .index T x y) (hx : ev x = .agg (U8 l).toArray) (hy : ev y = .int .i64 k) (hl : l.length = 176) (hk : k < 11) : (execOp ev o).run Tryd.prog u = .ok (.value (.agg (U8 (rowB l k)).toArray)) u := by
  subst hT
  have h2 : (k : Int) < 11 := by omega
  have h3 : (U8 l).toArray.extract (k * 16) (k * 16 + 16) = (U8 (rowB l k)).toArray := by
    unfold rowB U8
    rw [List.extract_toArray, List.extract_eq_take_drop, List.map_take, List.map_drop, Nat.mul_comm, Nat.add_sub_cancel_left]
  have e : (Instr.index 33 (.agg (U8 l).toArray) (.int .i64 k)).run Tryd.prog u = .ok (.agg (U8 (rowB l k)).toArray) u := by
    generalize hcs : (U8 l).toArray = cs at *
    have u3 := Tryd.underlying32
    have a3 := Tryd.isAgg32
    have z3 := Tryd.sizeOf32
    unfold Instr.index
    simp only [asIntOf, Sem.run_bind, Sem.run_pure, Result.andThen_ok, run_underlying Tryd.underlying33]
    go_simp
  unfold execOp; rw [ho]; simp only [hx, hy]
  rw [Sem.run_bind, e, Result.andThen_ok, Sem.run_pure]
theorem shl8 (p q : Operand) (a : Nat) (w : World) : (do eqGuard .shl 5 p q (.int .u8 a) (.int .u64 1); binOp .shl 5 (.int .u8 a) (.int .u64 1) : Sem Value).run Tryd.prog w = .ok (.int .u8 (((2 * a) % 256 : Nat) : Int)) w := by
  have e : IntKind.u8.wrap ((a : Int) * 2) = 2 * (a : Int) % 256 := by
    simp [IntKind.wrap, IntKind.signed, IntKind.bits]; omega
  go_simp
  all_goals first | exact e | (simp [IntKind.wrap, IntKind.signed, IntKind.bits]; omega)
theorem shr8 (p q : Operand) (a : Nat) (w : World) (h : a < 256) : (do eqGuard .shr 5 p q (.int .u8 a) (.int .u64 1); binOp .shr 5 (.int .u8 a) (.int .u64 1) : Sem Value).run Tryd.prog w = .ok (.int .u8 ((a / 2 : Nat) : Int)) w := by
  have e : IntKind.u8.wrap ((a : Int) / 2) = (a : Int) / 2 := by
    simp [IntKind.wrap, IntKind.signed, IntKind.bits]; omega
  go_simp
  all_goals first | exact e | (simp [IntKind.wrap, IntKind.signed, IntKind.bits]; omega)
theorem bit_and8 : ∀ a : Nat, a < 256 → bits .and .u8 (a : Int) 1 = ((a % 2 : Nat) : Int) := by decide +kernel
theorem and81 (p q : Operand) (a : Nat) (w : World) (h : a < 256) : (do eqGuard .and 5 p q (.int .u8 a) (.int .u8 1); binOp .and 5 (.int .u8 a) (.int .u8 1) : Sem Value).run Tryd.prog w = .ok (.int .u8 ((a % 2 : Nat) : Int)) w := by
  rw [← bit_and8 a h]; go_simp
theorem sub8 (p q : Operand) (a b c : Nat) (w : World) (h : b + c = a) (ha : a < 256) : (do eqGuard .sub 5 p q (.int .u8 a) (.int .u8 b); binOp .sub 5 (.int .u8 a) (.int .u8 b) : Sem Value).run Tryd.prog w = .ok (.int .u8 (c : Int)) w := by
  have e : IntKind.u8.wrap ((a : Int) - b) = (c : Int) := by simp [IntKind.wrap, IntKind.signed, IntKind.bits]; omega
  go_simp
theorem lss8 (p q : Operand) (x y : Int) (b : Bool) (w : World) (h : decide (x < y) = b) : (do eqGuard .lss 5 p q (.int .u8 x) (.int .u8 y); binOp .lss 5 (.int .u8 x) (.int .u8 y) : Sem Value).run Tryd.prog w = .ok (.bool b) w := by
  subst h; go_simp
theorem gtr8 (p q : Operand) (x y : Int) (b : Bool) (w : World) (h : decide (y < x) = b) : (do eqGuard .gtr 5 p q (.int .u8 x) (.int .u8 y); binOp .gtr 5 (.int .u8 x) (.int .u8 y) : Sem Value).run Tryd.prog w = .ok (.bool b) w := by
  subst h; go_simp
theorem geq_z (p q : Operand) (x y : Int) (b : Bool) (w : World) (h : decide (y ≤ x) = b) : (do eqGuard .geq 3 p q (.int .i64 x) (.int .i64 y); binOp .geq 3 (.int .i64 x) (.int .i64 y) : Sem Value).run Tryd.prog w = .ok (.bool b) w := by
  subst h; go_simp
theorem eql8 (p q : Operand) (x y : Int) (b : Bool) (w : World) (h : decide (x = y) = b) : (do eqGuard .eql 5 p q (.int .u8 x) (.int .u8 y); binOp .eql 5 (.int .u8 x) (.int .u8 y) : Sem Value).run Tryd.prog w = .ok (.bool b) w := by
  subst h; go_simp
  all_goals first | rfl | (by_cases h : x = y <;> simp [h])
theorem remi (p q : Operand) (x y : Nat) (w : World) (h1 : x < 1000000) (h2 : 0 < y) : (do eqGuard .rem 3 p q (.int .i64 x) (.int .i64 y); binOp .rem 3 (.int .i64 x) (.int .i64 y) : Sem Value).run Tryd.prog w = .ok (.int .i64 ((x % y : Nat) : Int)) w := by
  have e0 : ((x : Int)).tmod y = ((x % y : Nat) : Int) := by rw [Int.tmod_eq_emod_of_nonneg (Int.natCast_nonneg _)]; simp
  have hle : x % y ≤ x := Nat.mod_le _ _
  obtain ⟨z, hz⟩ : ∃ z, x % y = z := ⟨_, rfl⟩
  rw [hz] at e0 hle ⊢
  have e : IntKind.i64.wrap (z : Int) = (z : Int) := by rw [IntKind.wrap_i64]; omega
  have hy : (y : Int) ≠ 0 := by omega
  have hy2 : ¬ y = 0 := by omega
  go_simp
theorem muli (p q : Operand) (x y : Nat) (z : Nat) (w : World) (h : x * y = z) (h1 : z < 1000000) : (do eqGuard .mul 3 p q (.int .i64 x) (.int .i64 y); binOp .mul 3 (.int .i64 x) (.int .i64 y) : Sem Value).run Tryd.prog w = .ok (.int .i64 (z : Int)) w := by
  have e0 : ((x : Int)) * y = (z : Int) := by rw [← h]; simp
  have e : IntKind.i64.wrap (z : Int) = (z : Int) := by rw [IntKind.wrap_i64]; omega
  go_simp
theorem cvi8z {o : Oper} {ev : Operand → Value} {x : Operand} {n : Nat} (u : World) (h1 : n < 256) (ho : o.op = .convert 3 5 x) (hx : ev x = .int .i64 (n : Int)) : (execOp ev o).run Tryd.prog u = .ok (.value (.int .u8 (n : Int))) u := by
  have e1 : IntKind.u8.wrap (n : Int) = (n : Int) := wraps_u8 _ (by omega) (by omega)
  unfold execOp; rw [ho]; simp only [hx]; go_simp
theorem BY.get {n : Nat} {l : List Nat} (h : BY n l) {k : Nat} (hk : k < n) : (U8 l)[k]? = some (.int .u8 ((l.getD k 0 : Nat) : Int)) := U8_get l k (by rw [h.len]; exact hk)
theorem BY_rep (n : Nat) : BY n (List.replicate n 0) := ⟨List.length_replicate, fun j => by rw [grep0]; decide⟩
end Go.Proofs.YtlcjbnhfmcnnfaaDoor
