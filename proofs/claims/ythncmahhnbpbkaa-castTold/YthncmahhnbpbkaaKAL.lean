/- Cast: operations of whole numbers, of fields, of what lies in a cell. -/
import Derived.Test.YthncmahhnbpbkaaKA4
namespace Go.Proofs.Ythncmahhnbpbkaa
open Go.RowKit
set_option linter.unusedVariables false
set_option linter.unusedSimpArgs false
theorem wr64 {n : Int} (h : -9223372036854775808 ≤ n ∧ n ≤ 9223372036854775807) : IntKind.i64.wrap n = n := by rw [IntKind.wrap_i64]; omega
theorem lss_i (p q : Operand) (x y : Int) (b : Bool) (w : World) (h : decide (x < y) = b) : (do eqGuard .lss 3 p q (.int .i64 x) (.int .i64 y); binOp .lss 3 (.int .i64 x) (.int .i64 y) : Sem Value).run Try.prog w = .ok (.bool b) w := by subst h; go_simp
theorem leq_i (p q : Operand) (x y : Int) (b : Bool) (w : World) (h : decide (x ≤ y) = b) : (do eqGuard .leq 3 p q (.int .i64 x) (.int .i64 y); binOp .leq 3 (.int .i64 x) (.int .i64 y) : Sem Value).run Try.prog w = .ok (.bool b) w := by subst h; go_simp
theorem gtr_i (p q : Operand) (x y : Int) (b : Bool) (w : World) (h : decide (y < x) = b) : (do eqGuard .gtr 3 p q (.int .i64 x) (.int .i64 y); binOp .gtr 3 (.int .i64 x) (.int .i64 y) : Sem Value).run Try.prog w = .ok (.bool b) w := by subst h; go_simp
theorem geq_i (p q : Operand) (x y : Int) (b : Bool) (w : World) (h : decide (y ≤ x) = b) : (do eqGuard .geq 3 p q (.int .i64 x) (.int .i64 y); binOp .geq 3 (.int .i64 x) (.int .i64 y) : Sem Value).run Try.prog w = .ok (.bool b) w := by subst h; go_simp
theorem eql_i (T : TypeId) (p q : Operand) (x y : Int) (b : Bool) (w : World) (h : (x == y) = b) : (do eqGuard .eql T p q (.int .i64 x) (.int .i64 y); binOp .eql T (.int .i64 x) (.int .i64 y) : Sem Value).run Try.prog w = .ok (.bool b) w := by subst h; go_simp
theorem neq_i (T : TypeId) (p q : Operand) (x y : Int) (b : Bool) (w : World) (h : (x != y) = b) : (do eqGuard .neq T p q (.int .i64 x) (.int .i64 y); binOp .neq T (.int .i64 x) (.int .i64 y) : Sem Value).run Try.prog w = .ok (.bool b) w := by subst h; go_simp
theorem add_i (p q : Operand) (x y z : Int) (w : World) (h : x + y = z) (h1 : -9223372036854775808 ≤ z) (h2 : z < 9223372036854775808) : (do eqGuard .add 3 p q (.int .i64 x) (.int .i64 y); binOp .add 3 (.int .i64 x) (.int .i64 y) : Sem Value).run Try.prog w = .ok (.int .i64 z) w := by
  have e := wr64 (n := x + y) (by omega)
  subst h; go_simp
theorem sub_i (p q : Operand) (x y z : Int) (w : World) (h : x - y = z) (h1 : -9223372036854775808 ≤ z) (h2 : z < 9223372036854775808) : (do eqGuard .sub 3 p q (.int .i64 x) (.int .i64 y); binOp .sub 3 (.int .i64 x) (.int .i64 y) : Sem Value).run Try.prog w = .ok (.int .i64 z) w := by
  have e := wr64 (n := x - y) (by omega)
  subst h; go_simp
theorem mul_i (p q : Operand) (x y z : Int) (w : World) (h : x * y = z) (h0 : -9223372036854775808 ≤ z) (h1 : z < 9223372036854775808) : (do eqGuard .mul 3 p q (.int .i64 x) (.int .i64 y); binOp .mul 3 (.int .i64 x) (.int .i64 y) : Sem Value).run Try.prog w = .ok (.int .i64 z) w := by
  have e := wr64 (n := x * y) (by omega)
  subst h; go_simp
theorem not_f (w : World) : (Op.unary .not (.bool false)).run Try.prog w = .ok (.bool true) w := by go_simp
theorem not_t (w : World) : (Op.unary .not (.bool true)).run Try.prog w = .ok (.bool false) w := by go_simp
theorem lI {b c : Nat} {v : Int} (w : World) (h : w.cell? ⟨b, c, none⟩ = some (.int .i64 v)) : (Instr.loadAt 3 (.pointer (some ⟨b, c, none⟩))).run Try.prog w = .ok (.int .i64 v) w := by go_simp
theorem lB {b c : Nat} {v : Bool} (w : World) (h : w.cell? ⟨b, c, none⟩ = some (.bool v)) : (Instr.loadAt 4 (.pointer (some ⟨b, c, none⟩))).run Try.prog w = .ok (.bool v) w := by go_simp
theorem lT {b c : Nat} {s : ByteArray} (w : World) (h : w.cell? ⟨b, c, none⟩ = some (.string s)) : (Instr.loadAt 9 (.pointer (some ⟨b, c, none⟩))).run Try.prog w = .ok (.string s) w := by go_simp
theorem lSn {b c n cap : Nat} {sl : Option Addr} (w : World) (h : w.cell? ⟨b, c, none⟩ = some (.slice sl n cap)) : (Instr.loadAt 52 (.pointer (some ⟨b, c, none⟩))).run Try.prog w = .ok (.slice sl n cap) w := by go_simp
theorem lSi {b c n cap : Nat} {sl : Option Addr} (w : World) (h : w.cell? ⟨b, c, none⟩ = some (.slice sl n cap)) : (Instr.loadAt 53 (.pointer (some ⟨b, c, none⟩))).run Try.prog w = .ok (.slice sl n cap) w := by go_simp
theorem lSm {b c n cap : Nat} {sl : Option Addr} (w : World) (h : w.cell? ⟨b, c, none⟩ = some (.slice sl n cap)) : (Instr.loadAt 22 (.pointer (some ⟨b, c, none⟩))).run Try.prog w = .ok (.slice sl n cap) w := by go_simp
theorem lPn {b c : Nat} {q : Option Addr} (w : World) (h : w.cell? ⟨b, c, none⟩ = some (.pointer q)) : (Instr.loadAt 23 (.pointer (some ⟨b, c, none⟩))).run Try.prog w = .ok (.pointer q) w := by go_simp
theorem info_cast_counts : (Try.prog.info? 64).map (·.size) = some 2 := by kernel_rfl
theorem info_cast_Message : (Try.prog.info? 32).map (·.size) = some 3 := by kernel_rfl
theorem info_seneschallaw15_Move : (Try.prog.info? 80).map (·.size) = some 6 := by kernel_rfl
theorem fk_cast_Node_0 (b o : Nat) (w : World) : (Instr.fieldAt 68 (.pointer (some ⟨b, o, none⟩)) 0).run Try.prog w = .ok (.pointer (some ⟨b, o + 0, none⟩)) w := by go_simp
theorem fk_cast_Node_1 (b o : Nat) (w : World) : (Instr.fieldAt 68 (.pointer (some ⟨b, o, none⟩)) 1).run Try.prog w = .ok (.pointer (some ⟨b, o + 1, none⟩)) w := by go_simp
theorem fk_cast_Node_2 (b o : Nat) (w : World) : (Instr.fieldAt 68 (.pointer (some ⟨b, o, none⟩)) 2).run Try.prog w = .ok (.pointer (some ⟨b, o + 2, none⟩)) w := by go_simp
theorem fk_cast_Node_3 (b o : Nat) (w : World) : (Instr.fieldAt 68 (.pointer (some ⟨b, o, none⟩)) 3).run Try.prog w = .ok (.pointer (some ⟨b, o + 3, none⟩)) w := by go_simp
theorem fk_cast_Node_4 (b o : Nat) (w : World) : (Instr.fieldAt 68 (.pointer (some ⟨b, o, none⟩)) 4).run Try.prog w = .ok (.pointer (some ⟨b, o + 4, none⟩)) w := by go_simp
theorem fk_cast_Node_5 (b o : Nat) (w : World) : (Instr.fieldAt 68 (.pointer (some ⟨b, o, none⟩)) 5).run Try.prog w = .ok (.pointer (some ⟨b, o + 5, none⟩)) w := by go_simp
theorem fk_cast_Node_6 (b o : Nat) (w : World) : (Instr.fieldAt 68 (.pointer (some ⟨b, o, none⟩)) 6).run Try.prog w = .ok (.pointer (some ⟨b, o + 7, none⟩)) w := by go_simp
theorem fk_cast_Node_7 (b o : Nat) (w : World) : (Instr.fieldAt 68 (.pointer (some ⟨b, o, none⟩)) 7).run Try.prog w = .ok (.pointer (some ⟨b, o + 9, none⟩)) w := by go_simp
theorem fk_cast_Node_8 (b o : Nat) (w : World) : (Instr.fieldAt 68 (.pointer (some ⟨b, o, none⟩)) 8).run Try.prog w = .ok (.pointer (some ⟨b, o + 11, none⟩)) w := by go_simp
theorem fk_cast_Node_9 (b o : Nat) (w : World) : (Instr.fieldAt 68 (.pointer (some ⟨b, o, none⟩)) 9).run Try.prog w = .ok (.pointer (some ⟨b, o + 13, none⟩)) w := by go_simp
theorem fk_cast_Message_0 (b o : Nat) (w : World) : (Instr.fieldAt 32 (.pointer (some ⟨b, o, none⟩)) 0).run Try.prog w = .ok (.pointer (some ⟨b, o + 0, none⟩)) w := by go_simp
theorem fk_cast_Message_1 (b o : Nat) (w : World) : (Instr.fieldAt 32 (.pointer (some ⟨b, o, none⟩)) 1).run Try.prog w = .ok (.pointer (some ⟨b, o + 1, none⟩)) w := by go_simp
theorem fk_cast_Message_2 (b o : Nat) (w : World) : (Instr.fieldAt 32 (.pointer (some ⟨b, o, none⟩)) 2).run Try.prog w = .ok (.pointer (some ⟨b, o + 2, none⟩)) w := by go_simp
theorem fk_cast_choice_0 (b o : Nat) (w : World) : (Instr.fieldAt 66 (.pointer (some ⟨b, o, none⟩)) 0).run Try.prog w = .ok (.pointer (some ⟨b, o + 0, none⟩)) w := by go_simp
theorem fk_cast_choice_1 (b o : Nat) (w : World) : (Instr.fieldAt 66 (.pointer (some ⟨b, o, none⟩)) 1).run Try.prog w = .ok (.pointer (some ⟨b, o + 1, none⟩)) w := by go_simp
theorem fk_cast_counts_0 (b o : Nat) (w : World) : (Instr.fieldAt 64 (.pointer (some ⟨b, o, none⟩)) 0).run Try.prog w = .ok (.pointer (some ⟨b, o + 0, none⟩)) w := by go_simp
theorem fk_cast_counts_1 (b o : Nat) (w : World) : (Instr.fieldAt 64 (.pointer (some ⟨b, o, none⟩)) 1).run Try.prog w = .ok (.pointer (some ⟨b, o + 1, none⟩)) w := by go_simp
theorem fk_seneschallaw15_world_0 (b o : Nat) (w : World) : (Instr.fieldAt 55 (.pointer (some ⟨b, o, none⟩)) 0).run Try.prog w = .ok (.pointer (some ⟨b, o + 0, none⟩)) w := by go_simp
theorem fk_seneschallaw15_world_1 (b o : Nat) (w : World) : (Instr.fieldAt 55 (.pointer (some ⟨b, o, none⟩)) 1).run Try.prog w = .ok (.pointer (some ⟨b, o + 1, none⟩)) w := by go_simp
theorem fk_seneschallaw15_world_2 (b o : Nat) (w : World) : (Instr.fieldAt 55 (.pointer (some ⟨b, o, none⟩)) 2).run Try.prog w = .ok (.pointer (some ⟨b, o + 2, none⟩)) w := by go_simp
theorem fk_seneschallaw15_world_3 (b o : Nat) (w : World) : (Instr.fieldAt 55 (.pointer (some ⟨b, o, none⟩)) 3).run Try.prog w = .ok (.pointer (some ⟨b, o + 3, none⟩)) w := by go_simp
theorem fk_seneschallaw15_world_4 (b o : Nat) (w : World) : (Instr.fieldAt 55 (.pointer (some ⟨b, o, none⟩)) 4).run Try.prog w = .ok (.pointer (some ⟨b, o + 4, none⟩)) w := by go_simp
theorem fk_seneschallaw15_world_5 (b o : Nat) (w : World) : (Instr.fieldAt 55 (.pointer (some ⟨b, o, none⟩)) 5).run Try.prog w = .ok (.pointer (some ⟨b, o + 5, none⟩)) w := by go_simp
theorem fk_seneschallaw15_world_6 (b o : Nat) (w : World) : (Instr.fieldAt 55 (.pointer (some ⟨b, o, none⟩)) 6).run Try.prog w = .ok (.pointer (some ⟨b, o + 6, none⟩)) w := by go_simp
theorem fk_seneschallaw15_Move_0 (b o : Nat) (w : World) : (Instr.fieldAt 80 (.pointer (some ⟨b, o, none⟩)) 0).run Try.prog w = .ok (.pointer (some ⟨b, o + 0, none⟩)) w := by go_simp
theorem fk_seneschallaw15_Move_1 (b o : Nat) (w : World) : (Instr.fieldAt 80 (.pointer (some ⟨b, o, none⟩)) 1).run Try.prog w = .ok (.pointer (some ⟨b, o + 1, none⟩)) w := by go_simp
theorem fk_seneschallaw15_Move_2 (b o : Nat) (w : World) : (Instr.fieldAt 80 (.pointer (some ⟨b, o, none⟩)) 2).run Try.prog w = .ok (.pointer (some ⟨b, o + 2, none⟩)) w := by go_simp
theorem fk_seneschallaw15_Move_3 (b o : Nat) (w : World) : (Instr.fieldAt 80 (.pointer (some ⟨b, o, none⟩)) 3).run Try.prog w = .ok (.pointer (some ⟨b, o + 3, none⟩)) w := by go_simp
theorem fk_seneschallaw15_Move_4 (b o : Nat) (w : World) : (Instr.fieldAt 80 (.pointer (some ⟨b, o, none⟩)) 4).run Try.prog w = .ok (.pointer (some ⟨b, o + 4, none⟩)) w := by go_simp
theorem fk_seneschallaw15_Move_5 (b o : Nat) (w : World) : (Instr.fieldAt 80 (.pointer (some ⟨b, o, none⟩)) 5).run Try.prog w = .ok (.pointer (some ⟨b, o + 5, none⟩)) w := by go_simp
theorem ent__cast_counts__of (vs : Array Value) (w : World) : (callFunc 32 vs).run Try.prog w = .ok (.enter 32 vs) w := by kernel_rfl
theorem ent__cast_counts__add (vs : Array Value) (w : World) : (callFunc 38 vs).run Try.prog w = .ok (.enter 38 vs) w := by kernel_rfl
theorem ent___cast_choice__choose (vs : Array Value) (w : World) : (callFunc 33 vs).run Try.prog w = .ok (.enter 33 vs) w := by kernel_rfl
theorem ent___cast_Node__isMade (vs : Array Value) (w : World) : (callFunc 28 vs).run Try.prog w = .ok (.enter 28 vs) w := by kernel_rfl
theorem ent___cast_Node__mayBe (vs : Array Value) (w : World) : (callFunc 29 vs).run Try.prog w = .ok (.enter 29 vs) w := by kernel_rfl
theorem ent___cast_Node__count (vs : Array Value) (w : World) : (callFunc 30 vs).run Try.prog w = .ok (.enter 30 vs) w := by kernel_rfl
theorem ent___cast_Node__callsForReady (vs : Array Value) (w : World) : (callFunc 34 vs).run Try.prog w = .ok (.enter 34 vs) w := by kernel_rfl
theorem ent___cast_Node__send (vs : Array Value) (w : World) : (callFunc 31 vs).run Try.prog w = .ok (.enter 31 vs) w := by kernel_rfl
theorem ent___cast_Node__Take (vs : Array Value) (w : World) : (callFunc 14 vs).run Try.prog w = .ok (.enter 14 vs) w := by kernel_rfl
theorem ent___cast_Node__Value (vs : Array Value) (w : World) : (callFunc 16 vs).run Try.prog w = .ok (.enter 16 vs) w := by kernel_rfl
theorem ent___cast_Node__Start (vs : Array Value) (w : World) : (callFunc 12 vs).run Try.prog w = .ok (.enter 12 vs) w := by kernel_rfl
theorem ent_cast_Make (vs : Array Value) (w : World) : (callFunc 9 vs).run Try.prog w = .ok (.enter 9 vs) w := by kernel_rfl
theorem ent_cast_isNode (vs : Array Value) (w : World) : (callFunc 26 vs).run Try.prog w = .ok (.enter 26 vs) w := by kernel_rfl
theorem ent_seneschalbase_Among (vs : Array Value) (w : World) : (callFunc 19 vs).run Try.prog w = .ok (.enter 19 vs) w := by kernel_rfl
theorem ent___seneschallaw15_world__all (vs : Array Value) (w : World) : (callFunc 21 vs).run Try.prog w = .ok (.enter 21 vs) w := by kernel_rfl
theorem ent___seneschallaw15_world__hand (vs : Array Value) (w : World) : (callFunc 37 vs).run Try.prog w = .ok (.enter 37 vs) w := by kernel_rfl
theorem ent___seneschallaw15_world__play (vs : Array Value) (w : World) : (callFunc 22 vs).run Try.prog w = .ok (.enter 22 vs) w := by kernel_rfl
theorem ent___seneschallaw15_world__agree (vs : Array Value) (w : World) : (callFunc 25 vs).run Try.prog w = .ok (.enter 25 vs) w := by kernel_rfl
theorem ent___seneschallaw15_world__finish (vs : Array Value) (w : World) : (callFunc 23 vs).run Try.prog w = .ok (.enter 23 vs) w := by kernel_rfl
theorem ent___seneschallaw15_world__delivered (vs : Array Value) (w : World) : (callFunc 24 vs).run Try.prog w = .ok (.enter 24 vs) w := by kernel_rfl
theorem ent_seneschallaw15_made (vs : Array Value) (w : World) : (callFunc 20 vs).run Try.prog w = .ok (.enter 20 vs) w := by kernel_rfl
theorem ent_seneschallaw15_works (vs : Array Value) (w : World) : (callFunc 11 vs).run Try.prog w = .ok (.enter 11 vs) w := by kernel_rfl
end Go.Proofs.Ythncmahhnbpbkaa
