/- Texts: their lengths, cuts and beginnings. -/
import Derived.Test.YtbgdcgboomdimaaDoorME2
namespace Go.Proofs.YtbgdcgboomdimaaDoor
open Go.RowKit
set_option linter.unusedVariables false
set_option linter.unusedSimpArgs false
theorem ent_seneschalbase_Begins (vs : Array Value) (w : World) : (callFunc 38 vs).run Tryd.prog w = .ok (.enter 38 vs) w := by kernel_rfl
section
variable {R : Rg} {P : Program} {ops : Array Oper} {Q : Exit → Act → World → Prop} {f : Nat → Bool} {t : Nat → Value} {u : World} {a : Act} {i : Nat} {o : Oper}
/-- The length of a text. -/
theorem g_lnS {x : Operand} {T : TypeId} {s : ByteArray} (hT : P.underlying T = some .string) (hop : o.op = .call { callee := .builtin .len, args := [x].toArray, argTypes := [T].toArray } := by rfl) (hx : evR R i o x = some (.string s) := by rfl) (hv : some (.int .i64 (s.size : Int)) = pickV i R.G := by rfl) (hc : R.chk ops i o = true := by rfl) : OG R P ops Q i o :=
  g_pure hv hc fun f t u a X K hK => by
    have h1 := X.ev hx
    refine wp_val (v := .int .i64 (s.size : Int)) (w' := u) ?_ hK
    unfold execOp
    simp only [hop, resolve, invoke, builtin, Sem.run_bind, Sem.run_pure, Result.andThen_ok, List.map_toArray, List.map_cons, List.map_nil, h1]
    simp [Builtin.len_, goInt, run_underlying hT]
end
theorem eql_i (T : TypeId) (p q : Operand) (x y : Int) (b : Bool) (w : World) (h : (x == y) = b) : (do eqGuard .eql T p q (.int .i64 x) (.int .i64 y); binOp .eql T (.int .i64 x) (.int .i64 y) : Sem Value).run Tryd.prog w = .ok (.bool b) w := by
  subst h; go_simp
theorem slStr (s : ByteArray) (k : Nat) (h : k ≤ s.size) (w : World) : (Instr.sliceAt 9 (.string s) none (some (.int .i64 (k : Int))) none).run Tryd.prog w = .ok (.string (s.extract 0 k)) w := by
  have h2 : (k : Int) ≤ s.size := by omega
  go_simp
theorem strB_take {xs : List Nat} (n : Nat) (hn : n ≤ xs.length) : (strB xs).extract 0 n = strB (xs.take n) := by
  apply ByteArray.ext
  rw [ByteArray.data_extract]
  apply Array.ext'
  rw [Array.toList_extract]
  simp [strB, strOfNums, List.map_take]
set_option maxRecDepth 100000 in
theorem cBegins (s t : ByteArray) (w : World) (h1 : t.size ≤ s.size) (h2 : s.extract 0 t.size = t) :
    Calls Tryd.prog 38 #[.string s, .string t] w fun e w' => e = .returned (.bool true) ∧ Below w.heap.size w w' := by
  have h3 : (t.size : Int) ≤ s.size := by omega
  have h4 : (s.extract 0 t.size).toList = t.toList := by rw [h2]
  go_enter Tryd.func38, Tryd.ntmps38
  go_wp2
  go_ret
  exact ⟨rfl, Below.refl _ _⟩
end Go.Proofs.YtbgdcgboomdimaaDoor
