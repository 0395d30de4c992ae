/- The law ShaWhole. -/

import Derived.Test.YtlcjbnhfmcnnfaaDoorSW
import Derived.Test.YtlcjbnhfmcnnfaaDoorSQ
import Derived.Laws.BytesArg
namespace Go.Proofs.YtlcjbnhfmcnnfaaDoor
open Go.RowKit
set_option linter.unusedVariables false
set_option linter.unusedSimpArgs false
theorem neq_same (T : TypeId) (p q : Operand) (k : IntKind) (x : Int) (w : World) : (do eqGuard .neq T p q (.int k x) (.int k x); binOp .neq T (.int k x) (.int k x) : Sem Value).run Tryd.prog w = .ok (.bool false) w := by go_simp
theorem neq_str (T : TypeId) (p q : Operand) (s : ByteArray) (w : World) : (do eqGuard .neq T p q (.string s) (.string s); binOp .neq T (.string s) (.string s) : Sem Value).run Tryd.prog w = .ok (.bool false) w := by go_simp
def strB (ys : List Nat) : ByteArray := strOfNums (ys.map fun (x : Nat) => (x : Int))
theorem SB.take {w : World} {g o : Nat} {xs : List Nat} (h : SB w g o xs) (n : Nat) : SB w g o (xs.take n) := fun j hj => by
  have hj2 : j < n ∧ j < xs.length := by rw [List.length_take] at hj; omega
  rw [h j hj2.2, List.getD_eq_getElem?_getD, List.getD_eq_getElem?_getD, List.getElem?_take_of_lt hj2.1]
theorem cvS {o : Oper} {ev : Operand → Value} {x : Operand} {sl : Option Addr} {n cap : Nat} (ys : List Nat) (u : World) (hl : ys.length = n) (hc : n = 0 ∨ ∃ b off, sl = some ⟨b, off, none⟩ ∧ SB u b off ys) (ho : o.op = .convert 24 9 x) (hx : ev x = .slice sl n cap) : (execOp ev o).run Tryd.prog u = .ok (.value (.string (strB ys))) u := by
  have e : (convert 24 9 (.slice sl n cap)).run Tryd.prog u = .ok (.string (strB ys)) u := by
    rcases hc with h0 | ⟨b, off, rfl, hs⟩
    · subst hl
      have hy : ys = [] := List.length_eq_zero_iff.1 h0
      subst hy
      rw [run_convert_bytes_string u 24 9 5 _ _ cap Tryd.underlying24 Tryd.underlying5 Tryd.underlying9]
      cases sl <;> simp [Conv.bytesToString, loadCells, strB, strOfNums] <;> rfl
    · exact run_convert_bytes_arg u 24 5 Tryd.underlying24 Tryd.underlying5 b off n cap _ (by rw [List.length_map]; exact hl) (fun i hi => by
        rw [hs i (by omega), List.getD_eq_getElem?_getD, List.getD_eq_getElem?_getD, List.getElem?_map, List.getElem?_eq_getElem (by omega)]; rfl) 9 Tryd.underlying9
  unfold execOp; rw [ho]; simp only [hx, Sem.run_bind, e, Result.andThen_ok, Sem.run_pure]
section
variable {R : Rg} {P : Program} {ops : Array Oper} {Q : Exit → Act → World → Prop} {f : Nat → Bool} {t : Nat → Value} {u : World} {a : Act} {i : Nat} {o : Oper}
/-- An operation that reads what is known of the memory. -/
theorem g_ko {v : Value} (h : ∀ (f : Nat → Bool) (ev : Operand → Value) (u : World), KC f u R.lo R.base R.es → Below R.lo R.w u → (∀ x y, evR R i o x = some y → ev x = y) → (execOp ev o).run P u = .ok (.value v) u) (hv : some v = pickV i R.G := by rfl) (hc : R.chk ops i o = true := by rfl) : OG R P ops Q i o :=
  g_pure hv hc fun f t u a X K hK => wp_val (h f a.eval u X.I.2.1 X.I.1.bel (fun x y hxy => X.ev hxy)) hK
end
end Go.Proofs.YtlcjbnhfmcnnfaaDoor
