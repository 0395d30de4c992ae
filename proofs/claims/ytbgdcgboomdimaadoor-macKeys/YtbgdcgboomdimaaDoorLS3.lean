/- The law ShaWhole. -/

import Derived.Test.YtbgdcgboomdimaaDoorSW
import Derived.Test.YtbgdcgboomdimaaDoorSQ
import Derived.Laws.BytesArg
namespace Go.Proofs.YtbgdcgboomdimaaDoor
open Go.RowKit
set_option linter.unusedVariables false
set_option linter.unusedSimpArgs false
theorem SB.take {w : World} {g o : Nat} {xs : List Nat} (h : SB w g o xs) (n : Nat) : SB w g o (xs.take n) := fun j hj => by
  have hj2 : j < n ∧ j < xs.length := by rw [List.length_take] at hj; omega
  rw [h j hj2.2, List.getD_eq_getElem?_getD, List.getD_eq_getElem?_getD, List.getElem?_take_of_lt hj2.1]
section
variable {R : Rg} {P : Program} {ops : Array Oper} {Q : Exit → Act → World → Prop} {f : Nat → Bool} {t : Nat → Value} {u : World} {a : Act} {i : Nat} {o : Oper}
end
theorem al__64_uint8 (w : World) : (Instr.alloc 33 true (.tuple #[])).run Tryd.prog w = .ok (.pointer (some ⟨w.heap.size, 0, none⟩)) (w.alloc (.cells (U8 z64).toArray 33)) := by kernel_rfl
theorem x64b (b k : Nat) (w : World) (h : k < 64) : (Instr.indexAt 33 (.pointer (some ⟨b, 0, none⟩)) (.int .i64 k)).run Tryd.prog w = .ok (.pointer (some ⟨b, k, none⟩)) w := by
  have h2 : (k : Int) < 64 := by omega
  go_simp
end Go.Proofs.YtbgdcgboomdimaaDoor
