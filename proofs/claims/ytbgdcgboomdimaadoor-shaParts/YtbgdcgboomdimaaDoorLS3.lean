/- The law ShaWhole. -/

import Derived.Test.YtbgdcgboomdimaaDoorSW
import Derived.Test.YtbgdcgboomdimaaDoorSQ
import Derived.Laws.BytesArg
namespace Go.Proofs.YtbgdcgboomdimaaDoor
open Go.RowKit
set_option linter.unusedVariables false
set_option linter.unusedSimpArgs false
theorem SB.take {w : World} {g o : Nat} {xs : List Nat} (h : SB w g o xs) (n : Nat) : SB w g o (xs.take n) := fun j hj => by
  have hj2 : j < n ∧ j < xs.length := by rw [List.length_take] at hj; omega
  rw [h j hj2.2, List.getD_eq_getElem?_getD, List.getD_eq_getElem?_getD, List.getElem?_take_of_lt hj2.1]
section
variable {R : Rg} {P : Program} {ops : Array Oper} {Q : Exit → Act → World → Prop} {f : Nat → Bool} {t : Nat → Value} {u : World} {a : Act} {i : Nat} {o : Oper}
end
end Go.Proofs.YtbgdcgboomdimaaDoor
