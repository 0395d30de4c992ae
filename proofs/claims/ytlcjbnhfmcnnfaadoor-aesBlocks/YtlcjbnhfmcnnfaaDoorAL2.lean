/- The laws AesBack and AesApart: their walks. -/
import Derived.Test.YtlcjbnhfmcnnfaaDoorAL1
import Derived.Test.YtlcjbnhfmcnnfaaDoorAQ
namespace Go.Proofs.YtlcjbnhfmcnnfaaDoor
open Go.RowKit
set_option linter.unusedVariables false
set_option linter.unusedSimpArgs false
theorem BY.mem {n : Nat} {l : List Nat} (h : BY n l) : ∀ x ∈ l, x < 256 := fun x hx => by
  obtain ⟨j, hj, rfl⟩ := List.getElem_of_mem hx
  have := h.lt j
  rwa [List.getD_eq_getElem?_getD, List.getElem?_eq_getElem hj] at this
end Go.Proofs.YtlcjbnhfmcnnfaaDoor
