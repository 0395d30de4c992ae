/- SHA-256: the digest of parts. -/

import Derived.Test.YtlcjbnhfmcnnfaaDoorSN
namespace Go.Proofs.YtlcjbnhfmcnnfaaDoor
open Go.RowKit
set_option linter.unusedVariables false
set_option linter.unusedSimpArgs false
theorem GVf {w : World} (h : GV w) : ∀ j v, (U32 fst8)[j]? = some v → w.cell? ⟨1, j, none⟩ = some v := fun j v hj => by
  have hl : j < 8 := by have := (List.getElem?_eq_some_iff.1 hj).1; rwa [U32_len] at this
  rw [U32_get fst8 j hl] at hj
  cases hj
  exact h.f j hl
end Go.Proofs.YtlcjbnhfmcnnfaaDoor
