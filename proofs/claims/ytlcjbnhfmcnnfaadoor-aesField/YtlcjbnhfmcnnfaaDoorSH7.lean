/- SHA-256: a digest goes on with bytes. -/

import Derived.Test.YtlcjbnhfmcnnfaaDoorSH6
namespace Go.Proofs.YtlcjbnhfmcnnfaaDoor
open Go.RowKit
set_option linter.unusedVariables false
set_option linter.unusedSimpArgs false
theorem SB.below {w w' : World} {m g o : Nat} {xs : List Nat} (h : SB w g o xs) (hb : Below m w w') (hg : g < m) : SB w' g o xs := fun j hj => (hb.cell (p := ⟨g, o + j, none⟩) hg).trans (h j hj)
theorem CV.sb {w : World} {b : Nat} {xs : List Nat} (h : CV w b (U8 xs)) : SB w b 0 xs := fun j hj => by rw [Nat.zero_add]; exact (h j _ (U8_get xs j hj)).1
end Go.Proofs.YtlcjbnhfmcnnfaaDoor
