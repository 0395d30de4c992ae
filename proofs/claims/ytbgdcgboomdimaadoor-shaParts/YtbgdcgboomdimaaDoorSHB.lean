/- SHA-256: what is hashed: bytes and what is put behind them. -/

import Derived.Test.YtbgdcgboomdimaaDoorSH9
namespace Go.Proofs.YtbgdcgboomdimaaDoor
open Go.RowKit
set_option linter.unusedVariables false
set_option linter.unusedSimpArgs false
section
variable {R : Rg} {P : Program} {ops : Array Oper} {Q : Exit → Act → World → Prop} {f : Nat → Bool} {t : Nat → Value} {u : World} {a : Act} {i : Nat} {o : Oper}
end
end Go.Proofs.YtbgdcgboomdimaaDoor
