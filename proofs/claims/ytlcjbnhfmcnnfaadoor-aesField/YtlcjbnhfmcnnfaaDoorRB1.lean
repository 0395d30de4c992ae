/- The reference's small functions. -/
import Derived.Test.YtlcjbnhfmcnnfaaDoorRB0
namespace Go.Proofs.YtlcjbnhfmcnnfaaDoor
open Go.RowKit
set_option linter.unusedVariables false
set_option linter.unusedSimpArgs false
end Go.Proofs.YtlcjbnhfmcnnfaaDoor
