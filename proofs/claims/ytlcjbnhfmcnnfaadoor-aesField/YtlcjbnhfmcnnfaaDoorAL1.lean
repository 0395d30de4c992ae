/- The law AesTimes: its walk. -/
import Derived.Test.YtlcjbnhfmcnnfaaDoorAH
namespace Go.Proofs.YtlcjbnhfmcnnfaaDoor
open Go.RowKit
set_option linter.unusedVariables false
set_option linter.unusedSimpArgs false
end Go.Proofs.YtlcjbnhfmcnnfaaDoor
