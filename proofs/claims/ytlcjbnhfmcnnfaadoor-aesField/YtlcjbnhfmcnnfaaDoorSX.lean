/- Rows of words and of bytes that came in as arrays. -/
import Derived.Test.YtlcjbnhfmcnnfaaDoorSY
import Derived.Test.YtlcjbnhfmcnnfaaDoorSMX
import Derived.WideKeyArr2
namespace Go.Proofs.YtlcjbnhfmcnnfaaDoor
open Go.ChangeShapes Go.WideShapes Go.ChangeAt Go.RowKit
set_option linter.unusedVariables false
set_option linter.unusedSimpArgs false
end Go.Proofs.YtlcjbnhfmcnnfaaDoor
