/- What is expanded: the walk. -/
import Derived.Test.YtbgdcgboomdimaaDoorME0
namespace Go.Proofs.YtbgdcgboomdimaaDoor
open Go.RowKit
set_option linter.unusedVariables false
set_option linter.unusedSimpArgs false
end Go.Proofs.YtbgdcgboomdimaaDoor
