/- SHA-256: the digest's state, block by block. -/
import Derived.Test.YtbgdcgboomdimaaDoorSHB
namespace Go.Proofs.YtbgdcgboomdimaaDoor
set_option linter.unusedVariables false
set_option linter.unusedSimpArgs false
end Go.Proofs.YtbgdcgboomdimaaDoor
