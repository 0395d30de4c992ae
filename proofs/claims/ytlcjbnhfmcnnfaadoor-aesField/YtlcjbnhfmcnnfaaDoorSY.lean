/- SHA-256: what the two variables and the bytes that come in read as. -/
import Derived.Test.YtlcjbnhfmcnnfaaDoorSMX
import Derived.Test.YtlcjbnhfmcnnfaaDoorTie
import Derived.Test.YtlcjbnhfmcnnfaaDoorCards
import Derived.ProofKit
import Derived.LaidMore
import Derived.OpenShut
import Derived.Stop.Joined
import Derived.SevenTiedAt
import Derived.Deep.Slices
namespace Go.Proofs.YtlcjbnhfmcnnfaaDoor
open Go.ChangeShapes Go.WideShapes Go.ChangeAt Go.RowKit
set_option linter.unusedVariables false
set_option linter.unusedSimpArgs false
theorem own4 : ownKnob Tryd.prog.godebug = none := by kernel_rfl
theorem laid4 : laidOutB Tryd.prog = true := by kernel_rfl
theorem cells8 : Tryd.prog.cellsOf 5 = 1 := by kernel_rfl
end Go.Proofs.YtlcjbnhfmcnnfaaDoor
