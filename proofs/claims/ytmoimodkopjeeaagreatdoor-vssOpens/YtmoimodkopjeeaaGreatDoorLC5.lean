import Derived.Test.YtmoimodkopjeeaaGreatDoorCTP
namespace Go.Proofs.YtmoimodkopjeeaaGreatDoor
set_option linter.unusedVariables false
set_option linter.unusedSimpArgs false
set_option maxRecDepth 100000
set_option maxHeartbeats 4000000
open Go.RowKit
theorem W3:EnT 81:=fun _ _=>by kernel_rfl
end Go.Proofs.YtmoimodkopjeeaaGreatDoor
