import Derived.Test.YtknpepgonhdbgaaGreatDoorCT3
import Derived.Test.YtknpepgonhdbgaaGreatDoorU5
namespace Go.Proofs.YtknpepgonhdbgaaGreatDoor
set_option linter.unusedVariables false
set_option linter.unusedSimpArgs false
set_option maxRecDepth 100000
set_option maxHeartbeats 4000000
open Go.RowKit
theorem CV.nil (u:World) (b:Nat):CV u b []:=fun j v hj=>by simp at hj
end Go.Proofs.YtknpepgonhdbgaaGreatDoor
