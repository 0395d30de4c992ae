import Derived.Test.YtgieoghechekpaaGreatDoorN1
namespace Go.Proofs.YtgieoghechekpaaGreatDoor
set_option linter.unusedVariables false
set_option linter.unusedSimpArgs false
set_option maxRecDepth 100000
set_option maxHeartbeats 4000000
open Go.RowKit
theorem W_shr(x:Int)(n:Nat)(hx:W64 x):W64 (x/2^n):=by
 obtain⟨x1,x2⟩:=hx
 have p:(0:Int)<2^n:=Int.pow_pos (by omega)
 have h1:0<=x/2^n:=Int.ediv_nonneg x1 (by omega)
 have h2:x/2^n<=x:=Int.ediv_le_self _ x1
 exact⟨h1,by omega⟩
end Go.Proofs.YtgieoghechekpaaGreatDoor
