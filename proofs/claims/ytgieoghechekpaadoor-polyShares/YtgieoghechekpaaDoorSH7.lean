import Derived.Test.YtgieoghechekpaaDoorN1
namespace Go.Proofs.YtgieoghechekpaaDoor
set_option linter.unusedVariables false
set_option linter.unusedSimpArgs false
set_option maxRecDepth 100000
set_option maxHeartbeats 4000000
open Go.RowKit
theorem SB.below{w w':World}{m g o:Nat}{xs:List Nat}(h:SB w g o xs)(hb:Below m w w')(hg:g<m):SB w' g o xs:=fun j hj=>(hb.cell (p:=⟨g,o+j,none⟩) hg).trans (h j hj)
end Go.Proofs.YtgieoghechekpaaDoor
