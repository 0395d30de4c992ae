import Derived.Test.YtmoimodkopjeeaaGreatDoorSH1
namespace Go.Proofs.YtmoimodkopjeeaaGreatDoor
set_option linter.unusedVariables false
set_option linter.unusedSimpArgs false
set_option maxRecDepth 100000
set_option maxHeartbeats 4000000
open Go.RowKit
theorem SB.below{w w':World}{m g o:Nat}{xs:List Nat}(h:SB w g o xs)(hb:Below m w w')(hg:g<m):SB w' g o xs:=fun j hj=>(hb.cell (p:=⟨g,o+j,none⟩) hg).trans (h j hj)
theorem CV.sb{w:World}{b:Nat}{xs:List Nat}(h:CV w b (U8 xs)):SB w b 0 xs:=fun j hj=>by rw[Nat.zero_add];exact(h j _ (Yn xs j hj)).1
end Go.Proofs.YtmoimodkopjeeaaGreatDoor
