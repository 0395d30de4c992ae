import Derived.Test.YtdhlekdohebbbaaGreatDoorRows
import Derived.Test.YtdhlekdohebbbaaGreatDoorCT3
import Derived.Lib.SmallJoins
namespace Go.Proofs.YtdhlekdohebbbaaGreatDoor
set_option linter.unusedVariables false
set_option linter.unusedSimpArgs false
set_option maxRecDepth 100000
set_option maxHeartbeats 4000000
open Go.ChangeShapes Go.WideShapes Go.ChangeAt Go.RowKit
abbrev GE(p q g h:Int):List Value:=[iU (D0 p),iU (D1 p),iU (D2 p),iU (D3 p),iU (D0 q),iU (D1 q),iU (D2 q),iU (D3 q),iU (D0 g),iU (D1 g),iU (D2 g),iU (D3 g),iU (D0 h),iU (D1 h),iU (D2 h),iU (D3 h)]
abbrev GX(p q g h:Int):Value:= .agg #[iU (D0 p),iU (D1 p),iU (D2 p),iU (D3 p),iU (D0 q),iU (D1 q),iU (D2 q),iU (D3 q),iU (D0 g),iU (D1 g),iU (D2 g),iU (D3 g),iU (D0 h),iU (D1 h),iU (D2 h),iU (D3 h)]
theorem flC_at: ∀(cs:List (Int×Int×Int)) (j:Nat) (v:Value),(flC cs)[j]?=some v->j/12<cs.length/\(CE (cat cs (j/12)).1 (cat cs (j/12)).2.1 (cat cs (j/12)).2.2)[j%12]?=some v
 | [],j,v,h=>by simp[flC] at h
 | n::r,j,v,h=>by
  rw[flC] at h
  by_cases hj:j<12
  ·rw[List.getElem?_append_left (by show j<12;exact hj)] at h
   rw[show j/12=0 by omega,show j%12=j by omega]
   exact⟨by simp,by simpa [cat] using h⟩
  ·rw[List.getElem?_append_right (by show 12<=j;omega)] at h
   have h:(flC r)[j -12]?=some v:=h
   have:=flC_at r (j -12) v h
   rw[show j/12=(j -12)/12+1 by omega,show j%12=(j -12)%12 by omega]
   exact⟨by simpa using this.1,by simpa [cat] using this.2⟩
theorem SCt.of{w:World}{g o:Nat}{cs:List (Int×Int×Int)}(h: ∀i,i<cs.length-> ∀c v,(CE (cat cs i).1 (cat cs i).2.1 (cat cs i).2.2)[c]?=some v->w.cell? ⟨g,o+(i*12+c),none⟩=some v):SCt w g o cs:=fun j v hj=>by
 obtain⟨h1,h2⟩:=flC_at cs j v hj
 have:=h _ h1 _ v h2
 rwa [show j/12*12+j%12=j by omega] at this
end Go.Proofs.YtdhlekdohebbbaaGreatDoor
