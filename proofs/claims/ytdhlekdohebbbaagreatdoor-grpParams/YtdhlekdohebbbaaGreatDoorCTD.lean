import Derived.Test.YtdhlekdohebbbaaGreatDoorCTA
namespace Go.Proofs.YtdhlekdohebbbaaGreatDoor
set_option linter.unusedVariables false
set_option linter.unusedSimpArgs false
set_option maxRecDepth 100000
set_option maxHeartbeats 4000000
open Go.RowKit
theorem smB_iff{x:Int}:smB x=true↔Sm x:=by simp[smB]
theorem crB_pr{cs:List (Int×Int×Int)}(hin: ∀j,j<cs.length->In (cat cs j).1/\In (cat cs j).2.1/\In (cat cs j).2.2): ∀k,k<cs.length->crB cs (k+1)=true->Pr (cat cs k).1.toNat
 | 0,hk,h=>by
  rw[crB,Bool.and_eq_true,Bool.and_eq_true] at h
  have hs:smB (cat cs 0).2.1=true:=h.2.1
  exact(stB_iff.1 h.2.2).pr (hin 0 hk).2.2.1 (smB_iff.1 hs).pr
 | k+1,hk,h=>by
  rw[crB,Bool.and_eq_true,Bool.and_eq_true] at h
  have ih:=crB_pr hin k (by omega) h.1
  have e:(cat cs (k+1)).2.1=(cat cs k).1:=by have:=h.2.1;rw[knB] at this;simpa using this
  exact(stB_iff.1 h.2.2).pr (hin (k+1) hk).2.2.1 (by rw[e];exact ih)
theorem cfB_pr{cs:List (Int×Int×Int)}(hin: ∀j,j<cs.length->In (cat cs j).1/\In (cat cs j).2.1/\In (cat cs j).2.2)(h:cfB cs=true):0<cs.length/\Pr (cat cs (cs.length -1)).1.toNat:=by
 rw[cfB,Bool.and_eq_true] at h
 have h0:0<cs.length:=by simpa using h.2
 refine⟨h0,crB_pr hin _ (by omega) ?_⟩
 rw[show cs.length -1+1=cs.length by omega];exact h.1
end Go.Proofs.YtdhlekdohebbbaaGreatDoor
