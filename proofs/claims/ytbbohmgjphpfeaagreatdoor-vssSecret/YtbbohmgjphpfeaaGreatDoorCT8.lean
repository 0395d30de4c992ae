import Derived.Test.YtbbohmgjphpfeaaGreatDoorAP7
namespace Go.Proofs.YtbbohmgjphpfeaaGreatDoor
set_option linter.unusedVariables false
set_option linter.unusedSimpArgs false
set_option maxRecDepth 100000
set_option maxHeartbeats 4000000
section
open Go.RowKit
theorem bdX(x:Int)(h0:0<=x)(h1:x<18446744073709551616)(w:World):(Instr.build 24 [(0,.int .u64 x)].toArray).run Tryz.prog w= .ok (NV x) w:=by
 rw[Vn h0 h1];kernel_rfl
theorem Sm.not{x d:Int}(h2:2<=d)(hd:d<x)(hr:x%d=0): ¬Sm x:=fun h=>by
 have hp:=h.pr
 have:d.toNat∣x.toNat:=by
  have e:(d:Int)∣x:=Int.dvd_of_emod_eq_zero hr
  rw[<-Int.toNat_of_nonneg (show 0<=d by omega),<-Int.toNat_of_nonneg (show 0<=x by omega)] at e
  exact Int.ofNat_dvd.1 e
 rcases hp.2 _ this with e | e<;>omega
theorem V2(n m:Int)(w:World)(hn:In n)(hm:In m):CC 65 #[NV n,NV m] w (.int .i64 (cmpI n m)):=by
 have k:=Wz _ _ _ _ _ _ _ _ w (W_D0 n) (W_D1 n) (W_D2 n) (W_D3 n) (W_D0 m) (W_D1 m) (W_D2 m) (W_D3 m)
 simp only[V_In hn,V_In hm] at k
 exact k
theorem ent_seneschalref01_Compare:EnT 65:=fun _ _=>by kernel_rfl
theorem D0_odd(n:Int):D0 n%2=n%2:=by unfold D0;omega
theorem cmp_lt0(n m:Int):decide (cmpI n m<0)=decide (n<m):=by
 unfold cmpI;split
 ·simp[*]
 ·split<;>simp[*]<;>omega
end
section
open Go.ChangeShapes Go.WideShapes Go.ChangeAt Go.RowKit
abbrev GE(p q g h:Int):List Value:=[.int .u64 (D0 p),.int .u64 (D1 p),.int .u64 (D2 p),.int .u64 (D3 p),.int .u64 (D0 q),.int .u64 (D1 q),.int .u64 (D2 q),.int .u64 (D3 q),.int .u64 (D0 g),.int .u64 (D1 g),.int .u64 (D2 g),.int .u64 (D3 g),.int .u64 (D0 h),.int .u64 (D1 h),.int .u64 (D2 h),.int .u64 (D3 h)]
abbrev GX(p q g h:Int):Value:= .agg #[.int .u64 (D0 p),.int .u64 (D1 p),.int .u64 (D2 p),.int .u64 (D3 p),.int .u64 (D0 q),.int .u64 (D1 q),.int .u64 (D2 q),.int .u64 (D3 q),.int .u64 (D0 g),.int .u64 (D1 g),.int .u64 (D2 g),.int .u64 (D3 g),.int .u64 (D0 h),.int .u64 (D1 h),.int .u64 (D2 h),.int .u64 (D3 h)]
theorem flC_at: ∀(cs:List (Int×Int×Int)) (j:Nat) (v:Value),(flC cs)[j]?=some v->j/12<cs.length/\(CE (cat cs (j/12)).1 (cat cs (j/12)).2.1 (cat cs (j/12)).2.2)[j%12]?=some v
 | [],j,v,h=>by simp[flC] at h
 | n::r,j,v,h=>by
  rw[flC] at h
  by_cases hj:j<12
  ·rw[List.getElem?_append_left (by show j<12;exact hj)] at h
   rw[show j/12=0 by omega,show j%12=j by omega]
   exact⟨by simp,by simpa [cat] using h⟩
  ·rw[List.getElem?_append_right (by show 12<=j;omega)] at h
   have h:(flC r)[j -12]?=some v:=h
   have:=flC_at r (j -12) v h
   rw[show j/12=(j -12)/12+1 by omega,show j%12=(j -12)%12 by omega]
   exact⟨by simpa using this.1,by simpa [cat] using this.2⟩
theorem SCt.of{w:World}{g o:Nat}{cs:List (Int×Int×Int)}(h: ∀i,i<cs.length-> ∀c v,(CE (cat cs i).1 (cat cs i).2.1 (cat cs i).2.2)[c]?=some v->w.cell? ⟨g,o+(i*12+c),none⟩=some v):SCt w g o cs:=fun j v hj=>by
 obtain⟨h1,h2⟩:=flC_at cs j v hj
 have:=h _ h1 _ v h2
 rwa [show j/12*12+j%12=j by omega] at this
end
end Go.Proofs.YtbbohmgjphpfeaaGreatDoor
