import Derived.Test.YtmoimodkopjeeaaGreatDoorCTA
namespace Go.Proofs.YtmoimodkopjeeaaGreatDoor
set_option linter.unusedVariables false
set_option linter.unusedSimpArgs false
set_option maxRecDepth 100000
set_option maxHeartbeats 4000000
section
open Go.RowKit
theorem smB_iff{x:Int}:smB x=true↔Sm x:=by simp[smB]
theorem crB_pr{cs:List (Int×Int×Int)}(hin: ∀j,j<cs.length->In (cat cs j).1/\In (cat cs j).2.1/\In (cat cs j).2.2): ∀k,k<cs.length->crB cs (k+1)=true->Pr (cat cs k).1.toNat
 | 0,hk,h=>by
  rw[crB,Bool.and_eq_true,Bool.and_eq_true] at h
  have hs:smB (cat cs 0).2.1=true:=h.2.1
  exact(stB_iff.1 h.2.2).pr (hin 0 hk).2.2.1 (smB_iff.1 hs).pr
 | k+1,hk,h=>by
  rw[crB,Bool.and_eq_true,Bool.and_eq_true] at h
  have ih:=crB_pr hin k (by omega) h.1
  have e:(cat cs (k+1)).2.1=(cat cs k).1:=by have:=h.2.1;rw[knB] at this;simpa using this
  exact(stB_iff.1 h.2.2).pr (hin (k+1) hk).2.2.1 (by rw[e];exact ih)
theorem cfB_pr{cs:List (Int×Int×Int)}(hin: ∀j,j<cs.length->In (cat cs j).1/\In (cat cs j).2.1/\In (cat cs j).2.2)(h:cfB cs=true):0<cs.length/\Pr (cat cs (cs.length -1)).1.toNat:=by
 rw[cfB,Bool.and_eq_true] at h
 have h0:0<cs.length:=by simpa using h.2
 refine⟨h0,crB_pr hin _ (by omega) ?_⟩
 rw[show cs.length -1+1=cs.length by omega];exact h.1
theorem bdX(x:Int)(h0:0<=x)(h1:x<18446744073709551616)(w:World):(Instr.build 24 [(0,iU x)].toArray).run Tryz.prog w= .ok (NV x) w:=by
 rw[Xt h0 h1];kernel_rfl
theorem Sm.not{x d:Int}(h2:2<=d)(hd:d<x)(hr:x%d=0): ¬Sm x:=fun h=>by
 have hp:=h.pr
 have:d.toNat∣x.toNat:=by
  have e:(d:Int)∣x:=Int.dvd_of_emod_eq_zero hr
  rw[<-Int.toNat_of_nonneg (show 0<=d by omega),<-Int.toNat_of_nonneg (show 0<=x by omega)] at e
  exact Int.ofNat_dvd.1 e
 rcases hp.2 _ this with e | e<;>omega
theorem nrCompare(n m:Int)(w:World)(hn:In n)(hm:In m):CC 65 #[NV n,NV m] w (iI (cmpI n m)):=by
 have k:=Ws _ _ _ _ _ _ _ _ w (W_D0 n) (W_D1 n) (W_D2 n) (W_D3 n) (W_D0 m) (W_D1 m) (W_D2 m) (W_D3 m)
 simp only[V_In hn,V_In hm] at k
 exact k
theorem Zn:EnT 65:=fun _ _=>by kernel_rfl
theorem D0_odd(n:Int):D0 n%2=n%2:=by unfold D0;omega
theorem cmp_lt0(n m:Int):decide (cmpI n m<0)=decide (n<m):=by
 unfold cmpI;split
 ·simp[*]
 ·split<;>simp[*]<;>omega
end
section
open Go.ChangeShapes Go.WideShapes Go.ChangeAt Go.RowKit
theorem LN_V{x0 x1 x2 x3:Int}(w0:W64 x0)(w1:W64 x1)(w2:W64 x2)(w3:W64 x3):LN (V x0 x1 x2 x3)=[iU x0,iU x1,iU x2,iU x3]:=by
 have:=NV_V w0 w1 w2 w3
 unfold NV A4 at this
 injection this with this
 have:=congrArg Array.toList this
 simpa using this
theorem trodN{H:Type}{enc:TypeId×Value->H}{W:World}{bs fuel:Nat}{sp:Nat->Bool}{held:Bool}{c0 c1 c2 c3:Value}{x:DataW H×List MemPlace}(h:DataW.trod enc Tryz.prog W bs sp held fuel 24 [c0,c1,c2,c3]=some x):
 ∃z,In z/\[c0,c1,c2,c3]=LN z:=by
 obtain⟨y0,y1,y2,y3,m,hx,hy0,hy1,hy2,hy3⟩:=trod_array4 Tryz.underlying24 Tryz.cells22 h
 obtain⟨x0,e0,rfl,w0⟩:=DataW.trod_int Tryz.underlying22 hy0
 obtain⟨x1,e1,rfl,w1⟩:=DataW.trod_int Tryz.underlying22 hy1
 obtain⟨x2,e2,rfl,w2⟩:=DataW.trod_int Tryz.underlying22 hy2
 obtain⟨x3,e3,rfl,w3⟩:=DataW.trod_int Tryz.underlying22 hy3
 simp at e0 e1 e2 e3
 subst e0 e1 e2 e3
 exact⟨V x0 x1 x2 x3,In_V (Yj w0) (Yj w1) (Yj w2) (Yj w3),(LN_V (Yj w0) (Yj w1) (Yj w2) (Yj w3)).symm⟩
theorem Tryz.cells26:Tryz.prog.cellsOf 26=16:=by kernel_rfl
abbrev GE(p q g h:Int):List Value:=[iU (D0 p),iU (D1 p),iU (D2 p),iU (D3 p),iU (D0 q),iU (D1 q),iU (D2 q),iU (D3 q),iU (D0 g),iU (D1 g),iU (D2 g),iU (D3 g),iU (D0 h),iU (D1 h),iU (D2 h),iU (D3 h)]
abbrev GX(p q g h:Int):Value:= .agg #[iU (D0 p),iU (D1 p),iU (D2 p),iU (D3 p),iU (D0 q),iU (D1 q),iU (D2 q),iU (D3 q),iU (D0 g),iU (D1 g),iU (D2 g),iU (D3 g),iU (D0 h),iU (D1 h),iU (D2 h),iU (D3 h)]
theorem groupCells{H:Type}{enc:TypeId×Value->H}{W:World}{bs fuel:Nat}{sp:Nat->Bool}{held:Bool}{cs:List Value}{x:DataW H×List MemPlace}(h:DataW.trod enc Tryz.prog W bs sp held fuel 26 cs=some x):
 ∃p q g h,In p/\In q/\In g/\In h/\cs=GE p q g h:=by
 obtain⟨y0,y1,y2,y3,m,_,hl,h0,h1,h2,h3⟩:=Go.Joins.trod_struct4 Tryz.underlying26 h
 rw[Tryz.cells26] at hl
 match cs,hl,h0,h1,h2,h3 with
 | [c0,c1,c2,c3,c4,c5,c6,c7,c8,c9,c10,c11,c12,c13,c14,c15],_,h0,h1,h2,h3=>
  have h0:DataW.trod enc Tryz.prog W bs sp held m 24 ((([c0,c1,c2,c3,c4,c5,c6,c7,c8,c9,c10,c11,c12,c13,c14,c15]:List Value).drop 0).take (Tryz.prog.cellsOf 24))=some y0:=h0
  have h1:DataW.trod enc Tryz.prog W bs sp held m 24 ((([c0,c1,c2,c3,c4,c5,c6,c7,c8,c9,c10,c11,c12,c13,c14,c15]:List Value).drop 4).take (Tryz.prog.cellsOf 24))=some y1:=h1
  have h2:DataW.trod enc Tryz.prog W bs sp held m 24 ((([c0,c1,c2,c3,c4,c5,c6,c7,c8,c9,c10,c11,c12,c13,c14,c15]:List Value).drop 8).take (Tryz.prog.cellsOf 24))=some y2:=h2
  have h3:DataW.trod enc Tryz.prog W bs sp held m 24 ((([c0,c1,c2,c3,c4,c5,c6,c7,c8,c9,c10,c11,c12,c13,c14,c15]:List Value).drop 12).take (Tryz.prog.cellsOf 24))=some y3:=h3
  rw[Tryz.cells24] at h0 h1 h2 h3
  obtain⟨n,hn,en⟩:=trodN h0
  obtain⟨f,hf,ef⟩:=trodN h1
  obtain⟨a,ha,ea⟩:=trodN h2
  obtain⟨b,hb,eb⟩:=trodN h3
  refine⟨n,f,a,b,hn,hf,ha,hb,?_⟩
  have e:GE n f a b=LN n++LN f++LN a++LN b:=rfl
  rw[e,<-en,<-ef,<-ea,<-eb];rfl
theorem open_group{H:Type}{enc:TypeId×Value->H}{W:World}{bs base:Nat}{sp:Nat->Bool}{held:Bool}{v:Value}{x:DataW H}{p:List MemPlace}
 (hv:Value.okWide Tryz.prog W .any base 26 v)(h:DataW.Trod enc Tryz.prog W bs sp held 26 v x p):
 ∃p q g h,v=GX p q g h/\In p/\In q/\In g/\In h:=by
 obtain⟨cs,rfl,hsz,_⟩: ∃cs,v= .agg cs/\cs.size=Tryz.prog.cellsOf 26/\Row.okWide Tryz.prog W .any base 26 cs:=by
  simpa [Value.okWide,Tryz.underlying26] using hv
 obtain⟨fuel,hf⟩:=h
 obtain⟨n,f,a,b,hn,hf',ha,hb,e⟩:=groupCells hf
 refine⟨n,f,a,b,?_,hn,hf',ha,hb⟩
 have e:cs.toList=GE n f a b:=by simpa [Value.cells] using e
 have:cs=(GE n f a b).toArray:=by rw[<-e]
 rw[this]
theorem flC_at: ∀(cs:List (Int×Int×Int)) (j:Nat) (v:Value),(flC cs)[j]?=some v->j/12<cs.length/\(CE (cat cs (j/12)).1 (cat cs (j/12)).2.1 (cat cs (j/12)).2.2)[j%12]?=some v
 | [],j,v,h=>by simp[flC] at h
 | n::r,j,v,h=>by
  rw[flC] at h
  by_cases hj:j<12
  ·rw[List.getElem?_append_left (by show j<12;exact hj)] at h
   rw[show j/12=0 by omega,show j%12=j by omega]
   exact⟨by simp,by simpa [cat] using h⟩
  ·rw[List.getElem?_append_right (by show 12<=j;omega)] at h
   have h:(flC r)[j -12]?=some v:=h
   have:=flC_at r (j -12) v h
   rw[show j/12=(j -12)/12+1 by omega,show j%12=(j -12)%12 by omega]
   exact⟨by simpa using this.1,by simpa [cat] using this.2⟩
theorem SCt.of{w:World}{g o:Nat}{cs:List (Int×Int×Int)}(h: ∀i,i<cs.length-> ∀c v,(CE (cat cs i).1 (cat cs i).2.1 (cat cs i).2.2)[c]?=some v->w.cell? ⟨g,o+(i*12+c),none⟩=some v):SCt w g o cs:=fun j v hj=>by
 obtain⟨h1,h2⟩:=flC_at cs j v hj
 have:=h _ h1 _ v h2
 rwa [show j/12*12+j%12=j by omega] at this
end
section
open Go.RowKit
abbrev L0g:List Value:=[iU 0,iU 0,iU 0,iU 0,iU 0,iU 0,iU 0,iU 0,iU 0,iU 0,iU 0,iU 0,iU 0,iU 0,iU 0,iU 0]
theorem Uz(w:World):(Instr.alloc 26 true (.tuple #[])).run Tryz.prog w= .ok (.pointer (some ⟨w.heap.size,0,none⟩)) (w.alloc (.cells L0g.toArray 26)):=by kernel_rfl
theorem Z0:(Tryz.prog.info? 26).map (·.size)=some 16:=by kernel_rfl
theorem fdG0(b:Nat)(w:World):(Instr.fieldAt 26 (.pointer (some ⟨b,0,none⟩)) 0).run Tryz.prog w= .ok (.pointer (some ⟨b,0,none⟩)) w:=by go_simp
theorem fdG1(b:Nat)(w:World):(Instr.fieldAt 26 (.pointer (some ⟨b,0,none⟩)) 1).run Tryz.prog w= .ok (.pointer (some ⟨b,4,none⟩)) w:=by go_simp
theorem fdG2(b:Nat)(w:World):(Instr.fieldAt 26 (.pointer (some ⟨b,0,none⟩)) 2).run Tryz.prog w= .ok (.pointer (some ⟨b,8,none⟩)) w:=by go_simp
theorem fdG3(b:Nat)(w:World):(Instr.fieldAt 26 (.pointer (some ⟨b,0,none⟩)) 3).run Tryz.prog w= .ok (.pointer (some ⟨b,12,none⟩)) w:=by go_simp
end
end Go.Proofs.YtmoimodkopjeeaaGreatDoor
