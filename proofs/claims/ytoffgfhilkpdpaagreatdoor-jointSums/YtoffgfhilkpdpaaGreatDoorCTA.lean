import Derived.Test.YtoffgfhilkpdpaaGreatDoorPK
namespace Go.Proofs.YtoffgfhilkpdpaaGreatDoor
set_option linter.unusedVariables false
set_option linter.unusedSimpArgs false
set_option maxRecDepth 100000
set_option maxHeartbeats 4000000
section
open Go.RowKit
theorem bdC(n f a:Int)(w:World):(Instr.build 131 [(0,NV n),(1,NV f),(2,NV a)].toArray).run Tryz.prog w= .ok (CX n f a) w:=by kernel_rfl
theorem bsC1(n f a:Int)(w:World):(Instr.buildSlice 127 1 ([0].zip [CX n f a]).toArray).run Tryz.prog w= .ok (.slice (some ⟨w.heap.size,0,none⟩) 1 1) (w.alloc (.cells (CE n f a).toArray 131)):=by kernel_rfl
theorem infoC:(Tryz.prog.info? 131).map (fun i=>(i.zero,i.size,i.bytes))=some (some (CX 0 0 0),12,96):=by kernel_rfl
def stp(ns:List Int):Nat->List (Int×Int×Int)
 | 0=>[]
 | j+1=>stp ns j++[(ns.getD (j+1) 0,ns.getD j 0,2)]
theorem stp_len(ns:List Int): ∀j,(stp ns j).length=j
 | 0=>rfl
 | j+1=>by rw[stp,List.length_append,stp_len ns j];rfl
theorem flC_len: ∀cs:List (Int×Int×Int),(flC cs).length=cs.length*12
 | []=>rfl
 | c::r=>by rw[flC,List.length_append,flC_len r,List.length_cons];simp;omega
theorem flC_app: ∀a b:List (Int×Int×Int),flC (a++b)=flC a++flC b
 | [],_=>rfl
 | c::r,b=>by rw[List.cons_append,flC,flC,flC_app r b,List.append_assoc]
theorem flC_stp(ns:List Int)(j:Nat):flC (stp ns (j+1))=flC (stp ns j)++CE (ns.getD (j+1) 0) (ns.getD j 0) 2:=by
 rw[stp,flC_app];simp[flC]
theorem CE_one{n f a:Int}: ∀v∈CE n f a,v.oneCell'=true:=fun v hv=>by
 simp only[CE,List.mem_cons,List.not_mem_nil,or_false] at hv
 rcases hv with rfl | rfl | rfl | rfl | rfl | rfl | rfl | rfl | rfl | rfl | rfl | rfl<;>rfl
theorem add_drop{xs news zs:List Value}:xs++(zs.take 12)++(zs.drop 12)=xs++zs:=by rw[List.append_assoc,List.take_append_drop]
end
section
def pwm:Nat->Nat->Nat->Nat->Nat
 | 0,_,_,m=>1%m
 | k+1,a,e,m=>cond (Nat.beq (e%2) 1) (a*pwm k (a*a%m) (e/2) m%m) (pwm k (a*a%m) (e/2) m)
theorem pwm_eq: ∀(k a e m:Nat),e<2^k->pwm k a e m=a^e%m
 | 0,a,e,m,h=>by
  have:e=0:=by simpa using h
  rw[pwm,this,Nat.pow_zero]
 | k+1,a,e,m,h=>by
  have h2:e/2<2^k:=by rw[Nat.pow_succ] at h;omega
  have ih:=pwm_eq k (a*a%m) (e/2) m h2
  have e1:(a*a%m)^(e/2)%m=a^(2*(e/2))%m:=by
   rw[<-Nat.pow_mod,Nat.pow_mul,Nat.pow_two]
  rw[pwm,ih,e1]
  by_cases he:e%2=1
  ·rw[show Nat.beq (e%2) 1=true by rw[he];rfl,cond_true]
   rw[Nat.mul_mod,Nat.mod_mod,<-Nat.mul_mod]
   have:a*a^(2*(e/2))=a^e:=by
    rw[Nat.mul_comm,<-Nat.pow_succ];congr 1;omega
   rw[this]
  ·have h0:e%2=0:=Z1
   rw[show Nat.beq (e%2) 1=false by rw[h0];rfl,cond_false]
   congr 2;omega
theorem pow_of_pwm{a e m r:Nat}(k:Nat)(he:e<2^k)(h:pwm k a e m=r):a^e%m=r:=by rw[<-pwm_eq k a e m he,h]
theorem StR.of(N F A q k x:Nat)(h1:N%2=1)(h2:3<=N)(h3:2<=F)(h4:F*q+1=N)(h5:q<F)(hk:N<2^k)(h6:pwm k A (N -1) N=1)(h7:pwm k A q N=x)(hx:1<=x)(h8:Nat.gcd (x -1) N=1):StR N F A:=by
 have hq:q<2^k:=by
  have:1*q<=F*q:=Nat.mul_le_mul_right q Z1
  omega
 have k6:=pow_of_pwm k Z1 h6
 have k7:=pow_of_pwm k hq h7
 have xl:x<N:=by rw[<-k7];exact Nat.mod_lt _ Z1
 have e1:((N:Int) -1)=((N -1:Nat):Int):=Z1
 have e2:N -1=F*q:=Z1
 have e3:((N:Int) -1)/F=((q:Nat):Int):=by
  rw[e1,<-Int.natCast_ediv,e2,Nat.mul_div_cancel_left q Z1]
 refine⟨Z1,Z1,Z1,?_,by rw[e3];omega,?_,?_⟩
 ·rw[e1,<-Int.natCast_emod,e2,Nat.mul_mod_right];rfl
 ·rw[e1,Int.toNat_natCast,<-Int.natCast_pow,<-Int.natCast_emod,k6];rfl
 ·rw[e3,Int.toNat_natCast,<-Int.natCast_pow,<-Int.natCast_emod,k7]
  have e4:((x:Int) -1)%(N:Int)=((x -1:Nat):Int):=by
   have:((x:Int) -1)=((x -1:Nat):Int):=Z1
   rw[this,<-Int.natCast_emod,Nat.mod_eq_of_lt Z1]
  rw[e4]
  unfold gI
  rw[Int.toNat_natCast,Int.toNat_natCast,h8];rfl
theorem Sm.of(n b:Nat)(h2:2<=n)(hl:n<1048576)(hb:n<b*b)(h:(List.range b).all (fun d=>Nat.blt d 2 || !(Nat.beq (n%d) 0))=true):Sm n:=by
 refine⟨Z1,Z1,fun d hd hq he=>?_⟩
 obtain⟨e,rfl⟩: ∃e:Nat,d=e:=⟨d.toNat,Z1⟩
 have hq':e*e<=n:=by
  have:((e*e:Nat):Int)<=n:=by rw[Int.natCast_mul];exact hq
  omega
 have he':n%e=0:=by
  have:((n%e:Nat):Int)=0:=by rw[Int.natCast_emod];exact he
  omega
 have hlt:e<b:=Nat.lt_of_not_le fun hn=>by
  have:=Nat.mul_le_mul hn hn
  omega
 have:=List.all_eq_true.1 h e (List.mem_range.2 hlt)
 rw[he'] at this
 simp[Nat.blt] at this
 omega
theorem small_131101:smB 131101=true:=smB_t (Sm.of 131101 363 Z1 Z1 Z1 (by decide+kernel))
theorem chain0_1:stB 581039633 131101 2=true:=stB_iff.2 (StR.of 581039633 131101 2 4432 30 554694791 (by decide+kernel) (by decide+kernel) (by decide+kernel) (by decide+kernel) (by decide+kernel) (by decide+kernel) (by decide+kernel) (by decide+kernel) (by decide+kernel) (by decide+kernel))
theorem chain0_2:stB 1162079267 581039633 2=true:=stB_iff.2 (StR.of 1162079267 581039633 2 2 31 4 (by decide+kernel) (by decide+kernel) (by decide+kernel) (by decide+kernel) (by decide+kernel) (by decide+kernel) (by decide+kernel) (by decide+kernel) (by decide+kernel) (by decide+kernel))
end
section
open Go.RowKit
def chain0:List (Int×Int×Int):=[(581039633,131101,2),(1162079267,581039633,2)]
theorem chain0_ok:cfB chain0=true:=by simp[cfB,crB,knB,cat,chain0,small_131101,chain0_1,chain0_2]
theorem chain0_in: ∀j,j<chain0.length->In (cat chain0 j).1/\In (cat chain0 j).2.1/\In (cat chain0 j).2.2:=fun j hj=>by
 have:j=0\/j=1:=by have:chain0.length=2:=rfl;omega
 rcases this with rfl | rfl<;>exact⟨⟨Z2,Z2⟩,⟨Z2,Z2⟩,⟨Z2,Z2⟩⟩
theorem Vj(n:Int)(w:World)(h0:0<=n)(h1:n<9223372036854775808):CC 29 #[iI n] w (NV n):=by
 rw[Xz h0 Z1]
 have hw:IntKind.u64.wrap n=n:=by simp[IntKind.wrap,IntKind.signed,IntKind.bits];omega
 go_enter Tryz.func29,Tryz.ntmps29
 go_wp2
 go_returns
 exact⟨by simp,by go_grown⟩
theorem smB_iff{x:Int}:smB x=true↔Sm x:=by simp[smB]
theorem crB_pr{cs:List (Int×Int×Int)}(hin: ∀j,j<cs.length->In (cat cs j).1/\In (cat cs j).2.1/\In (cat cs j).2.2): ∀k,k<cs.length->crB cs (k+1)=true->Pr (cat cs k).1.toNat
 | 0,hk,h=>by
  rw[crB,Bool.and_eq_true,Bool.and_eq_true] at h
  have hs:smB (cat cs 0).2.1=true:=h.2.1
  exact(stB_iff.1 h.2.2).pr (hin 0 hk).2.2.1 (smB_iff.1 hs).pr
 | k+1,hk,h=>by
  rw[crB,Bool.and_eq_true,Bool.and_eq_true] at h
  have ih:=crB_pr hin k Z1 h.1
  have e:(cat cs (k+1)).2.1=(cat cs k).1:=by have:=h.2.1;rw[knB] at this;simpa using this
  exact(stB_iff.1 h.2.2).pr (hin (k+1) hk).2.2.1 (by rw[e];exact ih)
theorem cfB_pr{cs:List (Int×Int×Int)}(hin: ∀j,j<cs.length->In (cat cs j).1/\In (cat cs j).2.1/\In (cat cs j).2.2)(h:cfB cs=true):0<cs.length/\Pr (cat cs (cs.length -1)).1.toNat:=by
 rw[cfB,Bool.and_eq_true] at h
 have h0:0<cs.length:=by simpa using h.2
 refine⟨h0,crB_pr hin _ Z1 ?_⟩
 rw[show cs.length -1+1=cs.length by omega];exact h.1
theorem bdX(x:Int)(h0:0<=x)(h1:x<18446744073709551616)(w:World):(Instr.build 24 [(0,.int .u64 x)].toArray).run Tryz.prog w= .ok (NV x) w:=by
 rw[Xz h0 h1];kernel_rfl
theorem Sm.not{x d:Int}(h2:2<=d)(hd:d<x)(hr:x%d=0): ¬Sm x:=fun h=>by
 have hp:=h.pr
 have:d.toNat∣x.toNat:=by
  have e:(d:Int)∣x:=Int.dvd_of_emod_eq_zero hr
  rw[<-Int.toNat_of_nonneg (show 0<=d by omega),<-Int.toNat_of_nonneg (show 0<=x by omega)] at e
  exact Int.ofNat_dvd.1 e
 rcases hp.2 _ this with e | e<;>omega
theorem V6(n m:Int)(w:World)(hn:In n)(hm:In m):CC 43 #[NV n,NV m] w (.int .i64 (cmpI n m)):=by
 have k:=V5 _ _ _ _ _ _ _ _ w (W_D0 n) (W_D1 n) (W_D2 n) (W_D3 n) (W_D0 m) (W_D1 m) (W_D2 m) (W_D3 m)
 simp only[V_In hn,V_In hm] at k
 exact k
theorem Zi:EnT 43:=fun _ _=>by kernel_rfl
theorem D0_odd(n:Int):D0 n%2=n%2:=by unfold D0;omega
theorem cmp_lt0(n m:Int):decide (cmpI n m<0)=decide (n<m):=by
 unfold cmpI;split
 ·simp[*]
 ·split<;>simp[*]<;>omega
end
section
open Go.ChangeShapes Go.WideShapes Go.ChangeAt Go.RowKit
theorem LN_V{x0 x1 x2 x3:Int}(w0:W64 x0)(w1:W64 x1)(w2:W64 x2)(w3:W64 x3):LN (V x0 x1 x2 x3)=[iU x0,iU x1,iU x2,iU x3]:=by
 have:=NV_V w0 w1 w2 w3
 unfold NV A4 at this
 injection this with this
 have:=congrArg Array.toList this
 simpa using this
theorem trodN{H:Type}{enc:TypeId×Value->H}{W:World}{bs fuel:Nat}{sp:Nat->Bool}{held:Bool}{c0 c1 c2 c3:Value}{x:DataW H×List MemPlace}(h:DataW.trod enc Tryz.prog W bs sp held fuel 24 [c0,c1,c2,c3]=some x):
 ∃z,In z/\[c0,c1,c2,c3]=LN z:=by
 obtain⟨y0,y1,y2,y3,m,hx,hy0,hy1,hy2,hy3⟩:=trod_array4 Tryz.underlying24 Tryz.cells22 h
 obtain⟨x0,e0,rfl,w0⟩:=DataW.trod_int Tryz.underlying22 hy0
 obtain⟨x1,e1,rfl,w1⟩:=DataW.trod_int Tryz.underlying22 hy1
 obtain⟨x2,e2,rfl,w2⟩:=DataW.trod_int Tryz.underlying22 hy2
 obtain⟨x3,e3,rfl,w3⟩:=DataW.trod_int Tryz.underlying22 hy3
 simp at e0 e1 e2 e3
 subst e0 e1 e2 e3
 exact⟨V x0 x1 x2 x3,In_V (Zw w0) (Zw w1) (Zw w2) (Zw w3),(LN_V (Zw w0) (Zw w1) (Zw w2) (Zw w3)).symm⟩
theorem Tryz.cells26:Tryz.prog.cellsOf 26=16:=by kernel_rfl
abbrev GE(p q g h:Int):List Value:=[iU (D0 p),iU (D1 p),iU (D2 p),iU (D3 p),iU (D0 q),iU (D1 q),iU (D2 q),iU (D3 q),iU (D0 g),iU (D1 g),iU (D2 g),iU (D3 g),iU (D0 h),iU (D1 h),iU (D2 h),iU (D3 h)]
abbrev GX(p q g h:Int):Value:= .agg #[iU (D0 p),iU (D1 p),iU (D2 p),iU (D3 p),iU (D0 q),iU (D1 q),iU (D2 q),iU (D3 q),iU (D0 g),iU (D1 g),iU (D2 g),iU (D3 g),iU (D0 h),iU (D1 h),iU (D2 h),iU (D3 h)]
theorem groupCells{H:Type}{enc:TypeId×Value->H}{W:World}{bs fuel:Nat}{sp:Nat->Bool}{held:Bool}{cs:List Value}{x:DataW H×List MemPlace}(h:DataW.trod enc Tryz.prog W bs sp held fuel 26 cs=some x):
 ∃p q g h,In p/\In q/\In g/\In h/\cs=GE p q g h:=by
 obtain⟨y0,y1,y2,y3,m,_,hl,h0,h1,h2,h3⟩:=Go.Joins.trod_struct4 Tryz.underlying26 h
 rw[Tryz.cells26] at hl
 match cs,hl,h0,h1,h2,h3 with
 | [c0,c1,c2,c3,c4,c5,c6,c7,c8,c9,c10,c11,c12,c13,c14,c15],_,h0,h1,h2,h3=>
  have h0:DataW.trod enc Tryz.prog W bs sp held m 24 ((([c0,c1,c2,c3,c4,c5,c6,c7,c8,c9,c10,c11,c12,c13,c14,c15]:List Value).drop 0).take (Tryz.prog.cellsOf 24))=some y0:=h0
  have h1:DataW.trod enc Tryz.prog W bs sp held m 24 ((([c0,c1,c2,c3,c4,c5,c6,c7,c8,c9,c10,c11,c12,c13,c14,c15]:List Value).drop 4).take (Tryz.prog.cellsOf 24))=some y1:=h1
  have h2:DataW.trod enc Tryz.prog W bs sp held m 24 ((([c0,c1,c2,c3,c4,c5,c6,c7,c8,c9,c10,c11,c12,c13,c14,c15]:List Value).drop 8).take (Tryz.prog.cellsOf 24))=some y2:=h2
  have h3:DataW.trod enc Tryz.prog W bs sp held m 24 ((([c0,c1,c2,c3,c4,c5,c6,c7,c8,c9,c10,c11,c12,c13,c14,c15]:List Value).drop 12).take (Tryz.prog.cellsOf 24))=some y3:=h3
  rw[Tryz.cells24] at h0 h1 h2 h3
  obtain⟨n,hn,en⟩:=trodN h0
  obtain⟨f,hf,ef⟩:=trodN h1
  obtain⟨a,ha,ea⟩:=trodN h2
  obtain⟨b,hb,eb⟩:=trodN h3
  refine⟨n,f,a,b,hn,hf,ha,hb,?_⟩
  have e:GE n f a b=LN n++LN f++LN a++LN b:=rfl
  rw[e,<-en,<-ef,<-ea,<-eb];rfl
theorem open_group{H:Type}{enc:TypeId×Value->H}{W:World}{bs base:Nat}{sp:Nat->Bool}{held:Bool}{v:Value}{x:DataW H}{p:List MemPlace}
 (hv:Value.okWide Tryz.prog W .any base 26 v)(h:DataW.Trod enc Tryz.prog W bs sp held 26 v x p):
 ∃p q g h,v=GX p q g h/\In p/\In q/\In g/\In h:=by
 obtain⟨cs,rfl,hsz,_⟩: ∃cs,v= .agg cs/\cs.size=Tryz.prog.cellsOf 26/\Row.okWide Tryz.prog W .any base 26 cs:=by
  simpa [Value.okWide,Tryz.underlying26] using hv
 obtain⟨fuel,hf⟩:=h
 obtain⟨n,f,a,b,hn,hf',ha,hb,e⟩:=groupCells hf
 refine⟨n,f,a,b,?_,hn,hf',ha,hb⟩
 have e:cs.toList=GE n f a b:=by simpa [Value.cells] using e
 have:cs=(GE n f a b).toArray:=by rw[<-e]
 rw[this]
theorem flC_at: ∀(cs:List (Int×Int×Int)) (j:Nat) (v:Value),(flC cs)[j]?=some v->j/12<cs.length/\(CE (cat cs (j/12)).1 (cat cs (j/12)).2.1 (cat cs (j/12)).2.2)[j%12]?=some v
 | [],j,v,h=>by simp[flC] at h
 | n::r,j,v,h=>by
  rw[flC] at h
  by_cases hj:j<12
  ·rw[List.getElem?_append_left (by show j<12;exact hj)] at h
   rw[show j/12=0 by omega,show j%12=j by omega]
   exact⟨by simp,by simpa [cat] using h⟩
  ·rw[List.getElem?_append_right (by show 12<=j;omega)] at h
   have h:(flC r)[j -12]?=some v:=h
   have:=flC_at r (j -12) v h
   rw[show j/12=(j -12)/12+1 by omega,show j%12=(j -12)%12 by omega]
   exact⟨by simpa using this.1,by simpa [cat] using this.2⟩
theorem SCt.of{w:World}{g o:Nat}{cs:List (Int×Int×Int)}(h: ∀i,i<cs.length-> ∀c v,(CE (cat cs i).1 (cat cs i).2.1 (cat cs i).2.2)[c]?=some v->w.cell? ⟨g,o+(i*12+c),none⟩=some v):SCt w g o cs:=fun j v hj=>by
 obtain⟨h1,h2⟩:=flC_at cs j v hj
 have:=h _ h1 _ v h2
 rwa [show j/12*12+j%12=j by omega] at this
end
section
open Go.RowKit
abbrev L0g:List Value:=[.int .u64 0,.int .u64 0,.int .u64 0,.int .u64 0,.int .u64 0,.int .u64 0,.int .u64 0,.int .u64 0,.int .u64 0,.int .u64 0,.int .u64 0,.int .u64 0,.int .u64 0,.int .u64 0,.int .u64 0,.int .u64 0]
theorem Tg(w:World):(Instr.alloc 26 true (.tuple #[])).run Tryz.prog w= .ok (.pointer (some ⟨w.heap.size,0,none⟩)) (w.alloc (.cells L0g.toArray 26)):=by kernel_rfl
theorem Z4:(Tryz.prog.info? 26).map (·.size)=some 16:=by kernel_rfl
theorem fdG0(b:Nat)(w:World):(Instr.fieldAt 26 (.pointer (some ⟨b,0,none⟩)) 0).run Tryz.prog w= .ok (.pointer (some ⟨b,0,none⟩)) w:=by go_simp
theorem fdG1(b:Nat)(w:World):(Instr.fieldAt 26 (.pointer (some ⟨b,0,none⟩)) 1).run Tryz.prog w= .ok (.pointer (some ⟨b,4,none⟩)) w:=by go_simp
theorem fdG2(b:Nat)(w:World):(Instr.fieldAt 26 (.pointer (some ⟨b,0,none⟩)) 2).run Tryz.prog w= .ok (.pointer (some ⟨b,8,none⟩)) w:=by go_simp
theorem fdG3(b:Nat)(w:World):(Instr.fieldAt 26 (.pointer (some ⟨b,0,none⟩)) 3).run Tryz.prog w= .ok (.pointer (some ⟨b,12,none⟩)) w:=by go_simp
end
end Go.Proofs.YtoffgfhilkpdpaaGreatDoor
