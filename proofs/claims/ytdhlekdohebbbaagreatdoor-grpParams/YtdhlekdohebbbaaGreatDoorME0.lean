import Derived.Test.YtdhlekdohebbbaaGreatDoorMC3
namespace Go.Proofs.YtdhlekdohebbbaaGreatDoor
set_option linter.unusedVariables false
set_option linter.unusedSimpArgs false
set_option maxRecDepth 100000
set_option maxHeartbeats 4000000
open Go.RowKit
section
variable {R:Rg} {P:Program} {ops:Array Oper} {Q:Exit->Act->World->Prop} {f:Nat->Bool} {t:Nat->Value} {u:World} {a:Act} {i:Nat} {o:Oper}
theorem g_vE(n:Nat)(p:World->Value->Prop)(h: ∀(ev:Operand->Value) (u:World),(∀x y,evR R i o x=some y->ev x=y)->Below R.lo R.w u->R.base<=u.heap.size-> ∃v u',(execOp ev o).run P u= .ok (.value v) u'/\Bw u u'/\p u' v)(hn:(R.E[n]?).map (·.p)=some p:=by rfl)(hc:R.chkE ops n i o=true:=by rfl):OG R P ops Q i o:=fun f t u a X=>by
 obtain⟨d,q,hd,hq,_,_,_,_,_,_,_,_,hw⟩:=Zq hc
 obtain⟨v,u',hr,hB,hp⟩:=h a.eval u (fun x y hxy=>X.ev hxy) X.I.1.bel X.I.1.sz
 exact X.go hw fun K hK=>Yq hr (hK _ _ (X.putE hc (fun q hq=>by rw[hq] at hn;cases hn;exact hp) hB))
theorem g_cZ(m n:Nat)(p p':World->Value->Prop){N:FuncId}{j d:Nat}{args:List Operand}{tys:Array TypeId}(vs:Value->List Value)(hr: ∀(vs:Array Value) (w:World),(callFunc N vs).run P w= .ok (.enter N vs) w)
 (hcall: ∀(u:World) (y:Value),Below R.lo R.w u->R.base<=u.heap.size->p u y->Calls P N (vs y).toArray u fun e u'=> ∃v,e= .returned v/\p' u' v/\Bw u u')(hop:o.op= .call {callee:= .value (.func N),args:=args.toArray,argTypes:=tys}:=by rfl)(hm:R.E[m]?=some ⟨j,d,some i,p⟩:=by rfl)(hx: ∀y,args.mapM (ev1 R i o d y)=some (vs y):=by intro y;rfl)(hd:(Yb o j&&R.S.contains d)=true:=by rfl)(hn:(R.E[n]?).map (·.p)=some p':=by rfl)(hc:R.chkE ops n i o=true:=by rfl):OG R P ops Q i o:=fun f t u a X=>by
 rw[Bool.and_eq_true,List.contains_iff_mem] at hd
 obtain⟨h2,h4⟩:=hd
 obtain⟨d',q,hd',hq,_,_,_,_,_,_,_,_,hw⟩:=Zq hc
 have hv:p u (t d):=X.val hm h2 rfl
 refine X.go hw fun K hK=>wp_callP hop (evs1 X h4 (hx (t d))) hr (hcall u (t d) X.I.1.bel X.I.1.sz hv) fun v w' h1 hB=>hK _ _ (X.putE hc (fun q hq=>by rw[hq] at hn;cases hn;exact h1) hB)
end
def exT(k tx:List Nat):Nat->List Nat
 | 0=>[]
 | i+1=>hm k (exT k tx i++tx++[(i+1)%256])
def exS(k tx:List Nat):Nat->List Nat
 | 0=>[]
 | i+1=>exS k tx i++exT k tx (i+1)
def exN(k tx:List Nat)(n:Nat):List Nat:=(exS k tx ((n+31)/32)).take n
theorem exT_B(k tx:List Nat)(i:Nat):BB 32 (exT k tx (i+1)):=hm_B _ _
theorem Wx(k tx:List Nat): ∀i,(exS k tx i).length=32*i
 | 0=>rfl
 | i+1=>by rw[exS,List.length_append,Wx k tx i,(exT_B k tx i).len];omega
theorem exS_m(k tx:List Nat): ∀i,∀x∈exS k tx i,x<256
 | 0=>by simp[exS]
 | i+1=>fun x hx=>by
  rcases List.mem_append.1 hx with h | h
  ·exact exS_m k tx i x h
  ·exact(exT_B k tx i).mem x h
theorem exS_take(k tx:List Nat)(i:Nat): ∀d,(exS k tx (i+d)).take (32*i)=exS k tx i
 | 0=>by rw[Nat.add_zero,List.take_of_length_le (by rw[Wx];omega)]
 | d+1=>by
  rw[show i+(d+1)=(i+d)+1 by omega,exS,List.take_append_of_le_length (by rw[Wx];omega),exS_take k tx i d]
theorem exN_of(k tx:List Nat)(i n:Nat)(h:n<=32*i):(exS k tx i).take n=exN k tx n:=by
 unfold exN
 have e:=exS_take k tx ((n+31)/32) (i -(n+31)/32)
 rw[show (n+31)/32+(i -(n+31)/32)=i by omega] at e
 rw[<-e,List.take_take,show min n (32*((n+31)/32))=n by omega]
theorem exN_len(k tx:List Nat)(n:Nat):(exN k tx n).length=n:=by
 unfold exN;rw[List.length_take,Wx];omega
theorem exN_m(k tx:List Nat)(n:Nat): ∀x∈exN k tx n,x<256:=fun x hx=>exS_m k tx _ x (List.mem_of_mem_take hx)
theorem ex_step(k tx:List Nat)(i n:Nat)(h:32*i<n):(exS k tx i)++(exT k tx (i+1)).take (min 32 (n -32*i))=(exS k tx (i+1)).take (min (32*(i+1)) n):=by
 rw[exS,List.take_append,Wx,show List.take (min (32*(i+1)) n) (exS k tx i)=exS k tx i from List.take_of_length_le (by rw[Wx];omega),show min (32*(i+1)) n -32*i=min 32 (n -32*i) by omega]
def lenV:Value->Nat
 | .slice _ n _=>n
 | _=>0
theorem NW_of_CV{u:World}{b n cap:Nat}{xs:List Nat}(h:CV u b (U8 xs))(hn:n<=xs.length):NW n (U8 (xs.take n)) u (.slice (some ⟨b,0,none⟩) n cap):=by
 refine⟨_,cap,rfl,.inr ⟨_,rfl,fun j v hj=>?_⟩⟩
 have hj':j<(xs.take n).length:=by have:=(List.getElem?_eq_some_iff.1 hj).1;rwa [Z2] at this
 have hj2:j<n:=by rw[List.length_take] at hj';omega
 rw[Addr.add0]
 refine(h j v ?_).1
 rw[<-hj,Yc _ j hj',Yc xs j (by omega),List.getD_eq_getElem?_getD,List.getD_eq_getElem?_getD,List.getElem?_take_of_lt hj2]
theorem bsB1(x:Nat)(w:World):(Instr.buildSlice 46 1 ([0].zip [.int .u8 (x:Int)]).toArray).run Tryz.prog w= .ok (.slice (some ⟨w.heap.size,0,none⟩) 1 1) (w.alloc (.cells (U8 [x]).toArray 5)):=by kernel_rfl
theorem bsE3(x y z:Value)(w:World)(h: ∃sl n cap,x= .slice sl n cap)(h2: ∃sl n cap,y= .slice sl n cap)(h3: ∃sl n cap,z= .slice sl n cap):(Instr.buildSlice 120 3 ([0,1,2].zip [x,y,z]).toArray).run Tryz.prog w= .ok (.slice (some ⟨w.heap.size,0,none⟩) 3 3) (w.alloc (.cells [x,y,z].toArray 46)):=by
 obtain⟨sl,n,cap,rfl⟩:=h
 obtain⟨sl2,n2,cap2,rfl⟩:=h2
 obtain⟨sl3,n3,cap3,rfl⟩:=h3
 kernel_rfl
theorem IN.sl{u:World}{m:Nat}{v:Value}{xs:List Nat}(h:IN u m v xs): ∃sl n cap,v= .slice sl n cap:=by
 obtain⟨sl,cap,gb,go,rfl,_⟩:=h;exact⟨_,_,_,rfl⟩
theorem PS.sl{lo n:Nat}{xs:List Value}{u:World}{y:Value}(h:PS lo n xs u y): ∃sl n cap,y= .slice sl n cap:=by
 obtain⟨b,cap,rfl,_⟩:=h;exact⟨_,_,_,rfl⟩
theorem PQ.three{lo:Nat}{p q r:List Nat}{u:World}{x y z:Value}(t:TypeId)(h:lo<=u.heap.size)(hx:IN u u.heap.size x p)(hy:IN u u.heap.size y q)(hz:IN u u.heap.size z r):PQ lo [p,q,r] (u.alloc (.cells [x,y,z].toArray t)) (.slice (some ⟨u.heap.size,0,none⟩) 3 3):=by
 have hB:Bw u (u.alloc (.cells [x,y,z].toArray t)):=Z7 (Zx u) _
 refine⟨_,3,rfl,h,by simp,PL_of (vs:=[x,y,z]) (zs:=[]) (by rw[List.append_nil];exact CV.new u _ t) rfl fun i v p' hv hp=>?_⟩
 match i with
 | 0=>simp at hv hp;subst hv hp;exact(hx.below hB).mono hB.size
 | 1=>simp at hv hp;subst hv hp;exact(hy.below hB).mono hB.size
 | 2=>simp at hv hp;subst hv hp;exact(hz.below hB).mono hB.size
 | i+3=>simp at hv
def PM(lo n:Nat)(u:World)(v:Value):Prop:= ∃b zs,v= .slice (some ⟨b,0,none⟩) 0 n/\lo<=b/\b<u.heap.size/\zs.length=n/\CV u b zs
theorem PM.stab{lo n:Nat}{u v:World}{x:Value}(hB:Bw u v)(h:PM lo n u x):PM lo n v x:=by
 obtain⟨b,zs,e,h1,h2,h3,h4⟩:=h
 exact⟨b,zs,e,h1,Nat.lt_of_lt_of_le h2 hB.size,h3,h4.below hB h2⟩
theorem mkRoom{lo:Nat}(n:Nat)(hn:n<=1000000)(u:World)(h:lo<=u.heap.size): ∃v u',(Instr.makeSlice 46 (iI 0) (iI (n:Int))).run Tryz.prog u= .ok v u'/\Bw u u'/\PM lo n u' v:=by
 obtain⟨i,hi,hi2⟩:=Option.map_eq_some_iff.1 infoB
 simp only[Prod.mk.injEq] at hi2
 obtain⟨hz,hs,hb⟩:=hi2
 have:=run_makeSlice (P:=Tryz.prog) u 46 5 i (.int .u8 0) Tryz.underlying46 hi hz .i64 .i64 0 n (by omega) (by omega) (by rw[hs];omega) (by rw[hb];omega) (by omega)
 refine⟨_,_,this,Z7 (Zx u) _,u.heap.size,(madeCells (Value.int .u8 0).cells ((n:Int).toNat*i.size)).toList,by simp,h,by simp,?_,?_⟩
 ·rw[hs];simp[madeCells]
 ·have:=CV.new u (madeCells (Value.int .u8 0).cells ((n:Int).toNat*i.size)).toList 5
  simpa using this
end Go.Proofs.YtdhlekdohebbbaaGreatDoor
