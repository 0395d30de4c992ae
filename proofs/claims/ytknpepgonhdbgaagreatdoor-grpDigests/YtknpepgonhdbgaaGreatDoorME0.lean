import Derived.Test.YtknpepgonhdbgaaGreatDoorMC2
import Derived.Lib.ConvBytes
import Derived.Lib.AppendZerosOnto
namespace Go.Proofs.YtknpepgonhdbgaaGreatDoor
set_option linter.unusedVariables false
set_option linter.unusedSimpArgs false
set_option maxRecDepth 100000
set_option maxHeartbeats 4000000
open Go.RowKit
section
section
variable {R:Rg} {P:Program} {ops:Array Oper} {Q:Exit->Act->World->Prop} {f:Nat->Bool} {t:Nat->Value} {u:World} {a:Act} {i:Nat} {o:Oper}
theorem g_vE (n:Nat) (p:World->Value->Prop) (h: ∀(ev:Operand->Value) (u:World),(∀x y,evR R i o x=some y->ev x=y)->Below R.lo R.w u->R.base<=u.heap.size-> ∃v u',(execOp ev o).run P u= .ok (.value v) u'/\Bw u u'/\p u' v) (hn:(R.E[n]?).map (·.p)=some p:=by rfl) (hc:R.chkE ops n i o=true:=by rfl):OG R P ops Q i o:=fun f t u a X=>by
 obtain⟨d,q,hd,hq,_,_,_,_,_,_,_,_,hw⟩:=Zu hc
 obtain⟨v,u',hr,hB,hp⟩:=h a.eval u (fun x y hxy=>X.ev hxy) X.I.1.bel X.I.1.sz
 exact X.go hw fun K hK=>Yu hr (hK _ _ (X.putE hc (fun q hq=>by rw[hq] at hn;cases hn;exact hp) hB))
theorem g_cZ (m n:Nat) (p p':World->Value->Prop) {N:FuncId} {j d:Nat} {args:List Operand} {tys:Array TypeId} (vs:Value->List Value) (hr: ∀(vs:Array Value) (w:World),(callFunc N vs).run P w= .ok (.enter N vs) w)
 (hcall: ∀(u:World) (y:Value),Below R.lo R.w u->R.base<=u.heap.size->p u y->Calls P N (vs y).toArray u fun e u'=> ∃v,e= .returned v/\p' u' v/\Bw u u') (hop:o.op= .call {callee:= .value (.func N),args:=args.toArray,argTypes:=tys}:=by rfl) (hm:R.E[m]?=some ⟨j,d,some i,p⟩:=by rfl) (hx: ∀y,args.mapM (ev1 R i o d y)=some (vs y):=by intro y;rfl) (hd:(Ye o j&&R.S.contains d)=true:=by rfl) (hn:(R.E[n]?).map (·.p)=some p':=by rfl) (hc:R.chkE ops n i o=true:=by rfl):OG R P ops Q i o:=fun f t u a X=>by
 rw[Bool.and_eq_true,List.contains_iff_mem] at hd
 obtain⟨h2,h4⟩:=hd
 obtain⟨d',q,hd',hq,_,_,_,_,_,_,_,_,hw⟩:=Zu hc
 have hv:p u (t d):=X.val hm h2 rfl
 refine X.go hw fun K hK=>wp_callP hop (evs1 X h4 (hx (t d))) hr (hcall u (t d) X.I.1.bel X.I.1.sz hv) fun v w' h1 hB=>hK _ _ (X.putE hc (fun q hq=>by rw[hq] at hn;cases hn;exact h1) hB)
end
def exT (k tx:List Nat):Nat->List Nat
 | 0=>[]
 | i+1=>hm k (exT k tx i++tx++[(i+1)%256])
def exS (k tx:List Nat):Nat->List Nat
 | 0=>[]
 | i+1=>exS k tx i++exT k tx (i+1)
def exN (k tx:List Nat) (n:Nat):List Nat:=(exS k tx ((n+31)/32)).take n
theorem exT_B (k tx:List Nat) (i:Nat):BB 32 (exT k tx (i+1)):=hm_B _ _
theorem Vd (k tx:List Nat): ∀i,(exS k tx i).length=32*i
 | 0=>rfl
 | i+1=>by rw[exS,List.length_append,Vd k tx i,(exT_B k tx i).len];omega
theorem exS_m (k tx:List Nat): ∀i,∀x∈exS k tx i,x<256
 | 0=>by simp[exS]
 | i+1=>fun x hx=>by
  rcases List.mem_append.1 hx with h | h
  ·exact exS_m k tx i x h
  ·exact(exT_B k tx i).mem x h
theorem exS_take (k tx:List Nat) (i:Nat): ∀d,(exS k tx (i+d)).take (32*i)=exS k tx i
 | 0=>by rw[Nat.add_zero,List.take_of_length_le (by rw[Vd];omega)]
 | d+1=>by
  rw[show i+(d+1)=(i+d)+1 by omega,exS,List.take_append_of_le_length (by rw[Vd];omega),exS_take k tx i d]
theorem exN_of (k tx:List Nat) (i n:Nat) (h:n<=32*i):(exS k tx i).take n=exN k tx n:=by
 unfold exN
 have e:=exS_take k tx ((n+31)/32) (i -(n+31)/32)
 rw[show (n+31)/32+(i -(n+31)/32)=i by omega] at e
 rw[<-e,List.take_take,show min n (32*((n+31)/32))=n by omega]
theorem exN_len (k tx:List Nat) (n:Nat):(exN k tx n).length=n:=by
 unfold exN;rw[List.length_take,Vd];omega
theorem exN_m (k tx:List Nat) (n:Nat): ∀x∈exN k tx n,x<256:=fun x hx=>exS_m k tx _ x (List.mem_of_mem_take hx)
theorem ex_step (k tx:List Nat) (i n:Nat) (h:32*i<n):(exS k tx i)++(exT k tx (i+1)).take (min 32 (n -32*i))=(exS k tx (i+1)).take (min (32*(i+1)) n):=by
 rw[exS,List.take_append,Vd,show List.take (min (32*(i+1)) n) (exS k tx i)=exS k tx i from List.take_of_length_le (by rw[Vd];omega),show min (32*(i+1)) n -32*i=min 32 (n -32*i) by omega]
def lenV:Value->Nat
 | .slice _ n _=>n
 | _=>0
theorem NW_of_CV {u:World} {b n cap:Nat} {xs:List Nat} (h:CV u b (U8 xs)) (hn:n<=xs.length):NW n (U8 (xs.take n)) u (.slice (some ⟨b,0,none⟩) n cap):=by
 refine⟨_,cap,rfl,.inr ⟨_,rfl,fun j v hj=>?_⟩⟩
 have hj':j<(xs.take n).length:=by have:=(List.getElem?_eq_some_iff.1 hj).1;rwa [Z2] at this
 have hj2:j<n:=by rw[List.length_take] at hj';omega
 rw[Addr.add0]
 refine(h j v ?_).1
 rw[<-hj,Ya _ j hj',Ya xs j (by omega),List.getD_eq_getElem?_getD,List.getD_eq_getElem?_getD,List.getElem?_take_of_lt hj2]
theorem bsB1 (x:Nat) (w:World):(Instr.buildSlice 36 1 ([0].zip [.int .u8 (x:Int)]).toArray).run Tryz.prog w= .ok (.slice (some ⟨w.heap.size,0,none⟩) 1 1) (w.alloc (.cells (U8 [x]).toArray 5)):=by kernel_rfl
theorem bsE3 (x y z:Value) (w:World) (h: ∃sl n cap,x= .slice sl n cap) (h2: ∃sl n cap,y= .slice sl n cap) (h3: ∃sl n cap,z= .slice sl n cap):(Instr.buildSlice 157 3 ([0,1,2].zip [x,y,z]).toArray).run Tryz.prog w= .ok (.slice (some ⟨w.heap.size,0,none⟩) 3 3) (w.alloc (.cells [x,y,z].toArray 36)):=by
 obtain⟨sl,n,cap,rfl⟩:=h
 obtain⟨sl2,n2,cap2,rfl⟩:=h2
 obtain⟨sl3,n3,cap3,rfl⟩:=h3
 kernel_rfl
theorem IN.sl {u:World} {m:Nat} {v:Value} {xs:List Nat} (h:IN u m v xs): ∃sl n cap,v= .slice sl n cap:=by
 obtain⟨sl,cap,gb,go,rfl,_⟩:=h;exact⟨_,_,_,rfl⟩
theorem PS.sl {lo n:Nat} {xs:List Value} {u:World} {y:Value} (h:PS lo n xs u y): ∃sl n cap,y= .slice sl n cap:=by
 obtain⟨b,cap,rfl,_⟩:=h;exact⟨_,_,_,rfl⟩
theorem PQ.three {lo:Nat} {p q r:List Nat} {u:World} {x y z:Value} (t:TypeId) (h:lo<=u.heap.size) (hx:IN u u.heap.size x p) (hy:IN u u.heap.size y q) (hz:IN u u.heap.size z r):PQ lo [p,q,r] (u.alloc (.cells [x,y,z].toArray t)) (.slice (some ⟨u.heap.size,0,none⟩) 3 3):=by
 have hB:Bw u (u.alloc (.cells [x,y,z].toArray t)):=Z1 (Z6 u) _
 refine⟨_,3,rfl,h,by simp,PL_of (vs:=[x,y,z]) (zs:=[]) (by rw[List.append_nil];exact CV.new u _ t) rfl fun i v p' hv hp=>?_⟩
 match i with
 | 0=>simp at hv hp;subst hv hp;exact(hx.below hB).mono hB.size
 | 1=>simp at hv hp;subst hv hp;exact(hy.below hB).mono hB.size
 | 2=>simp at hv hp;subst hv hp;exact(hz.below hB).mono hB.size
 | i+3=>simp at hv
def PM (lo n:Nat) (u:World) (v:Value):Prop:= ∃b zs,v= .slice (some ⟨b,0,none⟩) 0 n/\lo<=b/\b<u.heap.size/\zs.length=n/\CV u b zs
theorem PM.stab {lo n:Nat} {u v:World} {x:Value} (hB:Bw u v) (h:PM lo n u x):PM lo n v x:=by
 obtain⟨b,zs,e,h1,h2,h3,h4⟩:=h
 exact⟨b,zs,e,h1,Nat.lt_of_lt_of_le h2 hB.size,h3,h4.below hB h2⟩
theorem mkRoom {lo:Nat} (n:Nat) (hn:n<=1000000) (u:World) (h:lo<=u.heap.size): ∃v u',(Instr.makeSlice 36 (.int .i64 0) (.int .i64 (n:Int))).run Tryz.prog u= .ok v u'/\Bw u u'/\PM lo n u' v:=by
 obtain⟨i,hi,hi2⟩:=Option.map_eq_some_iff.1 infoB
 simp only[Prod.mk.injEq] at hi2
 obtain⟨hz,hs,hb⟩:=hi2
 have:=run_makeSlice (P:=Tryz.prog) u 36 5 i (.int .u8 0) Tryz.underlying36 hi hz .i64 .i64 0 n (by omega) (by omega) (by rw[hs];omega) (by rw[hb];omega) (by omega)
 refine⟨_,_,this,Z1 (Z6 u) _,u.heap.size,(madeCells (Value.int .u8 0).cells ((n:Int).toNat*i.size)).toList,by simp,h,by simp,?_,?_⟩
 ·rw[hs];simp[madeCells]
 ·have:=CV.new u (madeCells (Value.int .u8 0).cells ((n:Int).toNat*i.size)).toList 5
  simpa using this
end
theorem Sl:EnT 129:=fun _ _=>by kernel_rfl
theorem add8 (p q:Operand) (a b:Nat) (w:World):(do eqGuard .add 5 p q (.int .u8 a) (.int .u8 b);binOp .add 5 (.int .u8 a) (.int .u8 b):Sem Value).run Tryz.prog w= .ok (.int .u8 (((a+b)%256:Nat):Int)) w:=by
 have e:IntKind.u8.wrap ((a:Int)+b)=(((a+b)%256:Nat):Int):=by simp[IntKind.wrap,IntKind.signed,IntKind.bits]
 go_simp
theorem mkE {o:Oper} {ev:Operand->Value} {x y:Operand} {n lo:Nat} (hn:n<=1000000) (u:World) (h:lo<=u.heap.size) (ho:o.op= .makeSlice 36 x y) (hx:ev x= .int .i64 0) (hy:ev y= .int .i64 (n:Int)): ∃v u',(execOp ev o).run Tryz.prog u= .ok (.value v) u'/\Bw u u'/\PM lo n u' v:=by
 obtain⟨v,u',hr,h1,h2⟩:=mkRoom (lo:=lo) n hn u h
 refine⟨v,u',?_,h1,h2⟩
 unfold execOp;rw[ho];simp only[hx,hy,Sem.run_bind,hr,Result.andThen_ok,Sem.run_pure]
theorem cExpanded_core (ks tx:List Nat) (tv:Value) (n:Nat) (tS oS:Nat->List Nat) (w:World) (hk64:ks.length=64) (hn:n<=8160) (htv:Hid (IN w w.heap.size tv tx)) (ht0:Hid (tS 0=[])) (htl:Hid (∀k,(tS (k+1)).length=32)) (hol2:Hid (∀k,(oS k).length=32*k)) (hstep:Hid (∀k,32*k<n->oS k++(tS (k+1)).take (min 32 (n -32*k))=(oS (k+1)).take (min (32*(k+1)) n)))
 (hHm:Hid (∀(k:Nat) (u:World) (y:Value),Bw w u->PQ w.heap.size [tS k,tx,[(k+1)%256]] u y->CC 142 #[.agg (U8 (ks)).toArray,y] u (.agg (U8 (tS (k+1))).toArray))):
 Calls Tryz.prog 129 #[.agg (U8 (ks)).toArray,tv,.int .i64 (n:Int)] w fun e w'=> ∃v,e= .returned v/\(∃k,n<=32*k/\PS w.heap.size n (U8 ((oS k).take n)) w' v)/\Bw w w':=by
 go_enter Tryz.func129,Tryz.ntmps129
 go_upto_region 1 with fail
 generalize hC:(w.alloc (.cells (U8 (ks):List Value).toArray 160))=v0 at *
 have HB0:Bw w v0:=by rw[<-hC];exact Z1 (Z6 w) _
 have K0:Bk w.heap.size v0 [(true,w.heap.size,U8 (ks))]:=by rw[<-hC];exact(Bk.nil _ w).ad
 clear hC
 obtain⟨ti,hti,htm⟩:=Option.map_eq_some_iff.1 infoB
 simp only[Prod.mk.injEq] at htm
 obtain⟨hzv,hsz,hby⟩:=htm
 have hv0s:=HB0.size
 refine rgF K0 HB0 HB0.size [] [] [(0,11,.int .i64 ((n:Nat):Int))] [] [] [⟨1,12,some 2,PM v0.heap.size n⟩,⟨2,7,none,PM v0.heap.size n⟩] [] (.cons (fun _ _ _ h1 h2=>h2.stab h1)<| .cons (fun _ _ _ h1 h2=>h2.stab h1)<|Stab.nil) ?_ ?_
 ·exact oc g_mv<|oc (g_vE 0 (PM v0.heap.size n) (fun ev u he bZ hs=>mkE (by omega) u hs rfl (he _ _ rfl) (he _ _ rfl)))<|oc (g_sE 0 1 (PM v0.heap.size n)) on
 intro u1 v1_1 hv1_1 v1_2 hv1_2 HB1 sz1 K1
 simp only[sQ] at K1⊢
 clear HB0
 obtain⟨bo,zs,rfl,ho1,ho2,hz0,hoC⟩:=hv1_2 rfl
 have K1xout:=Bk.moreT K0 K1 (by omega) ho1 ho2 hoC (by intro x hx;first | (simp at hx;done) | (simp at hx⊢;omega))
 simp only[aK] at K1xout
 clear K1
 have hbo:w.heap.size+1<=bo:=by have:=K0.lt 0;omega
 go_upto_region 2 with fail
 refine rgP K1xout HB1 HB1.size [] [] [(0,8,(Go.Value.slice Option.none 0 0))] [] [] [] ?_ ?_
 ·exact oc g_as on
 intro u2 HB2 sz2 K2
 simp only[sQ] at K2⊢
 clear HB1
 go_upto_region 3 with fail
 refine rgP K2 HB2 HB2.size [] [] [(0,9,(Go.Value.int Go.IntKind.u8 1))] [] [] [] ?_ ?_
 ·exact oc g_as on
 intro u3 HB3 sz3 K3
 simp only[sQ] at K3⊢
 clear K2 HB2
 go_wp2_with fail
 go_loopw [9,8,7] (fun s9 s8 s7 wr=> ∃(k m bo cap:Nat) (ol:List Nat) (zs:List Value),k<=255/\s9= .int .u8 (((k+1)%256:Nat):Int)/\s7= .slice (some ⟨bo,0,none⟩) m cap/\(32*k<=n/\m=32*k\/n<=32*k/\m=n)/\w.heap.size+1<=bo/\bo<wr.heap.size/\m<=cap/\zs.length=cap -m/\Hid (CV wr bo (U8 (ol)++zs))/\Hid (ol=(oS k).take m)/\Hid (CV wr w.heap.size (U8 (ks)))/\(k=0/\s8= .slice none 0 0\/0<k/\ ∃bl,s8= .slice (some ⟨bl,0,none⟩) 32 32/\w.heap.size+1<=bl/\bl≠bo/\bl<wr.heap.size/\Hid (CV wr bl (U8 (tS k))))/\Bw w wr) (fun _ _ s7 _=>n -lenV s7)
 case atStart=>exact⟨0,0,bo,n,[],zs,by omega,rfl,rfl,.inl ⟨by omega,rfl⟩,hbo,(K3.lt 1),by omega,by omega,(K3.cv 1),(show []=(oS 0).take 0 from rfl),(K3.cv 0),.inl ⟨rfl,rfl⟩,HB3⟩
 case round=>
  clear hbo hz0
  obtain⟨k,m,bo,cap,ol,zs,hk,rfl,rfl,hm,hbo,hlb,hmc,hzl,Ko,hol,Kk,hlast,HBr⟩:=hrel
  clear HB3
  by_cases hj:m<n
  ·have hl1:decide ((m:Int)<n)=true:=by simp;omega
   have hm2:m=32*k:=hm.elim (fun h=>h.2) (fun h=>absurd hj (by rw[h.2];exact Nat.lt_irrefl _))
   have holn:ol.length=m:=by rw[hol.out,List.length_take,hol2.out k];omega
   obtain⟨tn,etn⟩: ∃x,tS (k+1)=x:=⟨_,rfl⟩
   obtain⟨ib,eib⟩: ∃x,(k+1)%256=x:=⟨_,rfl⟩
   obtain⟨j,ej⟩: ∃j,min 32 (n -m)=j:=⟨_,rfl⟩
   have hib:(ib+1)%256=(k+1+1)%256:=by omega
   have htn:=htl.out k
   have hHk:=hHm.out k
   have hst:=hstep.out k (by omega)
   rw[eib] at hHk
   rw[etn] at htn hHk hst
   rw[<-hm2,ej] at hst
   have hj32:j<=32:=by omega
   have hjm:min (32:Int) ((n -m:Nat):Int)=((j:Nat):Int):=by omega
   have hnm:(n:Int) -(m:Int)=((n -m:Nat):Int):=by omega
   have hHk:Hid _:=hHk
   have hst:Hid _:=hst
   have etn:Hid _:=etn
   have hib:Hid _:=hib
   try rw[eib]
   clear eib
   rcases hlast with⟨hk0,rfl⟩ | ⟨hk0,bl,rfl,hbl,hblo,hbll,Kl⟩
   ·skip
    obtain⟨ls,els⟩: ∃x,tS k=x:=⟨_,rfl⟩
    have hls:ls=[]:=by rw[<-els,hk0];exact ht0.out
    subst hls
    rw[els] at hHk
    have hnK:=K3.n
    simp at hnK
    have hoK1:=K3.lo 1
    have K3_1:Bk w.heap.size wr [(false,w.heap.size,U8 (ks)),(true,bo,U8 (ol)++zs)]:=⟨.c (by omega) Kk.out<| .o hlb (by omega) Ko.out<|trivial,by simp;omega⟩
    go_upto_region 4 with fail
    refine rgP K3_1 HBr HBr.size [] [] [(0,13,.slice (some ⟨bo,0,none⟩) m cap),(1,14,.int .i64 ((m:Nat):Int)),(2,15,.int .i64 ((n:Nat):Int)),(3,16,.bool true)] [] [] [] ?_ ?_
    ·exact oc g_mv<|oc (g_ln Tryz.underlying36)<|oc g_mv<|oc (g_bn (fun uZ=>Zr _ _ (m:Int) (n:Int) _ uZ hl1)) on
    intro u4 HB4 sz4 K4
    simp only[sQ] at K4⊢
    have hW0:0<u4.heap.size:=by have:=K4.lt 0;omega
    go_upto_region 6 with fail
    refine rgF K4 HB4 HB4.size [] [(7,10,U8 (z32),some (8,U8 (tn)))] [(0,19,.agg (U8 (ks)).toArray),(1,20,.slice none 0 0),(2,21,tv),(3,22,.int .u8 ((ib:Nat):Int)),(6,25,.agg (U8 (tn)).toArray)] [(8,7)] [] [⟨4,23,some 5,PS w.heap.size 1 (U8 [ib])⟩,⟨5,24,some 6,PQ w.heap.size [[],tx,[ib]]⟩] [] (.cons (fun _ _ _ h1 h2=>h2.stab h1)<| .cons (fun _ _ _ h1 h2=>h2.stab h1)<|Stab.nil) ?_ ?_
    ·exact oc (g_lR 0 0 (cs:=U8 (ks)) (fun j v h=>by rw[Nat.zero_add];exact h) Tryz.underlying160 (by rw[Z2,hk64];exact Za))<|oc g_mv<|oc g_mv<|oc g_mv<|oc (g_bR 0 (PS w.heap.size 1 (U8 [ib])) [0] [.int .u8 ((ib:Nat):Int)] (U8 [ib]) (bsB1 ib) (fun u hu=>PS.new 1 _ _ u (Nat.le_trans HB4.size hu)))<|oc (g_bY 0 1 (PS w.heap.size 1 (U8 [ib])) (PQ w.heap.size [[],tx,[ib]]) [0,1,2] (fun y=>[.slice none 0 0,tv,y]) (fun w y hy=>bsE3 _ _ y w ⟨_,_,_,rfl⟩ htv.out.sl hy.sl) (fun f u y kZ bZ hs hy=>PQ.three _ bZ.size (IN_nil u (Nat.lt_of_lt_of_le hW0 hs)) ((htv.out.below bZ).mono bZ.size) (PS_in hy)))<|oc (g_c2 1 (PQ w.heap.size [[],tx,[ib]]) U1 (fun uZ y bZ hy=>hHk.out uZ y bZ hy))<|oc (g_al 0 Yl)<|oc (g_sn 0 Z3 (h1:=Yx _) (hm:=by rw[Z2,htn]) (hl:=by first | rw[Z2,Z2,htn,show z32.length=32 from rfl] | rfl)) on
    intro u5 b5_7 v5_4 hv5_4 v5_5 hv5_5 HB5 sz5 K5
    simp only[sQ] at K5⊢
    clear K4 HB4
    go_upto_region 7 with fail
    refine rgP K5 HB5 HB5.size [] [] [(0,26,.slice (some ⟨b5_7,0,none⟩) 32 32),(1,8,.slice (some ⟨b5_7,0,none⟩) 32 32)] [] [] [] ?_ ?_
    ·exact oc (g_sl (fun uZ=>sl32 b5_7 uZ))<|oc g_as on
    intro u6 HB6 sz6 K6
    simp only[sQ] at K6⊢
    clear K5 HB5
    have hlt10:=K6.lt 2
    have hlo10:=K6.lo 2
    have hnd:=K6.n
    simp at hnd
    go_upto_region 8 with fail
    refine rgF K6 HB6 HB6.size [.no,.all 8 ([])] [] [(0,27,.slice (some ⟨bo,0,none⟩) m cap),(1,28,.slice (some ⟨b5_7,0,none⟩) 32 32),(2,29,.int .i64 ((n:Nat):Int)),(3,30,.slice (some ⟨bo,0,none⟩) m cap),(4,31,.int .i64 ((m:Nat):Int)),(5,32,.int .i64 ((n -m:Nat):Int)),(6,33,.int .i64 ((j:Nat):Int)),(7,34,.slice (some ⟨b5_7,0,none⟩) j 32)] [(9,0),(9,3),(9,8)] [(9,7)] [⟨8,35,some 9,PH u6.heap.size bo ti.size (m+j) (U8 (ol)++U8 (tn.take j))⟩,⟨9,7,none,PH u6.heap.size bo ti.size (m+j) (U8 (ol)++U8 (tn.take j))⟩] [true,false] (.cons (fun _ _ _ h1 h2=>h2.stab h1)<| .cons (fun _ _ _ h1 h2=>h2.stab h1)<|Stab.nil) ?_ ?_
    ·exact oc g_mv<|oc g_mv<|oc g_mv<|oc g_mv<|oc (g_ln Tryz.underlying36)<|oc (g_bn (fun uZ=>Xm _ _ (n:Int) (m:Int) ((n -m:Nat):Int) uZ hnm (by omega) (by omega)))<|oc (g_mn hjm)<|oc (g_sl (fun uZ=>slHB (some ⟨b5_7,0,none⟩) 32 32 j hj32 (Nat.le_refl _) (fun e=>by cases e) uZ))<|oc (g_pV 1 0 (U8 (ol)) zs (U8 (tn.take j)) Tryz.underlying36 hti hzv (by rw[hsz];rfl) rfl (fun f u kZ bZ=>NW_of_CV (kZ.cv 2) (by omega)) Ua (by rw[Z2,List.length_take,hsz,htn];omega) (by rw[Z2,hsz];omega) (by rw[hsz];omega) hmc (by rw[hby];omega) (by omega))<|oc (g_sE 0 1 (PH u6.heap.size bo ti.size (m+j) (U8 (ol)++U8 (tn.take j)))) on
    intro u7 v7_8 hv7_8 v7_9 hv7_9 HB7 sz7 K7
    simp only[sQ] at K7⊢
    clear K6 HB6
    obtain⟨bo2,cap2,zs2,rfl,hb2,hl2,hc2,hz2,Ko2⟩:=hv7_9 rfl
    rw[<-Wp] at Ko2
    rw[hsz] at hz2
    have Ko2:Hid _:=Ko2
    have K7_2:Bk w.heap.size u7 [(false,w.heap.size,U8 (ks)),(false,b5_7,U8 (tn)),(false,bo2,U8 (ol++tn.take j)++zs2)]:=⟨.c (K7.lt 0) (K7.cv 0)<| .c (K7.lt 1) (K7.cv 1)<| .c hl2 Ko2.out<|trivial,by simp;omega⟩
    go_upto_region 5 with fail
    refine rgP K7_2 HB7 HB7.size [] [] [(0,17,.int .u8 ((ib:Nat):Int)),(1,18,.int .u8 (((ib+1)%256:Nat):Int)),(2,9,.int .u8 (((ib+1)%256:Nat):Int))] [(2,0)] [(2,9)] [] ?_ ?_
    ·exact oc g_mv<|oc (g_bn (fun uZ=>add8 _ _ ib 1 uZ))<|oc g_as on
    intro u8 HB8 sz8 K8
    simp only[sQ] at K8⊢
    clear HB7
    go_wp2
    refine⟨⟨k+1,m+j,bo2,cap2,ol++tn.take j,zs2,by omega,by rw[hib.out],rfl,by omega,by omega,(K8.lt 2),hc2,by omega,(K8.cv 2),?_,(K8.cv 0),.inr ⟨by omega,b5_7,rfl,by omega,by omega,(K8.lt 1),?_⟩,HB8⟩,?_⟩
    ·show Hid _
     have:=hst.out
     rw[hol.out,hm2,List.take_of_length_le (by rw[hol2.out k];omega)]
     rw[show 32*k+j=min (32*(k+1)) n by omega]
     exact this
    ·rw[etn.out];exact(K8.cv 1)
    ·simp[lenV]<;>omega
   ·skip
    have hls:(tS k).length=32:=by obtain⟨k',rfl⟩: ∃k',k=k'+1:=⟨k -1,by omega⟩;exact htl.out k'
    obtain⟨ls,els⟩: ∃x,tS k=x:=⟨_,rfl⟩
    rw[els] at Kl hls hHk
    have hnK:=K3.n
    simp at hnK
    have hoK1:=K3.lo 1
    have K3_1:Bk w.heap.size wr [(false,w.heap.size,U8 (ks)),(true,bo,U8 (ol)++zs),(false,bl,U8 (ls))]:=⟨.c (by omega) Kk.out<| .o hlb (by omega) Ko.out<| .c hbll Kl.out<|trivial,by simp;omega⟩
    go_upto_region 4 with fail
    refine rgP K3_1 HBr HBr.size [] [] [(0,13,.slice (some ⟨bo,0,none⟩) m cap),(1,14,.int .i64 ((m:Nat):Int)),(2,15,.int .i64 ((n:Nat):Int)),(3,16,.bool true)] [] [] [] ?_ ?_
    ·exact oc g_mv<|oc (g_ln Tryz.underlying36)<|oc g_mv<|oc (g_bn (fun uZ=>Zr _ _ (m:Int) (n:Int) _ uZ hl1)) on
    intro u4 HB4 sz4 K4
    simp only[sQ] at K4⊢
    have hW0:0<u4.heap.size:=by have:=K4.lt 0;omega
    go_upto_region 6 with fail
    refine rgF K4 HB4 HB4.size [] [(7,10,U8 (z32),some (8,U8 (tn)))] [(0,19,.agg (U8 (ks)).toArray),(1,20,.slice (some ⟨bl,0,none⟩) 32 32),(2,21,tv),(3,22,.int .u8 ((ib:Nat):Int)),(6,25,.agg (U8 (tn)).toArray)] [(8,7)] [] [⟨4,23,some 5,PS w.heap.size 1 (U8 [ib])⟩,⟨5,24,some 6,PQ w.heap.size [ls,tx,[ib]]⟩] [true,true,false] (.cons (fun _ _ _ h1 h2=>h2.stab h1)<| .cons (fun _ _ _ h1 h2=>h2.stab h1)<|Stab.nil) ?_ ?_
    ·exact oc (g_lR 0 0 (cs:=U8 (ks)) (fun j v h=>by rw[Nat.zero_add];exact h) Tryz.underlying160 (by rw[Z2,hk64];exact Za))<|oc g_mv<|oc g_mv<|oc g_mv<|oc (g_bR 0 (PS w.heap.size 1 (U8 [ib])) [0] [.int .u8 ((ib:Nat):Int)] (U8 [ib]) (bsB1 ib) (fun u hu=>PS.new 1 _ _ u (Nat.le_trans HB4.size hu)))<|oc (g_bY 0 1 (PS w.heap.size 1 (U8 [ib])) (PQ w.heap.size [ls,tx,[ib]]) [0,1,2] (fun y=>[.slice (some ⟨bl,0,none⟩) 32 32,tv,y]) (fun w y hy=>bsE3 _ _ y w ⟨_,_,_,rfl⟩ htv.out.sl hy.sl) (fun f u y kZ bZ hs hy=>PQ.three _ bZ.size (CV_in hls (kZ.cv 2) (kZ.lb hs 2)) ((htv.out.below bZ).mono bZ.size) (PS_in hy)))<|oc (g_c2 1 (PQ w.heap.size [ls,tx,[ib]]) U1 (fun uZ y bZ hy=>hHk.out uZ y bZ hy))<|oc (g_al 0 Yl)<|oc (g_sn 0 Z3 (h1:=Yx _) (hm:=by rw[Z2,htn]) (hl:=by first | rw[Z2,Z2,htn,show z32.length=32 from rfl] | rfl)) on
    intro u5 b5_7 v5_4 hv5_4 v5_5 hv5_5 HB5 sz5 K5
    simp only[sQ] at K5⊢
    clear K4 HB4
    go_upto_region 7 with fail
    refine rgP K5 HB5 HB5.size [] [] [(0,26,.slice (some ⟨b5_7,0,none⟩) 32 32),(1,8,.slice (some ⟨b5_7,0,none⟩) 32 32)] [] [] [] ?_ ?_
    ·exact oc (g_sl (fun uZ=>sl32 b5_7 uZ))<|oc g_as on
    intro u6 HB6 sz6 K6
    simp only[sQ] at K6⊢
    clear K5 HB5
    have hlt10:=K6.lt 2
    have hlo10:=K6.lo 2
    have hnd:=K6.n
    simp at hnd
    go_upto_region 8 with fail
    refine rgF K6 HB6 HB6.size [.no,.all 8 ([])] [] [(0,27,.slice (some ⟨bo,0,none⟩) m cap),(1,28,.slice (some ⟨b5_7,0,none⟩) 32 32),(2,29,.int .i64 ((n:Nat):Int)),(3,30,.slice (some ⟨bo,0,none⟩) m cap),(4,31,.int .i64 ((m:Nat):Int)),(5,32,.int .i64 ((n -m:Nat):Int)),(6,33,.int .i64 ((j:Nat):Int)),(7,34,.slice (some ⟨b5_7,0,none⟩) j 32)] [(9,0),(9,3),(9,8)] [(9,7)] [⟨8,35,some 9,PH u6.heap.size bo ti.size (m+j) (U8 (ol)++U8 (tn.take j))⟩,⟨9,7,none,PH u6.heap.size bo ti.size (m+j) (U8 (ol)++U8 (tn.take j))⟩] [true,false] (.cons (fun _ _ _ h1 h2=>h2.stab h1)<| .cons (fun _ _ _ h1 h2=>h2.stab h1)<|Stab.nil) ?_ ?_
    ·exact oc g_mv<|oc g_mv<|oc g_mv<|oc g_mv<|oc (g_ln Tryz.underlying36)<|oc (g_bn (fun uZ=>Xm _ _ (n:Int) (m:Int) ((n -m:Nat):Int) uZ hnm (by omega) (by omega)))<|oc (g_mn hjm)<|oc (g_sl (fun uZ=>slHB (some ⟨b5_7,0,none⟩) 32 32 j hj32 (Nat.le_refl _) (fun e=>by cases e) uZ))<|oc (g_pV 1 0 (U8 (ol)) zs (U8 (tn.take j)) Tryz.underlying36 hti hzv (by rw[hsz];rfl) rfl (fun f u kZ bZ=>NW_of_CV (kZ.cv 2) (by omega)) Ua (by rw[Z2,List.length_take,hsz,htn];omega) (by rw[Z2,hsz];omega) (by rw[hsz];omega) hmc (by rw[hby];omega) (by omega))<|oc (g_sE 0 1 (PH u6.heap.size bo ti.size (m+j) (U8 (ol)++U8 (tn.take j)))) on
    intro u7 v7_8 hv7_8 v7_9 hv7_9 HB7 sz7 K7
    simp only[sQ] at K7⊢
    clear K6 HB6
    obtain⟨bo2,cap2,zs2,rfl,hb2,hl2,hc2,hz2,Ko2⟩:=hv7_9 rfl
    rw[<-Wp] at Ko2
    rw[hsz] at hz2
    have Ko2:Hid _:=Ko2
    have K7_2:Bk w.heap.size u7 [(false,w.heap.size,U8 (ks)),(false,b5_7,U8 (tn)),(false,bo2,U8 (ol++tn.take j)++zs2)]:=⟨.c (K7.lt 0) (K7.cv 0)<| .c (K7.lt 1) (K7.cv 1)<| .c hl2 Ko2.out<|trivial,by simp;omega⟩
    go_upto_region 5 with fail
    refine rgP K7_2 HB7 HB7.size [] [] [(0,17,.int .u8 ((ib:Nat):Int)),(1,18,.int .u8 (((ib+1)%256:Nat):Int)),(2,9,.int .u8 (((ib+1)%256:Nat):Int))] [(2,0)] [(2,9)] [] ?_ ?_
    ·exact oc g_mv<|oc (g_bn (fun uZ=>add8 _ _ ib 1 uZ))<|oc g_as on
    intro u8 HB8 sz8 K8
    simp only[sQ] at K8⊢
    clear HB7
    go_wp2
    refine⟨⟨k+1,m+j,bo2,cap2,ol++tn.take j,zs2,by omega,by rw[hib.out],rfl,by omega,by omega,(K8.lt 2),hc2,by omega,(K8.cv 2),?_,(K8.cv 0),.inr ⟨by omega,b5_7,rfl,by omega,by omega,(K8.lt 1),?_⟩,HB8⟩,?_⟩
    ·show Hid _
     have:=hst.out
     rw[hol.out,hm2,List.take_of_length_le (by rw[hol2.out k];omega)]
     rw[show 32*k+j=min (32*(k+1)) n by omega]
     exact this
    ·rw[etn.out];exact(K8.cv 1)
    ·simp[lenV]<;>omega
  ·have hl1:decide ((m:Int)<n)=false:=by simp;omega
   have hin:m=n:=by omega
   subst hin
   have hnK:=K3.n
   simp at hnK
   have hoK1:=K3.lo 1
   have K3_1:Bk w.heap.size wr [(false,bo,U8 (ol)++zs)]:=⟨.c hlb Ko.out<|trivial,by simp⟩
   go_upto_region 4 with fail
   refine rgP K3_1 HBr HBr.size [] [] [(0,13,.slice (some ⟨bo,0,none⟩) m cap),(1,14,.int .i64 ((m:Nat):Int)),(2,15,.int .i64 ((m:Nat):Int)),(3,16,.bool false)] [] [] [] ?_ ?_
   ·exact oc g_mv<|oc (g_ln Tryz.underlying36)<|oc g_mv<|oc (g_bn (fun uZ=>Zr _ _ (m:Int) (m:Int) _ uZ hl1)) on
   intro u4 HB4 sz4 K4
   simp only[sQ] at K4⊢
   go_upto_region 9 with fail
   refine rgP K4 HB4 HB4.size [] [] [(0,36,.slice (some ⟨bo,0,none⟩) m cap),(1,6,.slice (some ⟨bo,0,none⟩) m cap)] [] [] [] ?_ ?_
   ·exact oc g_mv<|oc g_as on
   intro u5 HB5 sz5 K5
   simp only[sQ] at K5⊢
   clear K4 HB4
   go_wp2
   refine bodyPost_ret (v:= .slice (some ⟨bo,0,none⟩) m cap) (by simp[results,Tryz.results129,go_sem]) rfl ⟨_,rfl,⟨k,by omega,bo,cap,rfl,by omega,(K5.lt 0),hmc,?_⟩,HB5⟩
   rw[<-hol.out];exact(K5.cv 0).pre2
def txt (s:ByteArray):List Nat:=s.data.toList.map (·.toNat)
theorem Wq (s:ByteArray):(txt s).length=s.size:=by unfold txt;rw[List.length_map,Array.length_toList];rfl
theorem txt_m (s:ByteArray): ∀x∈txt s,x<256:=fun x hx=>by
 obtain⟨y,_,rfl⟩:=List.mem_map.1 hx;exact y.toNat_lt
def PIN (xs:List Nat) (u:World) (y:Value):Prop:=IN u u.heap.size y xs
theorem PIN.stab {xs:List Nat} {u v:World} {x:Value} (hB:Bw u v) (h:PIN xs u x):PIN xs v x:=(IN.below h hB).mono hB.size
theorem cvSB {o:Oper} {ev:Operand->Value} {x:Operand} {s:ByteArray} (u:World) (ho:o.op= .convert 9 36 x) (hx:ev x= .string s): ∃v u',(execOp ev o).run Tryz.prog u= .ok (.value v) u'/\Bw u u'/\PIN (txt s) u' v:=by
 have hr:=Lib.run_convert_string_bytes (P:=Tryz.prog) u 9 36 5 s Tryz.underlying9 Tryz.underlying36 Tryz.underlying5
 have hsz:=Lib.bytesWorld_size u 5 s
 refine⟨.slice (some ⟨u.heap.size,0,none⟩) s.size (grownCap u s.size 0 5),Lib.bytesWorld u 5 s,?_,?_,?_⟩
 ·unfold execOp;rw[ho];simp only[hx,Sem.run_bind,hr,Result.andThen_ok,Sem.run_pure]
 ·exact⟨rfl,rfl,rfl,by omega,fun k hk=>Lib.bytesWorld_at_old u 5 s k hk⟩
 ·refine⟨_,_,u.heap.size,0,by rw[Wq],by rw[Wq];exact grownCap_ge u s.size 0 _,.inr rfl,by omega,fun j hj=>?_⟩
  rw[Wq] at hj
  rw[Nat.zero_add,Lib.bytesWorld_cell u 5 s j hj]
  have hj2:j<s.data.toList.length:=by rw[Array.length_toList];exact hj
  have e1:s.data.toList.getD j 0=s.data.toList[j]:=by rw[List.getD_eq_getElem?_getD,List.getElem?_eq_getElem hj2];rfl
  have e2:(txt s).getD j 0=(s.data.toList[j]).toNat:=by rw[List.getD_eq_getElem?_getD,txt,List.getElem?_map,List.getElem?_eq_getElem hj2];rfl
  rw[e1,e2]
theorem PQ_LV {lo:Nat} {ps:List (List Nat)} {u:World} {y:Value} (h:PQ lo ps u y):LV u y ps:=by
 obtain⟨b,cap,rfl,_,h2,h3⟩:=h
 exact⟨_,cap,b,0,rfl,.inr rfl,h2,h3⟩
theorem exT_m (k tx:List Nat): ∀i,(∀x∈exT k tx i,x<256)/\(exT k tx i).length<=32
 | 0=>by simp[exT]
 | i+1=>⟨(exT_B k tx i).mem,by rw[(exT_B k tx i).len];omega⟩
theorem cExpanded (ks tx:List Nat) (tv:Value) (n:Nat) (w:World) (hV:GV w) (hk:BB 64 ks) (hn:n<=8160) (htv:IN w w.heap.size tv tx) (hx: ∀x∈tx,x<256) (hl:tx.length<=10000):
 Calls Tryz.prog 129 #[.agg (U8 (ks)).toArray,tv,.int .i64 (n:Int)] w fun e w'=> ∃v,e= .returned v/\PS w.heap.size n (U8 (exN ks tx n)) w' v/\Bw w w':=by
 refine(cExpanded_core ks tx tv n (exT ks tx) (exS ks tx) w hk.len hn htv rfl (fun k=>(exT_B ks tx k).len) (Vd ks tx) (fun k h=>ex_step ks tx k n h) (fun k u y hB hy=>?_)).mono ?_
 ·obtain⟨m1,m2⟩:=exT_m ks tx k
  have e:exT ks tx (k+1)=hm ks ([exT ks tx k,tx,[(k+1)%256]]:List (List Nat)).flatten:=by
   rw[exT];congr 1;simp
  rw[e]
  obtain⟨a,ea⟩: ∃a,exT ks tx k=a:=⟨_,rfl⟩
  rw[ea] at hy m1 m2⊢
  exact cHmac ks [a,tx,[(k+1)%256]] y u (hV.below hB hV.sz) hk (PQ_LV hy) (by show 3<=100000;omega) (fun p hp=>by
   simp at hp
   rcases hp with rfl | rfl | rfl
   ·exact m1
   ·exact hx
   ·intro x hx;simp at hx;omega) (fun p hp=>by
   simp at hp
   rcases hp with rfl | rfl | rfl
   ·omega
   ·exact hl
   ·show 1<=10000;omega) (by
   rw[List.flatten_cons,List.flatten_cons,List.flatten_cons,List.flatten_nil,List.append_nil,List.length_append,List.length_append]
   show _+(_+1)<=_
   omega)
 ·rintro e w' ⟨v,e1,⟨k,h1,h2⟩,h3⟩
  rw[exN_of ks tx k n h1] at h2
  exact⟨v,e1,h2,h3⟩
theorem cExpand_core (kv:Value) (s:ByteArray) (n:Nat) (wk ex:List Nat) (w:World) (hn:n<=8160) (hWh:Hid (∀(u:World),Bw w u->CC 130 #[kv] u (.agg (U8 (wk)).toArray))) (hEx:Hid (∀(u:World) (y:Value),Bw w u->PIN (txt s) u y->Calls Tryz.prog 129 #[.agg (U8 (wk)).toArray,y,.int .i64 ((n:Nat):Int)] u fun e u'=> ∃v,e= .returned v/\PS w.heap.size n (U8 (ex)) u' v/\Bw u u')):
 Calls Tryz.prog 113 #[kv,.string s,.int .i64 ((n:Nat):Int)] w fun e w'=> ∃v,e= .returned v/\PT 0 w.heap.size n (U8 (ex)) w' v/\Bw w w':=by
 go_enter Tryz.func113,Tryz.ntmps113
 have HB0:Bw w w:=Below.refl _ _
 have hl1:decide ((n:Int)<0)=false:=by simp;try omega
 have hl2:decide ((8160:Int)<(n:Int))=false:=by simp;omega
 have K0_1:=Bk.nil (w.heap.size) w
 go_upto_region 1 with fail
 refine rgP K0_1 HB0 HB0.size [] [] [(0,9,.int .i64 ((n:Nat):Int)),(1,10,.bool false),(2,8,.bool false)] [] [] [] ?_ ?_
 ·exact oc g_mv<|oc (g_bn (fun uZ=>Zr _ _ (n:Int) 0 _ uZ hl1))<|oc g_as on
 intro u1 HB1 sz1 K1
 simp only[sQ] at K1⊢
 clear HB0
 go_upto_region 3 with fail
 refine rgP K1 HB1 HB1.size [] [] [(0,12,.int .i64 ((n:Nat):Int)),(1,13,.bool false),(2,11,.bool false)] [] [] [] ?_ ?_
 ·exact oc g_mv<|oc (g_bn (fun uZ=>gtr_i _ _ (n:Int) 8160 _ uZ hl2))<|oc g_as on
 intro u2 HB2 sz2 K2
 simp only[sQ] at K2⊢
 clear K1 HB1
 go_upto_region 5 with fail
 refine rgF K2 HB2 HB2.size [] [] [(0,14,kv),(1,15,.agg (U8 (wk)).toArray),(2,16,.string s),(4,18,.int .i64 ((n:Nat):Int)),(7,7,(Go.Value.int Go.IntKind.i64 0))] [] [] [⟨3,17,some 5,PIN (txt s)⟩,⟨5,19,some 6,PS w.heap.size n (U8 (ex))⟩,⟨6,6,none,PS w.heap.size n (U8 (ex))⟩] [] (.cons (fun _ _ _ h1 h2=>h2.stab h1)<| .cons (fun _ _ _ h1 h2=>h2.stab h1)<| .cons (fun _ _ _ h1 h2=>h2.stab h1)<|Stab.nil) ?_ ?_
 ·exact oc g_mv<|oc (g_cb Th (fun uZ bZ=>hWh.out uZ bZ))<|oc g_mv<|oc (g_vE 0 (PIN (txt s)) (fun ev u he bZ hs=>cvSB u rfl (he _ _ rfl)))<|oc g_mv<|oc (g_cZ 0 1 (PIN (txt s)) (PS w.heap.size n (U8 (ex))) (fun y=>[.agg (U8 (wk)).toArray,y,.int .i64 ((n:Nat):Int)]) Sl (fun u y bZ hs hy=>hEx.out u y bZ hy))<|oc (g_sE 1 2 (PS w.heap.size n (U8 (ex))))<|oc g_as on
 intro u3 v3_3 hv3_3 v3_5 hv3_5 v3_6 hv3_6 HB3 sz3 K3
 simp only[sQ] at K3⊢
 clear K2 HB2
 have hz:=hv3_6 rfl
 go_wp2
 refine bodyPost_ret (v:= .tuple #[v3_6,.int .i64 0]) (by simp[results,Tryz.results113,go_sem]) rfl ⟨_,rfl,⟨_,rfl,hz⟩,HB3⟩
theorem cExpand (ks:List Nat) (v:Value) (s:ByteArray) (n:Nat) (w:World) (hV:GV w) (hin:IN w w.heap.size v ks) (hsn: ∀n c,v= .slice none n c->c=0) (hk: ∀x∈ks,x<256) (hkl:ks.length<=10000) (hs:s.size<=10000) (hn:n<=8160):
 Calls Tryz.prog 113 #[v,.string s,.int .i64 ((n:Nat):Int)] w fun e w'=> ∃v,e= .returned v/\PT 0 w.heap.size n (U8 (exN (whl ks) (txt s) n)) w' v/\Bw w w':=
 cExpand_core v s n (whl ks) _ w hn (fun u hB=>cWhole ks v u (hV.below hB hV.sz) ((hin.below hB).mono hB.size) hsn hk hkl) (fun u y hB hy=>
  (cExpanded (whl ks) (txt s) y n u (hV.below hB hV.sz) (whl_B hk) hn hy (txt_m s) (by rw[Wq];exact hs)).mono fun e u' ⟨v,e1,h1,h2⟩=>⟨v,e1,h1.mono hB.size,h2⟩)
def INb (u:World) (b:Nat) (v:Value) (p:List Nat):Prop:= ∃(sl:Option Addr) (cap gb go:Nat),v= .slice sl p.length cap/\p.length<=cap/\(p.length=0\/sl=some ⟨gb,go,none⟩)/\gb<u.heap.size/\gb≠b/\SB u gb go p
theorem INb.inn {u:World} {b:Nat} {v:Value} {p:List Nat} (h:INb u b v p):IN u u.heap.size v p:=by
 obtain⟨sl,cap,gb,go,e,h1,h2,h3,_,h5⟩:=h
 exact⟨sl,cap,gb,go,e,h1,h2,h3,h5⟩
theorem INb.below {u u':World} {b:Nat} {v:Value} {p:List Nat} (h:INb u b v p) (hB:Bw u u'):INb u' b v p:=by
 obtain⟨sl,cap,gb,go,e,h1,h2,h3,h4,h5⟩:=h
 exact⟨sl,cap,gb,go,e,h1,h2,Nat.lt_of_lt_of_le h3 hB.size,h4,h5.below hB h3⟩
theorem IN.nb {u:World} {m b:Nat} {v:Value} {p:List Nat} (h:IN u m v p) (hm:m<=b) (hs:m<=u.heap.size):INb u b v p:=by
 obtain⟨sl,cap,gb,go,e,h1,h2,h3,h5⟩:=h
 exact⟨sl,cap,gb,go,e,h1,h2,by omega,by omega,h5⟩
theorem INb.put {u:World} {b:Nat} {v:Value} {p:List Nat} (h:INb u b v p) (o:Nat) (ws:List Value):INb (u.setCells b o ws) b v p:=by
 obtain⟨sl,cap,gb,go,e,h1,h2,h3,h4,h5⟩:=h
 refine⟨sl,cap,gb,go,e,h1,h2,by rw[Z8];exact h3,h4,fun j hj=>?_⟩
 have hk:=World.heap_setCells_other u b o ws h3 h4
 rw[World.cell?_of_block (a:=⟨gb,go+j,none⟩) hk];exact h5 j hj
theorem CV.oth {u:World} {b b' o:Nat} {l ws:List Value} (h:CV u b l) (hne:b≠b') (hb:b<u.heap.size):CV (u.setCells b' o ws) b l:=fun j v hj=>by
 have hk:=World.heap_setCells_other u b' o ws hb hne
 rw[World.cell?_of_block (a:=⟨b,j,none⟩) hk,World.frozen?_of_block (a:=⟨b,j,none⟩) hk]
 exact h j v hj
theorem CV.all {u:World} {b:Nat} {ys ds:List Value} (h:CV u b ys) (hl:ys.length=ds.length):CV (u.setCells b 0 ds) b ds:=by
 have h2:CV u b ([]++ys++[]):=by simpa using h
 have:=h2.mid (o:=0) (news:=ds) rfl hl
 simpa using this
theorem c8:Tryz.prog.cellsOf 5=1:=by kernel_rfl
section
section
variable {R:Rg} {P:Program} {ops:Array Oper} {Q:Exit->Act->World->Prop} {f:Nat->Bool} {t:Nat->Value} {u:World} {a:Act} {i:Nat} {o:Oper}
end
theorem whl_zeros (ks:List Nat) (z:Nat) (h:ks.length+z<=64):whl (ks++List.replicate z 0)=whl ks:=by
 have e1:whk (ks++List.replicate z 0)=ks++List.replicate z 0:=by unfold whk;rw[if_neg (by rw[List.length_append,List.length_replicate];omega)]
 have e2:whk ks=ks:=by unfold whk;rw[if_neg (by omega)]
 unfold whl
 rw[e1,e2,List.length_append,List.length_replicate,List.append_assoc,List.replicate_append_replicate]
 congr 2
 omega
end
end Go.Proofs.YtknpepgonhdbgaaGreatDoor
