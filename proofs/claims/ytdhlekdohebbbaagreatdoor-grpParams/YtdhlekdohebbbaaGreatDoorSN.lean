import Derived.Test.YtdhlekdohebbbaaGreatDoorSH7
import Derived.Deep.Upon
import Derived.Lib.SlBytesConst
namespace Go.Proofs.YtdhlekdohebbbaaGreatDoor
set_option linter.unusedVariables false
set_option linter.unusedSimpArgs false
set_option maxRecDepth 100000
set_option maxHeartbeats 4000000
section
open Go.RowKit
section
def tk1(q:List Nat×List Nat×Nat)(x:Nat):List Nat×List Nat×Nat:=
 (if (q.2.2+1)%64=0 then blk q.1 (q.2.1.set (q.2.2%64) x) else q.1,q.2.1.set (q.2.2%64) x,q.2.2+1)
def tkA(q:List Nat×List Nat×Nat)(xs:List Nat):List Nat×List Nat×Nat:=xs.foldl tk1 q
theorem Ut(q:List Nat×List Nat×Nat)(xs ys:List Nat):tkA q (xs++ys)=tkA (tkA q xs) ys:=List.foldl_append
theorem tkA_is(q:List Nat×List Nat×Nat)(xs:List Nat): ∀j,j<=xs.length->tkA q (xs.take j)=(tkS q.2.2 q.1 q.2.1 xs j,tkB q.2.2 q.2.1 xs j,q.2.2+j)
 | 0,_=>by simp[tkA,tkS,tkB]
 | j+1,h=>by
  have hg:xs.getD j 0=xs[j]:=by simp[List.getElem?_eq_getElem (show j<xs.length by omega)]
  rw[List.take_succ_eq_append_getElem (by omega),Ut,tkA_is q xs j (by omega)]
  show tk1 _ _=_
  unfold tk1
  simp only[tkS,tkB,hg,Nat.add_assoc]
theorem tkA_all(q:List Nat×List Nat×Nat)(xs:List Nat):tkA q xs=(tkS q.2.2 q.1 q.2.1 xs xs.length,tkB q.2.2 q.2.1 xs xs.length,q.2.2+xs.length):=by
 have:=tkA_is q xs xs.length (Nat.le_refl _)
 rwa [List.take_length] at this
structure QW(q:List Nat×List Nat×Nat):Prop where
 s:WW 8 q.1
 b:BB 64 q.2.1
theorem QW.go{q:List Nat×List Nat×Nat}(h:QW q)(xs:List Nat)(hx: ∀j,xs.getD j 0<256):QW (tkA q xs):=by
 rw[tkA_all];exact⟨tkS_W h.s _,tkB_B h.b hx _⟩
theorem tkA_c(q:List Nat×List Nat×Nat)(xs:List Nat):(tkA q xs).2.2=q.2.2+xs.length:=by rw[tkA_all]
abbrev RQ(q:List Nat×List Nat×Nat):List Value:=RB q.1 q.2.1 q.2.2
theorem cTakeB(xs:List Nat)(q:List Nat×List Nat×Nat)(b0 gb go cap:Nat)(sl:Option Addr)(w:World)(hq:QW q)(hx: ∀j,xs.getD j 0<256)(hxl:xs.length<=10000)(hc:q.2.2<=1000000)(hcap:xs.length<=cap)(hsl:xs.length=0\/sl=some ⟨gb,go,none⟩)(h1b:7<b0)(hlt:b0<w.heap.size)(hV:GV w)(hgb:gb<b0)(hsrc:SB w gb go xs)(hcv:CV w b0 (RQ q)):
 Calls Tryz.prog 134 #[.pointer (some ⟨b0,0,none⟩),.slice sl xs.length cap] w fun e w'=>e= .returned (.tuple #[])/\Below b0 w w'/\CV w' b0 (RQ (tkA q xs)):=by
 have h:=cTake_b xs (tkS q.2.2 q.1 q.2.1 xs) (tkB q.2.2 q.2.1 xs) q.2.2 b0 gb go cap sl w hxl hc hcap hsl h1b hlt hV hgb hsrc hcv (tkB_B hq.b hx) (tkS_W hq.s) (fun j k n h1 h2 h3=>tkB_many _ _ _ hq.b.len j k h1 n h2 h3) (fun j k n h1 h2 h3 h4=>by
  obtain⟨m,rfl⟩: ∃m,n=m+1:=⟨n -1,by omega⟩
  exact tkS_many _ _ _ _ j k h1 m h3)
 rw[tkA_all];exact h
theorem cTakeO(xs:List Nat)(q:List Nat×List Nat×Nat)(b0 gb cap:Nat)(w:World)(hq:QW q)(hx: ∀j,xs.getD j 0<256)(hxl:xs.length<=10000)(hc:q.2.2<=1000000)(hcap:xs.length<=cap)(h1b:7<b0)(hlt:b0<w.heap.size)(hV:GV w)(hne:gb≠b0)(hglt:gb<w.heap.size)(hsrc:CV w gb (U8 xs))(hcv:CV w b0 (RQ q)):
 Calls Tryz.prog 134 #[.pointer (some ⟨b0,0,none⟩),.slice (some ⟨gb,0,none⟩) xs.length cap] w fun e w'=>e= .returned (.tuple #[])/\Below b0 w w'/\CV w' b0 (RQ (tkA q xs)):=by
 have h:=cTake_o xs (tkS q.2.2 q.1 q.2.1 xs) (tkB q.2.2 q.2.1 xs) q.2.2 b0 gb cap (some ⟨gb,0,none⟩) w hxl hc hcap (.inr rfl) h1b hlt hV hne hglt hsrc hcv (tkB_B hq.b hx) (tkS_W hq.s) (fun j k n h1 h2 h3=>tkB_many _ _ _ hq.b.len j k h1 n h2 h3) (fun j k n h1 h2 h3 h4=>by
  obtain⟨m,rfl⟩: ∃m,n=m+1:=⟨n -1,by omega⟩
  exact tkS_many _ _ _ _ j k h1 m h3)
 rw[tkA_all];exact h
theorem BB.all{n:Nat}{l:List Nat}(h:BB n l): ∀j,l.getD j 0<256:=h.lt
def q00:List Nat×List Nat×Nat:=(fst8,z64,0)
theorem q00_W:QW q00:=⟨⟨rfl,fun j=>by
 by_cases h:j<8
 ·exact(by decide: ∀j,j<8->fst8.getD j 0<M32) j h
 ·rw[List.getD_eq_getElem?_getD,List.getElem?_eq_none (by show 8<=j;omega)];decide⟩,BB_rep 64⟩
def dig(xs:List Nat):List Nat:=told (tkA q00 (xs++Vm xs.length)).1
section
variable {R:Rg} {P:Program} {ops:Array Oper} {Q:Exit->Act->World->Prop} {f:Nat->Bool} {t:Nat->Value} {u:World} {a:Act} {i:Nat} {o:Oper}
theorem g_lgR(b c:Nat){T:TypeId}{x:Operand}{cs:List Value}{dd:TypeDesc}(hl: ∀j v,cs[j]?=some v->R.w.cell? ⟨b,c+j,none⟩=some v)(hb:b<R.lo)(hu:P.underlying T=some dd)(hi:(P.info? T).map (·.size)=some cs.length)(hop:o.op= .load T x:=by rfl)(hx:evR R i o x=some (.pointer (some ⟨b,c,none⟩)):=by rfl)
 (hr:dd.isRow=true:=by rfl)(hv:some (.agg cs.toArray)=Y4 i R.G:=by rfl)(hc:R.chk ops i o=true:=by rfl):OG R P ops Q i o:=
 Yg hv hc fun f t u a X K hK=>wp_load_mid T x hop b c (X.ev hx) cs dd (fun j v hj=>(X.I.1.bel.cell (p:=⟨b,c+j,none⟩) hb).trans (hl j v hj)) hu hr hi hK
theorem g_cxb(k:Nat){N:FuncId}{args:List Operand}{tys:Array TypeId}{vs:List Value}{v:Value}{b:Nat}{l post:List Value}(hr: ∀(vs:Array Value) (w:World),(callFunc N vs).run P w= .ok (.enter N vs) w)
 (hcall: ∀f w,KC f w R.lo R.base R.es->R.base<=w.heap.size->Below R.lo R.w w->CV w b l->Calls P N vs.toArray w fun e w'=>e= .returned v/\Below b w w'/\CV w' b post)(hlt:LtB b (R.es.eraseIdx k))(hop:o.op= .call {callee:= .value (.func N),args:=args.toArray,argTypes:=tys}:=by rfl)(hn:R.es[k]?=some (true,b,l,.all i post):=by rfl)(hx:args.mapM (evR R i o)=some vs:=by rfl)(hv:some v=Y4 i R.G:=by rfl)
 (hw:R.nw=[]:=by rfl)(hE:R.E=[]:=by rfl)(hc:((match o.dst with | some d=>Tl i d R.G&&Vy i d R.Ns&&R.S.contains d | none=>false)&&R.okO i o&&((R.es.eraseIdx k).all fun q=>q.2.2.2.free i)&&(V8 R ops o==some true))=true:=by rfl):OG R P ops Q i o:=fun f t u a X=>by
 cases hd:o.dst with
 | none=>rw[hd] at hc;simp at hc
 | some d=>
  rw[hd] at hc
  simp only[Bool.and_eq_true,List.contains_iff_mem,beq_iff_eq] at hc
  obtain⟨q1,q2,q3⟩:=X.I.2.1.get hn
  have q3:CV u b (bif f i then post else l):=q3
  rw[X.fi] at q3
  have q3:CV u b l:=q3
  refine X.go hc.2 fun K hK=>wp_callX hop (X.evs hx) hr (B:=fun w'=>Below b u w'/\CV w' b post) ((hcall f u X.I.2.1 X.I.1.sz X.I.1.bel q3)) fun w' hB=>hK _ _ ⟨updT t d v,by rw[hd];exact X.F.put X.parts.1 hc.1.1.1.2 v,?_,?_,Gs.stepA X.I.2.2.1 hc.1.1.1.1.1 hv.symm,X8 hc.1.1.2 X.I.2.2.2.1 X.dep,Ns.step X.I.2.2.2.2.1 hc.1.1.1.1.2,by rw[hE];trivial⟩
  ·have hM:=X.I.1
   rw[hw] at hM⊢
   exact{bel:=hM.bel.trans (hB.1.mono (q2 rfl)),lo:=hM.lo,sz:=Nat.le_trans hM.sz hB.1.size,ks:=trivial,ex:=trivial,nw:=trivial,nd:=trivial}
  ·exact KC.putB hB.1 X.I.2.1 hn hlt hc.1.2 (by simp only[Wr.val,Yw,cond_true];exact hB.2)
theorem g_cy(k:Nat)(p:World->Value->Prop){N:FuncId}{j dy:Nat}{x:Operand}{tys:Array TypeId}{vx v:Value}{b:Nat}{l post:List Value}(hr: ∀(vs:Array Value) (w:World),(callFunc N vs).run P w= .ok (.enter N vs) w)
 (hcall: ∀f w y,KC f w R.lo R.base R.es->R.base<=w.heap.size->Below R.lo R.w w->p w y->CV w b l->Calls P N #[vx,y] w fun e w'=>e= .returned v/\Below b w w'/\CV w' b post)(hlt:LtB b (R.es.eraseIdx k))(hop:o.op= .call {callee:= .value (.func N),args:=[x,.tmp dy].toArray,argTypes:=tys}:=by rfl)(hn:R.es[k]?=some (true,b,l,.all i post):=by rfl)(hx:evR R i o x=some vx:=by rfl)(hE:R.E=[⟨j,dy,some i,p⟩]:=by rfl)(hdd:(Yb o j&&R.S.contains dy)=true:=by rfl)(hv:some v=Y4 i R.G:=by rfl)
 (hw:R.nw=[]:=by rfl)(hc:((match o.dst with | some d=>Tl i d R.G&&Vy i d R.Ns&&R.S.contains d | none=>false)&&R.okO i o&&((R.es.eraseIdx k).all fun q=>q.2.2.2.free i)&&(V8 R ops o==some true))=true:=by rfl):OG R P ops Q i o:=fun f t u a X=>by
 rw[Bool.and_eq_true,List.contains_iff_mem] at hdd
 obtain⟨h2,h4⟩:=hdd
 have hy:p u (t dy):=X.val (n:=0) (q:=⟨j,dy,some i,p⟩) (by rw[hE];rfl) h2 rfl
 cases hd:o.dst with
 | none=>rw[hd] at hc;simp at hc
 | some d=>
  rw[hd] at hc
  simp only[Bool.and_eq_true,List.contains_iff_mem,beq_iff_eq] at hc
  obtain⟨q1,q2,q3⟩:=X.I.2.1.get hn
  have q3:CV u b (bif f i then post else l):=q3
  rw[X.fi] at q3
  have q3:CV u b l:=q3
  refine X.go hc.2 fun K hK=>wp_callX (vs:=[vx,t dy]) hop (by rw[List.map_cons,List.map_cons,List.map_nil,X.ev hx,X.inS h4]) hr (B:=fun w'=>Below b u w'/\CV w' b post) ((hcall f u (t dy) X.I.2.1 X.I.1.sz X.I.1.bel hy q3)) fun w' hB=>hK _ _ ⟨updT t d v,by rw[hd];exact X.F.put X.parts.1 hc.1.1.1.2 v,?_,?_,Gs.stepA X.I.2.2.1 hc.1.1.1.1.1 hv.symm,X8 hc.1.1.2 X.I.2.2.2.1 X.dep,Ns.step X.I.2.2.2.2.1 hc.1.1.1.1.2,?_⟩
  ·have hM:=X.I.1
   rw[hw] at hM⊢
   exact{bel:=hM.bel.trans (hB.1.mono (q2 rfl)),lo:=hM.lo,sz:=Nat.le_trans hM.sz hB.1.size,ks:=trivial,ex:=trivial,nw:=trivial,nd:=trivial}
  ·exact KC.putB hB.1 X.I.2.1 hn hlt hc.1.2 (by simp only[Wr.val,Yw,cond_true];exact hB.2)
  ·rw[hE]
   exact⟨fun _ h=>(by have h3:=h i rfl;rw[Yw] at h3;cases h3),trivial⟩
end
theorem al_sha_running(w:World):(Instr.alloc 177 true (.tuple #[])).run Tryz.prog w= .ok (.pointer (some ⟨w.heap.size,0,none⟩)) (w.alloc (.cells (RB z8 z64 0).toArray 177)):=by kernel_rfl
theorem Tm:(Tryz.prog.info? 177).map (·.size)=some 73:=by kernel_rfl
theorem bd_running(w:World):(Instr.build 177 [(0,.agg (U32 fst8).toArray)].toArray).run Tryz.prog w= .ok (.agg (RB fst8 z64 0).toArray) w:=by kernel_rfl
theorem lSl{b c n cap:Nat}{sl:Option Addr}(w:World)(h:w.cell? ⟨b,c,none⟩=some (.slice sl n cap)):(Instr.loadAt 46 (.pointer (some ⟨b,c,none⟩))).run Tryz.prog w= .ok (.slice sl n cap) w:=by go_simp
theorem ixSl(b o n cap k:Nat)(w:World)(hk:k<n):(Instr.indexAt 120 (.slice (some ⟨b,o,none⟩) n cap) (iI (k:Int))).run Tryz.prog w= .ok (.pointer (some ⟨b,o+k,none⟩)) w:=by
 have h2:(k:Int)<n:=by omega
 go_simp
end
theorem GVf{w:World}(h:GV w): ∀j v,(U32 fst8)[j]?=some v->w.cell? ⟨6,j,none⟩=some v:=fun j v hj=>by
 have hl:j<8:=by have:=(List.getElem?_eq_some_iff.1 hj).1;rwa [Ze] at this
 rw[Y8 fst8 j hl] at hj
 cases hj
 exact h.f j hl
theorem cParts_core(n gl go gcap m c':Nat)(sl:Nat->Option Addr)(ln cp c:Nat->Nat)(s b:Nat->List Nat)(s' b' ds es:List Nat)(w:World)(hgl:gl<w.heap.size)(hn:n<=1000000)(hV:GV w)(hld:Hid (∀i,i<n->w.cell? ⟨gl,go+i,none⟩=some (.slice (sl i) (ln i) (cp i))))(h0s:Hid (s 0=fst8))(h0b:Hid (b 0=z64))(h0c:Hid (c 0=0))(hs8:(s n).length=8)(hb64:(b n).length=64)(hs8':s'.length=8)(hds:ds.length=32)
 (hTk:Hid (∀i,i<n-> ∀(u:World) (b0:Nat),Bw w u->w.heap.size<=b0->b0<u.heap.size->CV u b0 (RB (s i) (b i) (c i))->Calls Tryz.prog 134 #[.pointer (some ⟨b0,0,none⟩),.slice (sl i) (ln i) (cp i)] u fun e u'=>e= .returned (.tuple #[])/\Below b0 u u'/\CV u' b0 (RB (s (i+1)) (b (i+1)) (c (i+1)))))
 (hEn:Hid (∀u,Calls Tryz.prog 135 #[iU ((c n:Nat):Int)] u fun e u'=> ∃v,e= .returned v/\PF u.heap.size m (U8 es) u' v/\Bw u u'))
 (hTe:Hid (∀(u:World) (y:Value) (b0:Nat),Bw w u->w.heap.size<=b0->b0<u.heap.size->PF (b0+1) m (U8 es) u y->CV u b0 (RB (s n) (b n) (c n))->Calls Tryz.prog 134 #[.pointer (some ⟨b0,0,none⟩),y] u fun e u'=>e= .returned (.tuple #[])/\Below b0 u u'/\CV u' b0 (RB (s') (b') (c'))))
 (hTo:Hid (∀u,CC 136 #[.agg (U32 (s')).toArray] u (.agg (U8 ds).toArray))):
 CC 128 #[(.slice (some ⟨gl,go,none⟩) n gcap)] w (.agg (U8 ds).toArray):=by
 go_enter Tryz.func128,Tryz.ntmps128
 go_upto_region 1 with fail
 generalize hC:(w.alloc (.cells (Z32b:List Value).toArray 117))=v0 at *
 have HB0:Bw w v0:=by rw[<-hC];exact Z7 (Zx w) _
 have K0:Bk w.heap.size v0 [(true,w.heap.size,U8 z32)]:=by rw[<-hC];exact(Bk.nil _ w).ad
 clear hC
 refine Rp K0 HB0 [] [(2,3,RB z8 z64 (0),some (3,RB fst8 z64 (0)))] [(0,6,_),(1,7,_)] [(3,2)] [] [] (oc (g_lgR 6 0 (cs:=U32 fst8) (fun j v hj=>by rw[Nat.zero_add];exact GVf hV j v hj) (by exact Nat.lt_of_le_of_lt (by decide) hV.sz) Tryz.underlying172 Zd)<|oc (g_bd bd_running)<|oc (g_al 0 al_sha_running)<|oc (g_sn 0 Tm) on) fun u1 b1_2 HB1 _ K1=>?_
 simp only[sQ] at K1⊢
 go_upto_region 2 with fail
 refine Rn K1 HB1 (cG 0 8 [_,_,_] []) (oc g_mv<|oc (g_ln Tryz.underlying120)<|oc g_mv on) fun u2 HB2 _ K2=>?_
 simp only[sQ] at K2⊢
 go_wp2_with fail
 go_loopw [10] (fun s10 wr=> ∃(i:Nat),i<=n/\s10=iI (i:Int)/\Bw w wr/\Hid (CV wr (w.heap.size) (U8 z32))/\w.heap.size<wr.heap.size/\Hid (CV wr b1_2 (RB (s i) (b i) (c i)))/\b1_2<wr.heap.size) (fun s10 _=>n -(intOf s10).toNat)
 case atStart=>exact⟨0,by omega,rfl,HB2,(K2.cv 0),(K2.lt 0),(by rw[h0s.out,h0b.out,h0c.out];exact(K2.cv 1)),(K2.lt 1)⟩
 case round=>
  obtain⟨i,hi,rfl,HBr,Kz,lz,Kr,lr⟩:=hrel
  have hlo:=K2.lo 1
  have hnd:=K2.n
  simp at hnd
  by_cases hj:i<n
  ·have hl1:decide ((i:Int)<n)=true:=by simp;omega
   have hk:=hTk.out i hj
   have hi1:=hld.out i hj
   obtain⟨si,esi⟩: ∃x,s i=x:=⟨_,rfl⟩
   obtain⟨bi,ebi⟩: ∃x,b i=x:=⟨_,rfl⟩
   obtain⟨ci,eci⟩: ∃x,c i=x:=⟨_,rfl⟩
   obtain⟨sj,esj⟩: ∃x,s (i+1)=x:=⟨_,rfl⟩
   obtain⟨bj,ebj⟩: ∃x,b (i+1)=x:=⟨_,rfl⟩
   obtain⟨cj,ecj⟩: ∃x,c (i+1)=x:=⟨_,rfl⟩
   rw[esi,ebi,eci] at Kr hk
   rw[esj,ebj,ecj] at hk
   have hk:Hid _:=hk
   have hi1:Hid _:=hi1
   have esj:Hid _:=esj
   have ebj:Hid _:=ebj
   have ecj:Hid _:=ecj
   clear esi ebi eci
   have hnK:=K2.n
   simp at hnK
   have hoK1:=K2.lo 1
   have K2_1:Bk w.heap.size wr [(false,w.heap.size,U8 z32),(true,b1_2,RB si bi ci)]:=⟨.c lz Kz.out<| .o lr (K2.lo 1) Kr.out<|trivial,by simp;omega⟩
   go_upto_region 3 with fail
   refine Rn K2_1 HBr [(0,11,_)] (oc (g_bn (fun uZ=>Zg _ _ (i:Int) (n:Int) _ uZ hl1)) on) fun u3 HB3 sz3 K3=>?_
   simp only[sQ] at K3⊢
   go_upto_region 4 with fail
   refine Rn K3 HB3 [(0,12,_),(1,13,_),(2,5,_)] (oc (g_ix (fun uZ=>ixSl gl go n gcap i uZ hj))<|oc (g_lg gl (go+i) lSl (hi1.out) hgl)<|oc g_as on) fun u4 HB4 sz4 K4=>?_
   simp only[sQ] at K4⊢
   go_upto_region 5 with fail
   refine Rp K4 HB4 [.no,.all 1 (RB sj bj cj)] [] [(0,14,_),(1,15,_)] [] [] [] (oc g_mv<|oc (g_cxb 1 Xi (fun f u kZ sZ bZ cv=>hk.out u b1_2 bZ (by omega) (kZ.lb sZ 1) cv) ⟨(by simp<;>omega),trivial⟩) on) fun u5 HB5 sz5 K5=>?_
   simp only[sQ] at K5⊢
   go_upto_region 6 with fail
   refine Rp K5 HB5 [] [] [(0,16,_),(1,10,_)] [(1,0)] [(1,10)] [] (oc (g_bn (fun uZ=>Zy _ _ (i:Int) 1 ((i+1:Nat):Int) uZ (by omega) (by omega) (by omega)))<|oc g_mv on) fun u6 HB6 _ K6=>?_
   simp only[sQ] at K6⊢
   go_wp2
   refine⟨⟨i+1,by omega,rfl,HB6,(K6.cv 0),(K6.lt 0),(by rw[esj.out,ebj.out,ecj.out];exact(K6.cv 1)),(K6.lt 1)⟩,?_⟩
   simp[intOf]<;>omega
  ·have hl1:decide ((i:Int)<n)=false:=by simp;omega
   have hin:i=n:=by omega
   subst hin
   obtain⟨si,esi⟩: ∃x,s i=x:=⟨_,rfl⟩
   obtain⟨bi,ebi⟩: ∃x,b i=x:=⟨_,rfl⟩
   obtain⟨ci,eci⟩: ∃x,c i=x:=⟨_,rfl⟩
   have hTe:=hTe.out
   have hEn:=hEn.out
   rw[esi] at Kr hs8 hTe
   rw[ebi] at Kr hb64 hTe
   rw[eci] at Kr hTe hEn
   have hTe:Hid _:=hTe
   have hEn:Hid _:=hEn
   clear esi ebi eci
   have hnK:=K2.n
   simp at hnK
   have hoK1:=K2.lo 1
   have K2_1:Bk w.heap.size wr [(true,w.heap.size,U8 z32),(true,b1_2,RB si bi ci)]:=⟨.o lz (K2.lo 0) Kz.out<| .o lr (K2.lo 1) Kr.out<|trivial,by simp;omega⟩
   go_upto_region 3 with fail
   refine Rn K2_1 HBr [(0,11,_)] (oc (g_bn (fun uZ=>Zg _ _ (i:Int) (i:Int) _ uZ hl1)) on) fun u3 HB3 sz3 K3=>?_
   simp only[sQ] at K3⊢
   have hb3:=(K3.lt 1)
   go_upto_region 7 with fail
   refine Rf K3 HB3 [.no,.all 3 (RB (s') (b') (c'))] [] [(0,17,_),(1,18,_),(3,20,_)] [(3,1),(2,1)] [] [⟨2,19,some 3,PF u3.heap.size m (U8 es)⟩] [] (oc (g_fd (fdR2 _))<|oc (g_lw 1 (72) l64 (RB_c hs8 hb64))<|oc (g_cE 0 (PF u3.heap.size m (U8 es)) ent_sha_ending (fun u hB hs=>(hEn.out u).mono fun e u2 ⟨v,e1,h1,h2⟩=>⟨v,e1,h1.mono hs,h2⟩))<|oc (g_cy 1 (PF u3.heap.size m (U8 es)) Xi (fun f u y kZ sZ bZ hy cv=>hTe.out u y b1_2 bZ (by omega) (kZ.lb sZ 1) (hy.mono hb3) cv) ⟨(by simp<;>omega),trivial⟩) on) fun u4 v4_2 hv4_2 HB4 sz4 K4=>?_
   simp only[sQ] at K4⊢
   go_upto_region 8 with fail
   refine Rp K4 HB4 [.all 3 (U8 ds)] [] (cG 0 21 [_,_,_] []) [] [] [true,false] (oc (g_fd (fdR0 _))<|oc (g_lR 1 (0) (cs:=U32 (s')) RB_ss Tryz.underlying172 (by rw[Ze,hs8'];exact Zd))<|oc (g_cl ent_sha_told hTo.out)<|oc (g_st 0 Z5 (h1:=Yv _) (hm:=by rw[Z2,hds]) (hl:=by rw[Z2,Z2,hds,show z32.length=32 from rfl])) on) fun u5 HB5 sz5 K5=>?_
   simp only[sQ] at K5⊢
   go_wp2
   refine bodyPost_ret (Y3 Tryz.results128 rfl (K5.cv 0) Tryz.underlying117 rfl (by rw[Z2,hds];exact Z5)) rfl ⟨rfl,HB5⟩
def IN(w:World)(m:Nat)(v:Value)(xs:List Nat):Prop:= ∃(sl:Option Addr) (cap gb go:Nat),v= .slice sl xs.length cap/\xs.length<=cap/\(xs.length=0\/sl=some ⟨gb,go,none⟩)/\gb<m/\SB w gb go xs
theorem IN.below{w u:World}{m:Nat}{v:Value}{xs:List Nat}(h:IN w m v xs)(hB:Below m w u):IN u m v xs:=by
 obtain⟨sl,cap,gb,go,e,h1,h2,h3,h4⟩:=h
 exact⟨sl,cap,gb,go,e,h1,h2,h3,h4.below hB h3⟩
theorem IN.mono{w:World}{m m':Nat}{v:Value}{xs:List Nat}(h:IN w m v xs)(hm:m<=m'):IN w m' v xs:=by
 obtain⟨sl,cap,gb,go,e,h1,h2,h3,h4⟩:=h
 exact⟨sl,cap,gb,go,e,h1,h2,Nat.lt_of_lt_of_le h3 hm,h4⟩
def PL(w:World)(gl go:Nat)(ps:List (List Nat)):Prop:= ∀i p,ps[i]?=some p-> ∃v,w.cell? ⟨gl,go+i,none⟩=some v/\IN w w.heap.size v p
theorem by_getD{l:List Nat}(h: ∀x∈l,x<256)(j:Nat):l.getD j 0<256:=by
 rw[List.getD_eq_getElem?_getD]
 cases e:l[j]? with
 | none=>decide
 | some x=>exact h x (List.mem_of_getElem? e)
theorem BB.mem{n:Nat}{l:List Nat}(h:BB n l): ∀x∈l,x<256:=fun x hx=>by
 obtain⟨j,hj⟩:=List.mem_iff_getElem?.1 hx
 have:=h.lt j
 rwa [List.getD_eq_getElem?_getD,hj] at this
theorem Um(n:Nat):BB (nou n+9) (Vm n):=enL_B n 8
theorem nou_lt(n:Nat):nou n<64:=Nat.mod_lt _ (by decide)
theorem told_B(ss:List Nat):BB 32 (told ss):=tld_B ss 32
theorem flat_mem{ps:List (List Nat)}(h: ∀p∈ps,∀x∈p,x<256): ∀x∈ps.flatten,x<256:=fun x hx=>by
 obtain⟨p,hp,hxp⟩:=List.mem_flatten.1 hx
 exact h p hp x hxp
theorem flat_take_len(ps:List (List Nat))(i:Nat):(ps.take i).flatten.length<=ps.flatten.length:=by
 conv=>rhs;rw[<-List.take_append_drop i ps,List.flatten_append,List.length_append]
 omega
theorem cParts(ps:List (List Nat))(gl go gcap:Nat)(w:World)(hgl:gl<w.heap.size)(hV:GV w)(hP:PL w gl go ps)(hn:ps.length<=1000000)(hx: ∀p∈ps,∀x∈p,x<256)(hl: ∀p∈ps,p.length<=10000)(ht:ps.flatten.length<=1000000):
 CC 128 #[.slice (some ⟨gl,go,none⟩) ps.length gcap] w (.agg (U8 (dig ps.flatten)).toArray):=by
 have hP2: ∀i,∃t:Option Addr×Nat×Nat×Nat,i<ps.length->w.cell? ⟨gl,go+i,none⟩=some (.slice t.1 (ps.getD i []).length t.2.1)/\(ps.getD i []).length<=t.2.1/\((ps.getD i []).length=0\/t.1=some ⟨t.2.2.1,t.2.2.2,none⟩)/\t.2.2.1<w.heap.size/\SB w t.2.2.1 t.2.2.2 (ps.getD i []):=fun i=>by
  by_cases hi:i<ps.length
  ·obtain⟨v,h1,sl,cap,gb,gbo,rfl,h2,h3,h4,h5⟩:=hP i _ (List.getElem?_eq_getElem hi)
   have e:ps.getD i []=ps[i]:=by rw[List.getD_eq_getElem?_getD,List.getElem?_eq_getElem hi];rfl
   exact⟨(sl,cap,gb,gbo),fun _=>by rw[e];exact⟨h1,h2,h3,h4,h5⟩⟩
  ·exact⟨(none,0,0,0),fun h=>absurd h hi⟩
 obtain⟨t,ht2⟩:=Classical.skolem.1 hP2
 have hq: ∀i,QW (tkA q00 (ps.take i).flatten):=fun i=>q00_W.go _ (by_getD (flat_mem fun p hp=>hx p (List.mem_of_mem_take hp)))
 have hc: ∀i,(tkA q00 (ps.take i).flatten).2.2=(ps.take i).flatten.length:=fun i=>by rw[tkA_c];exact Nat.zero_add _
 have hS: ∀i,i<ps.length->tkA q00 (ps.take (i+1)).flatten=tkA (tkA q00 (ps.take i).flatten) (ps.getD i []):=fun i hi=>by
  have e:ps.getD i []=ps[i]:=by rw[List.getD_eq_getElem?_getD,List.getElem?_eq_getElem hi];rfl
  rw[List.take_succ_eq_append_getElem hi,List.flatten_append,Ut,e];simp
 have hsz:=hV.sz
 have hall:ps.take ps.length=ps:=List.take_length
 refine cParts_core ps.length gl go gcap (nou ps.flatten.length+9) (tkA q00 (ps.flatten++Vm ps.flatten.length)).2.2 (fun i=>(t i).1) (fun i=>(ps.getD i []).length) (fun i=>(t i).2.1) (fun i=>(tkA q00 (ps.take i).flatten).2.2) (fun i=>(tkA q00 (ps.take i).flatten).1) (fun i=>(tkA q00 (ps.take i).flatten).2.1)
  (tkA q00 (ps.flatten++Vm ps.flatten.length)).1 (tkA q00 (ps.flatten++Vm ps.flatten.length)).2.1 (dig ps.flatten) (Vm ps.flatten.length) w hgl hn hV (fun i hi=>(ht2 i hi).1) rfl rfl rfl (hq _).s.len (hq _).b.len ?_ (told_B _).len ?_ ?_ ?_ ?_
 ·rw[Ut]
  have h:=hq ps.length
  rw[hall] at h
  exact(h.go _ (Um _).lt).s.len
 ·intro i hi u b0 hB hb0 hbu hcv
  obtain⟨h1,h2,h3,h4,h5⟩:=ht2 i hi
  have hm:ps.getD i []∈ps:=by
   rw[List.getD_eq_getElem?_getD,List.getElem?_eq_getElem hi];exact List.getElem_mem hi
  have hle:=flat_take_len ps i
  have h:=cTakeB (ps.getD i []) (tkA q00 (ps.take i).flatten) b0 (t i).2.2.1 (t i).2.2.2 (t i).2.1 (t i).1 u (hq i) (by_getD (hx _ hm)) (hl _ hm) (by rw[hc];omega) h2 h3 (by omega) hbu (hV.below hB hsz) (by omega) (h5.below hB h4) hcv
  simp only[hS i hi]
  exact h
 ·intro u
  simp only[hall,tkA_c]
  have:=cEnding ps.flatten.length u (by omega)
  rw[show q00.2.2=0 from rfl,Nat.zero_add]
  exact this
 ·intro u y b0 hB hb0 hbu hy hcv
  obtain⟨b,rfl,h1,h2,h3⟩:=hy
  have hq2:=hq ps.length
  have hc2:=hc ps.length
  rw[hall] at hq2 hc2
  simp only[hall] at hcv⊢
  have he:=Um ps.flatten.length
  have hno:=nou_lt ps.flatten.length
  have h:=cTakeO (Vm ps.flatten.length) (tkA q00 ps.flatten) b0 b (nou ps.flatten.length+9) u hq2 he.lt (by rw[he.len];omega) (by rw[hc2];omega) (by rw[he.len];omega) (by omega) hbu (hV.below hB hsz) (by omega) h2 h3 hcv
  rw[he.len] at h
  simp only[Ut]
  exact h
 ·intro u
  have h:=hq ps.length
  rw[hall] at h
  refine cTold _ u ?_
  rw[Ut]
  exact(h.go _ (Um _).lt).s.len
theorem bsSl(sl:Option Addr)(n cap:Nat)(w:World):(Instr.buildSlice 120 1 ([0].zip [.slice sl n cap]).toArray).run Tryz.prog w= .ok (.slice (some ⟨w.heap.size,0,none⟩) 1 1) (w.alloc (.cells [.slice sl n cap].toArray 46)):=by kernel_rfl
theorem dig_B(xs:List Nat):BB 32 (dig xs):=told_B _
section
abbrev M64:Nat:=18446744073709551616
theorem Xv(n:Int)(h0:0<=n)(h1:n<2^64):IntKind.u64.wrap n=n:=by simp[IntKind.wrap,IntKind.signed,IntKind.bits];omega
theorem bit_or64(a b:Nat)(ha:a<M64)(hb:b<M64):bits .or .u64 a b=((a ||| b:Nat):Int):=(bits_nat .u64 64 (by decide) Xv a b ha hb).2
theorem or64(p q:Operand)(a b:Nat)(w:World)(ha:a<M64)(hb:b<M64):(do eqGuard .or 22 p q (iU a) (iU b);binOp .or 22 (iU a) (iU b):Sem Value).run Tryz.prog w= .ok (iU ((a ||| b:Nat):Int)) w:=by
 rw[<-bit_or64 a b ha hb];go_simp
theorem cv864{o:Oper}{ev:Operand->Value}{x:Operand}{n:Nat}(u:World)(h1:n<256)(ho:o.op= .convert 5 22 x)(hx:ev x= .int .u8 (n:Int)):(execOp ev o).run Tryz.prog u= .ok (.value (iU (n:Int))) u:=by
 have e1:IntKind.u64.wrap (n:Int)=(n:Int):=Xv _ (by omega) (by omega)
 unfold execOp;rw[ho];simp only[hx];go_simp
section
variable {R:Rg} {P:Program} {ops:Array Oper} {Q:Exit->Act->World->Prop} {f:Nat->Bool} {t:Nat->Value} {u:World} {a:Act} {i:Nat} {o:Oper}
end
theorem cSum_core(n cap:Nat)(sl:Option Addr)(ds:List Nat)(w:World)(hds:ds.length=32)(hPa:Hid (∀(u:World) (y:Value),Bw w u->PS w.heap.size 1 [(.slice sl n cap)] u y->CC 128 #[y] u (.agg (U8 ds).toArray))):
 CC 121 #[(.slice sl n cap)] w (.agg (U8 ds).toArray):=by
 go_enter Tryz.func121,Tryz.ntmps121
 go_upto_region 1 with fail
 generalize hC:(w.alloc (.cells (Z32b:List Value).toArray 117))=v0 at *
 have HB0:Bw w v0:=by rw[<-hC];exact Z7 (Zx w) _
 have K0:Bk w.heap.size v0 [(true,w.heap.size,U8 z32)]:=by rw[<-hC];exact(Bk.nil _ w).ad
 clear hC
 refine Rf K0 HB0 [.all 3 (U8 ds)] [] [(0,3,_),(2,5,_)] [] [] [⟨1,4,some 2,PS w.heap.size 1 [(.slice sl n cap)]⟩] [] (oc g_mv<|oc (g_bR 0 (PS w.heap.size 1 [(.slice sl n cap)]) [0] [(.slice sl n cap)] [(.slice sl n cap)] (bsSl _ _ _) (fun u hu=>PS.new 1 _ _ u (Nat.le_trans HB0.size hu)))<|oc (g_c1 0 (PS w.heap.size 1 [(.slice sl n cap)]) Wy (fun uZ y bZ hy=>hPa.out uZ y bZ hy))<|oc (g_st 0 Z5 (h1:=Yv _) (hm:=by rw[Z2,hds]) (hl:=by rw[Z2,Z2,hds,show z32.length=32 from rfl])) on) fun u1 v1_1 hv1_1 HB1 _ K1=>?_
 simp only[sQ] at K1⊢
 go_wp2
 refine bodyPost_ret (Y3 Tryz.results121 rfl (K1.cv 0) Tryz.underlying117 rfl (by rw[Z2,hds];exact Z5)) rfl ⟨rfl,HB1⟩
theorem cSum(xs:List Nat)(v:Value)(w:World)(hV:GV w)(hin:IN w w.heap.size v xs)(hx: ∀x∈xs,x<256)(hl:xs.length<=10000):
 CC 121 #[v] w (.agg (U8 (dig xs)).toArray):=by
 obtain⟨sl,cap,gb,go,rfl,h1,h2,h3,h4⟩:=hin
 refine cSum_core xs.length cap sl (dig xs) w (dig_B xs).len fun u y hB hy=>?_
 obtain⟨b,c,rfl,_,hb,_,hcv⟩:=hy
 have h:=cParts [xs] b 0 c u hb (hV.below hB hV.sz) (fun i p hp=>by
  cases i with
  | succ i=>simp at hp
  | zero=>
   simp at hp
   subst hp
   exact⟨_,(hcv 0 _ rfl).1,sl,cap,gb,go,rfl,h1,h2,Nat.lt_of_lt_of_le h3 hB.size,h4.below hB h3⟩) (by simp) (by simpa using hx) (by simpa using hl) (by simp;omega)
 simpa using h
end
section
theorem CV.src{w:World}{b:Nat}{xs:List Value}(h:CV w b xs): ∀j v,xs[j]?=some v->w.cell? ((⟨b,0,none⟩:Addr).add j)=some v:=fun j v hj=>by
 rw[Addr.add_lit,Nat.zero_add];exact(h j v hj).1
section
variable {R:Rg} {P:Program} {ops:Array Oper} {Q:Exit->Act->World->Prop} {f:Nat->Bool} {t:Nat->Value} {u:World} {a:Act} {i:Nat} {o:Oper}
theorem g_cp0{T T2:TypeId}{x y:Operand}{vx vy v:Value}(hr: ∀u,(Builtin.copy_ #[T,T2] o.type #[vx,vy]).run P u= .ok v u)(hop:o.op= .call {callee:= .builtin .copy,args:=[x,y].toArray,argTypes:=[T,T2].toArray}:=by rfl)(hx:evR R i o x=some vx:=by rfl)(hy:evR R i o y=some vy:=by rfl)(hv:some v=Y4 i R.G:=by rfl)(hc:R.chk ops i o=true:=by rfl):OG R P ops Q i o:=
 Yg hv hc fun f t u a X K hK=>wp_cp hop (X.ev hx) (X.ev hy) (hr u) hK
end
theorem cpN(b N:Nat)(ty:TypeId)(u:World):(Builtin.copy_ #[46,46] ty #[.slice (some ⟨b,0,none⟩) N N,.slice none 0 0]).run Tryz.prog u= .ok (iI 0) u:=by
 obtain⟨ti,hti,_⟩:=Option.map_eq_some_iff.1 infoB
 simp[hti,Builtin.copy_,go_sem,run_underlying Tryz.underlying46,sizeOf,typeInfo,Builtin.lenOf,Builtin.firstCells,loadCells,loadCellsFrom,storeCells]
def pad(xs:List Nat):List Nat:=xs++Vm xs.length
end
end
section
theorem tkA_block(q:List Nat×List Nat×Nat)(c:List Nat)(hc:c.length=64)(hb:q.2.1.length=64)(hm:q.2.2%64=0):tkA q c=(blk q.1 c,c,q.2.2+64):=by
 have h1:=tkB_many q.2.2 q.2.1 c hb 0 0 (by omega) 64 (by omega) (by omega)
 have h2:=tkS_many q.2.2 q.1 q.2.1 c 0 0 (by omega) 63 (by omega)
 have e:tkB q.2.2 q.2.1 c 64=c:=by
  rw[show 64=0+64 from rfl,h1]
  show []++c.take 64++q.2.1.drop 64=c
  rw[List.take_of_length_le (by omega),List.drop_eq_nil_of_le (by omega)];simp
 rw[if_pos (by omega)] at h2
 have h2:tkS q.2.2 q.1 q.2.1 c 64=blk q.1 (tkB q.2.2 q.2.1 c 64):=h2
 rw[tkA_all,hc,h2,e]
def blkS(ps:List Nat):Nat->List Nat
 | 0=>fst8
 | k+1=>blk (blkS ps k) ((ps.drop (64*k)).take 64)
theorem blkS_W(ps:List Nat): ∀k,WW 8 (blkS ps k)
 | 0=>q00_W.s
 | k+1=>blk_W (blkS_W ps k) _
theorem tkA_blkS(ps:List Nat): ∀k,64*k<=ps.length-> ∃b,b.length=64/\tkA q00 (ps.take (64*k))=(blkS ps k,b,64*k)
 | 0,_=>⟨z64,rfl,rfl⟩
 | k+1,h=>by
  obtain⟨b,hb,e⟩:=tkA_blkS ps k (by omega)
  have hl:((ps.drop (64*k)).take 64).length=64:=by rw[List.length_take,List.length_drop];omega
  refine⟨(ps.drop (64*k)).take 64,hl,?_⟩
  rw[show 64*(k+1)=64*k+64 by omega,List.take_add,Ut,e]
  exact tkA_block _ _ hl hb (by show 64*k%64=0;omega)
theorem pad_len(xs:List Nat):(pad xs).length=xs.length+(nou xs.length+9):=by unfold pad;rw[List.length_append,(Um xs.length).len]
theorem dig_blkS(xs:List Nat)(nb:Nat)(h:64*nb=(pad xs).length):dig xs=told (blkS (pad xs) nb):=by
 obtain⟨b,hb,e⟩:=tkA_blkS (pad xs) nb (by omega)
 rw[h,List.take_length] at e
 unfold dig
 rw[show xs++Vm xs.length=pad xs from rfl,e]
theorem pad_B(xs:List Nat)(h: ∀x∈xs,x<256): ∀x∈pad xs,x<256:=fun x hx=>by
 rcases List.mem_append.1 hx with h1 | h1
 ·exact h x h1
 ·exact(Um _).mem x h1
theorem told_get(ss:List Nat)(i:Nat)(h:i<32):(told ss).getD i 0=(ss.getD (i/4) 0>>>(8*(3 -i%4)))%256:=by
 have key: ∀n,n<=32-> ∀i,i<n->(tld ss n).getD i 0=(ss.getD (i/4) 0>>>(8*(3 -i%4)))%256:=fun n=>by
  induction n with
  | zero=>intro _ i hi;omega
  | succ n ih=>
   intro hn i hi
   show ((tld ss n).set n _).getD i 0=_
   have hl:(tld ss n).length=32:=(tld_B ss n).len
   by_cases e:i=n
   ·subst e
    rw[List.getD_eq_getElem?_getD,List.getElem?_set_self (by omega)];rfl
   ·rw[List.getD_eq_getElem?_getD,List.getElem?_set_ne (by omega),<-List.getD_eq_getElem?_getD]
    exact ih (by omega) i (by omega)
 exact key 32 (Nat.le_refl _) i h
def fill(ps:List Nat)(o:Nat):Nat->List Nat
 | 0=>z64
 | j+1=>(fill ps o j).set j (ps.getD (o+j) 0)
theorem fill_is(ps:List Nat)(o:Nat)(h:o+64<=ps.length): ∀j,j<=64->fill ps o j=(ps.drop o).take j++z64.drop j
 | 0,_=>by simp[fill]
 | j+1,hj=>by
  have hz:z64.length=64:=rfl
  have hg:ps.getD (o+j) 0=ps[o+j]:=by rw[List.getD_eq_getElem?_getD,List.getElem?_eq_getElem (by omega)];rfl
  have hl:((ps.drop o).take j).length=j:=by rw[List.length_take,List.length_drop];omega
  have hd:z64.drop j=z64[j]'(by omega)::z64.drop (j+1):=List.drop_eq_getElem_cons (by omega)
  unfold fill
  rw[fill_is ps o h j (by omega),hd,List.set_append_right _ _ (by omega),hl,Nat.sub_self,List.set_cons_zero,hg]
  rw[List.take_succ_eq_append_getElem (by rw[List.length_drop];omega)]
  simp
theorem fill_all(ps:List Nat)(o:Nat)(h:o+64<=ps.length):fill ps o 64=(ps.drop o).take 64:=by
 rw[fill_is ps o h 64 (Nat.le_refl _),show z64.drop 64=[] from rfl];simp
end
section
open Go.RowKit
section
theorem Addr.add0(b j:Nat):(⟨b,0,none⟩:Addr).add j=⟨b,j,none⟩:=by unfold Addr.add;split<;>simp_all
theorem Addr.addo(b o j:Nat):(⟨b,o,none⟩:Addr).add j=⟨b,o+j,none⟩:=by unfold Addr.add;split<;>simp_all
def NW(m:Nat)(news:List Value)(u:World)(y:Value):Prop:= ∃sl c,y= .slice sl m c/\(m=0\/ ∃ad,sl=some ad/\ ∀j v,news[j]?=some v->u.cell? (ad.add j)=some v)
def PH(base b0 s n:Nat)(xs:List Value)(u:World)(v:Value):Prop:= ∃b cap zs,v= .slice (some ⟨b,0,none⟩) n cap/\(b=b0\/base<=b)/\b<u.heap.size/\n<=cap/\zs.length=(cap -n)*s/\CV u b (xs++zs)
theorem PH.stab{base b0 s n:Nat}{xs:List Value}{u v:World}{x:Value}(hB:Bw u v)(h:PH base b0 s n xs u x):PH base b0 s n xs v x:=by
 obtain⟨b,cap,zs,e,h1,h2,h3,h4,h5⟩:=h
 exact⟨b,cap,zs,e,h1,Nat.lt_of_lt_of_le h2 hB.size,h3,h4,h5.below hB h2⟩
theorem grown_setCells(u:World)(b o:Nat)(vs:List Value):u.grownBy (u.setCells b o vs) (some b):=by
 have h:Below (min b u.heap.size) u (u.setCells b o vs):=Zu (Nat.min_le_left _ _) _ _ _ (Below.refl _ _)
 refine⟨h.os,h.tape,h.output,by rw[Zp];exact Nat.le_refl _,fun k hk hne=>?_⟩
 exact World.heap_setCells_other u b o vs hk (fun e=>hne (by rw[e]))
section
variable {P:Program}
theorem run_app(w:World){T ty e:TypeId}{ti:TypeInfo}{z:Value}(ht:P.underlying T=some (.slice e))(hi:P.info? e=some ti)(hz:ti.zero=some z)(hzs:z.cells.size=ti.size){base b n cap m:Nat}{xs zs news:List Value}{y:Value}(hcv:CV w b (xs++zs))(hlt:b<w.heap.size)(hx:xs.length=n*ti.size)(hzl:zs.length=(cap -n)*ti.size)(hnc:n<=cap)(hbase:base<=w.heap.size)(hy:NW m news w y)(hl:news.length=m*ti.size)(h1: ∀v∈news,v.oneCell'=true)(hb:(n+m)*ti.bytes<=140737488355328)(h63:n+m<=9223372036854775807):
 ∃v' w',(Builtin.append_ #[T,T] ty #[.slice (some ⟨b,0,none⟩) n cap,y]).run P w= .ok v' w'/\w.grownBy w' (some b)/\PH base b ti.size (n+m) (xs++news) w' v':=by
 obtain⟨sl,c,rfl,hy⟩:=hy
 by_cases hm:m=0
 ·subst hm
  have hn0:news=[]:=List.eq_nil_of_length_eq_zero (by omega)
  subst hn0
  refine⟨.slice (some ⟨b,0,none⟩) n cap,w,?_,World.grownBy.refl _ _,b,cap,zs,rfl,.inl rfl,hlt,hnc,hzl,by simpa using hcv⟩
  have hf:(Builtin.firstCells ti.size 0 (.slice sl 0 c)).run P w= .ok #[] w:=by
   cases sl with
   | none=>exact run_firstCells_none (P:=P) w ti.size 0 0 c
   | some ad=>exact run_firstCells_some (P:=P) w ti.size 0 ad 0 c [] (by simp) (fun j v h=>by simp at h)
  simp[Builtin.append_,run_underlying ht,sizeOf,typeInfo,hi,Builtin.lenOf,hnc,hf,storeCells]
 ·obtain⟨ad,rfl,hnews⟩:=hy.resolve_left hm
  have hmul:(n+m)*ti.size=n*ti.size+m*ti.size:=Nat.add_mul _ _ _
  by_cases hr:n+m<=cap
  ·have hk:(cap -n)*ti.size=m*ti.size+(cap -(n+m))*ti.size:=by rw[<-Nat.add_mul];congr 1;omega
   have h:=Ud (P:=P) w (ty:=ty) ht hi hcv (m:=m) (c:=c) hl hnews h1 hr (by rw[List.length_append];omega)
   refine⟨_,_,h,grown_setCells _ _ _ _,b,cap,zs.drop news.length,rfl,.inl rfl,by rw[Zp];exact hlt,hr,by rw[List.length_drop];omega,?_⟩
   have hcv2:CV w b (xs++zs.take news.length++zs.drop news.length):=by rw[List.append_assoc,List.take_append_drop];exact hcv
   exact hcv2.mid hx (by rw[List.length_take];omega)
  ·have h:=run_append_grow (P:=P) w T ty e ti z ht hi hz ⟨b,0,none⟩ n cap xs hx (fun j v hj=>by rw[Addr.add0];exact(hcv.pre2 j v hj).1) ad m c news hl hnews (by omega) (by omega) (growslice_fits (by omega) hb)
   have hB:Bw w (w.drew.alloc (.cells (xs.toArray++news.toArray++Builtin.zeroCells z.cells (grownCap w (n+m) cap e -(n+m))) e)):=Z7 (Zx w).drew _
   refine⟨_,_,h,(below_grown hB).but _,w.heap.size,_,(Builtin.zeroCells z.cells (grownCap w (n+m) cap e -(n+m))).toList,rfl,.inr hbase,by simp,grownCap_ge w (n+m) cap e,by rw[Array.length_toList,size_zeroCells,hzs],?_⟩
   have e1:xs.toArray++news.toArray++Builtin.zeroCells z.cells (grownCap w (n+m) cap e -(n+m))=(xs++news++(Builtin.zeroCells z.cells (grownCap w (n+m) cap e -(n+m))).toList).toArray:=by apply Array.ext';simp
   rw[e1];exact CV.new w.drew _ e
end
theorem KC.putG{f:Nat->Bool}{u v:World}{lo base i b:Nat}(hg:u.grownBy v (some b))(hs:base<=u.heap.size): ∀{es:List Ent} {k:Nat} {o:Bool} {l:List Value},KC f u lo base es->es[k]?=some (o,b,l,.all i [])->(es.map (·.2.1)).Nodup->((es.eraseIdx k).all fun q=>q.2.2.2.free i)=true->KC (updF f i) v lo base es:=by
 have oth: ∀{n:Nat} {l:List Value},n<base->n≠b->CV u n l->CV v n l:=fun{n l} hn hne h j x hj=>by
  have hk:v.heap[n]?=u.heap[n]?:=hg.block _ (by omega) (fun e=>hne (by cases e;rfl))
  rw[World.cell?_of_block (a:=⟨n,j,none⟩) hk,World.frozen?_of_block (a:=⟨n,j,none⟩) hk]
  exact h j x hj
 have hr: ∀{es:List Ent},b∉es.map (·.2.1)->(es.all fun q=>q.2.2.2.free i)=true->KC f u lo base es->KC (updF f i) v lo base es:=by
  intro es
  induction es with
  | nil=>intros;trivial
  | cons y ys ih=>
   intro hb ha h
   simp only[List.map_cons,List.mem_cons,not_or] at hb
   simp only[List.all_cons,Bool.and_eq_true] at ha
   have hfr:=KC.free (i:=i) (es:=[y]) (by simp[ha.1]) (show KC f u lo base [y] from ⟨h.1,trivial⟩)
   exact⟨⟨h.1.1,h.1.2.1,oth h.1.1 (fun e=>hb.1 e.symm) hfr.1.2.2⟩,ih hb.2 ha.2 h.2⟩
 intro es
 induction es with
 | nil=>intro k o l _ e;simp at e
 | cons q r ih=>
  intro k o l h e n hx
  simp only[List.map_cons,List.nodup_cons] at n
  cases k with
  | zero=>
   simp at e;subst e
   simp only[List.eraseIdx_cons_zero] at hx
   refine⟨⟨h.1.1,h.1.2.1,?_⟩,hr n.1 hx h.2⟩
   intro j x hj
   simp[Wr.val,updF] at hj
  | succ k=>
   simp only[List.getElem?_cons_succ] at e
   simp only[List.eraseIdx_cons_succ,List.all_cons,Bool.and_eq_true] at hx
   have hm:b∈r.map (·.2.1):=by
    have:=List.mem_of_getElem? e
    exact List.mem_map.2 ⟨_,this,rfl⟩
   have hfr:=KC.free (i:=i) (es:=[q]) (by simp[hx.1]) (show KC f u lo base [q] from ⟨h.1,trivial⟩)
   exact⟨⟨h.1.1,h.1.2.1,oth h.1.1 (fun e=>n.1 (e▸hm)) hfr.1.2.2⟩,ih h.2 e n.2 hx.2⟩
def Rg.chkG(R:Rg)(ops:Array Oper)(n k i:Nat)(o:Oper):Bool:=
 (match o.dst,R.E[n]? with | some d,some q=>q.i==i&&q.d==d&&owns i d R.G&&Vy i d R.Ns&&R.S.contains d | _,_=>false)
 &&R.okO i o&&((R.es.eraseIdx k).all fun q=>q.2.2.2.free i)&&((R.E.eraseIdx n).all (eGone R.O i o))&&(V8 R ops o==some true)
section
variable {R:Rg} {P:Program} {ops:Array Oper} {Q:Exit->Act->World->Prop} {f:Nat->Bool} {t:Nat->Value} {u:World} {a:Act} {i:Nat} {o:Oper}
theorem T5{n k:Nat}(h:R.chkG ops n k i o=true): ∃d q,o.dst=some d/\R.E[n]?=some q/\(q.i=i/\q.d=d)/\owns i d R.G=true/\Vy i d R.Ns=true/\d∈R.S/\R.okO i o=true/\((R.es.eraseIdx k).all fun q=>q.2.2.2.free i)=true/\((R.E.eraseIdx n).all (eGone R.O i o))=true/\V8 R ops o=some true:=by
 unfold Rg.chkG at h
 cases hd:o.dst with
 | none=>rw[hd] at h;simp at h
 | some d=>
  cases hq:R.E[n]? with
  | none=>rw[hd,hq] at h;simp at h
  | some q=>
   rw[hd,hq] at h
   rw[Bool.and_eq_true,Bool.and_eq_true,Bool.and_eq_true,Bool.and_eq_true,Bool.and_eq_true,Bool.and_eq_true,Bool.and_eq_true,Bool.and_eq_true,List.contains_iff_mem,beq_iff_eq,beq_iff_eq,beq_iff_eq] at h
   obtain⟨⟨⟨⟨⟨⟨⟨⟨a1,a2⟩,a3⟩,a4⟩,a5⟩,a6⟩,a7⟩,a8⟩,a9⟩:=h
   exact⟨d,q,rfl,rfl,⟨a1,a2⟩,a3,a4,a5,a6,a7,a8,a9⟩
theorem Xs.putG{n k b:Nat}{l:List Value}{p:World->Value->Prop}{v:Value}{u':World}(X:Xs R ops f t u a i o)(hg:u.grownBy u' (some b))(hn:R.es[k]?=some (true,b,l,.all i []))(hw0:R.nw=[])(hc:R.chkG ops n k i o=true)(hn0:(R.E[n]?).map (·.p)=some p)(hp:p u' v): ∃t',Fr R.fr R.S (a.put o.dst v) t'/\Inv R (updF f i) t' u':=by
 obtain⟨d',q',hd',hq',⟨e1,e2⟩,k1,k2,k3,k6,k7,k8,hw⟩:=T5 hc
 obtain⟨_,q2,_⟩:=X.I.2.1.get hn
 refine⟨updT t d' v,by rw[hd'];exact X.F.put X.parts.1 k3 v,?_,KC.putG hg X.I.1.sz X.I.2.1 hn X.nd k7,Gs.other k1 X.I.2.2.1,X8 k6 X.I.2.2.2.1 X.dep,Ns.step X.I.2.2.2.2.1 k2,?_⟩
 ·have hM:=X.I.1
  rw[hw0] at hM⊢
  exact{bel:=hM.bel.grown hg (Nat.le_trans hM.lo hM.sz) (fun k e=>by cases e;exact q2 rfl),lo:=hM.lo,sz:=Nat.le_trans hM.sz hg.size,ks:=trivial,ex:=trivial,nw:=trivial,nd:=trivial}
 ·exact Es.last (O:=R.O) (fun j hj=>X.later (by unfold Rg.later;rw[hj];simp)) X.dep (by rw[hq',<-e1,<-e2]) k8 (by rw[hq'] at hn0;cases hn0;exact hp)
theorem g_pE(k m n':Nat)(p:World->Value->Prop){T e:TypeId}{ti:TypeInfo}{z:Value}{x:Operand}{j d b n q cap:Nat}{l:List Value}(xs zs news:List Value)(ht:P.underlying T=some (.slice e))(hi:P.info? e=some ti)(hz:ti.zero=some z)(hzs:z.cells.size=ti.size)(hl:l=xs++zs)(hp: ∀u y,p u y->NW q news u y)(h1: ∀v∈news,v.oneCell'=true)(hnl:news.length=q*ti.size)(hxl:xs.length=n*ti.size)(hzl:zs.length=(cap -n)*ti.size)(hnc:n<=cap)(hb:(n+q)*ti.bytes<=140737488355328)(h63:n+q<=9223372036854775807)
 (hop:o.op= .call {callee:= .builtin .append,args:=[x,.tmp d].toArray,argTypes:=[T,T].toArray}:=by rfl)(hn:R.es[k]?=some (true,b,l,.all i []):=by rfl)(hx:evR R i o x=some (.slice (some ⟨b,0,none⟩) n cap):=by rfl)(hm:R.E[m]?=some ⟨j,d,some i,p⟩:=by rfl)(hd:(Yb o j&&R.S.contains d)=true:=by rfl)(hn0:(R.E[n']?).map (·.p)=some (PH R.base b ti.size (n+q) (xs++news)):=by rfl)
 (hw:R.nw=[]:=by rfl)(hc:R.chkG ops n' k i o=true:=by rfl):OG R P ops Q i o:=fun f t u a X=>by
 rw[Bool.and_eq_true,List.contains_iff_mem] at hd
 obtain⟨h2,h4⟩:=hd
 obtain⟨d',q',hd',hq',_,_,_,_,_,_,_,hwt⟩:=T5 hc
 obtain⟨q1,q2,q3⟩:=X.I.2.1.get hn
 have q3:CV u b (bif f i then [] else l):=q3
 rw[X.fi] at q3
 have q3:CV u b l:=q3
 rw[hl] at q3
 have hy:p u (t d):=X.val hm h2 rfl
 obtain⟨v',w',hr,hg,hph⟩:=run_app (P:=P) u (ty:=o.type) ht hi hz hzs (base:=R.base) q3 (Nat.lt_of_lt_of_le q1 X.I.1.sz) hxl hzl hnc X.I.1.sz (hp u (t d) hy) hnl h1 hb h63
 exact X.go hwt fun K hK=>Tb hop (X.ev hx) (X.inS h4) hr (hK _ _ (X.putG hg hn hw hc hn0 hph))
theorem g_pV(k n':Nat){T e:TypeId}{ti:TypeInfo}{z vy:Value}{x y:Operand}{b n q cap:Nat}{l:List Value}(xs zs news:List Value)(ht:P.underlying T=some (.slice e))(hi:P.info? e=some ti)(hz:ti.zero=some z)(hzs:z.cells.size=ti.size)(hl:l=xs++zs)(hp: ∀f u,KC f u R.lo R.base R.es->Below R.lo R.w u->NW q news u vy)(h1: ∀v∈news,v.oneCell'=true)(hnl:news.length=q*ti.size)(hxl:xs.length=n*ti.size)(hzl:zs.length=(cap -n)*ti.size)(hnc:n<=cap)(hb:(n+q)*ti.bytes<=140737488355328)(h63:n+q<=9223372036854775807)
 (hop:o.op= .call {callee:= .builtin .append,args:=[x,y].toArray,argTypes:=[T,T].toArray}:=by rfl)(hn:R.es[k]?=some (true,b,l,.all i []):=by rfl)(hx:evR R i o x=some (.slice (some ⟨b,0,none⟩) n cap):=by rfl)(hy:evR R i o y=some vy:=by rfl)(hn0:(R.E[n']?).map (·.p)=some (PH R.base b ti.size (n+q) (xs++news)):=by rfl)
 (hw:R.nw=[]:=by rfl)(hc:R.chkG ops n' k i o=true:=by rfl):OG R P ops Q i o:=fun f t u a X=>by
 obtain⟨d',q',hd',hq',_,_,_,_,_,_,_,hwt⟩:=T5 hc
 obtain⟨q1,q2,q3⟩:=X.I.2.1.get hn
 have q3:CV u b (bif f i then [] else l):=q3
 rw[X.fi] at q3
 have q3:CV u b l:=q3
 rw[hl] at q3
 obtain⟨v',w',hr,hg,hph⟩:=run_app (P:=P) u (ty:=o.type) ht hi hz hzs (base:=R.base) q3 (Nat.lt_of_lt_of_le q1 X.I.1.sz) hxl hzl hnc X.I.1.sz (hp f u X.I.2.1 X.I.1.bel) hnl h1 hb h63
 exact X.go hwt fun K hK=>Tb hop (X.ev hx) (X.ev hy) hr (hK _ _ (X.putG hg hn hw hc hn0 hph))
theorem KC.grown{u u':World}{lo base b:Nat}(hg:u.grownBy u' (some b))(hb:base<=b)(hsz:base<=u.heap.size): ∀{es:List Ent},KC f u lo base es->KC f u' lo base es
 | [],_=>trivial
 | y::ys,h=>⟨⟨h.1.1,h.1.2.1,fun j x hj=>by
  have hk:u'.heap[y.2.1]?=u.heap[y.2.1]?:=hg.block _ (Nat.lt_of_lt_of_le h.1.1 hsz) (fun e=>by cases e;have:=h.1.1;omega)
  rw[World.cell?_of_block (a:=⟨y.2.1,j,none⟩) hk,World.frozen?_of_block (a:=⟨y.2.1,j,none⟩) hk]
  exact h.1.2.2 j x hj⟩,KC.grown hg hb hsz h.2⟩
def ev1(R:Rg)(i:Nat)(o:Oper)(d:Nat)(y:Value)(x:Operand):Option Value:=
 match x with
 | .tmp k=>bif Nat.beq k d then some y else evR R i o (.tmp k)
 | x=>evR R i o x
theorem ev1_spec(X:Xs R ops f t u a i o){d:Nat}(h4:d∈R.S){x:Operand}{v:Value}(h:ev1 R i o d (t d) x=some v):a.eval x=v:=by
 unfold ev1 at h
 split at h
 ·rename_i k
  cases e:Nat.beq k d with
  | true=>
   rw[e] at h
   have e:=Nat.eq_of_beq_eq_true e
   subst e
   cases h
   exact X.inS h4
  | false=>rw[e] at h;exact X.ev h
 ·exact X.ev h
theorem evs1(X:Xs R ops f t u a i o){d:Nat}(h4:d∈R.S): ∀{xs:List Operand} {vs:List Value},xs.mapM (ev1 R i o d (t d))=some vs->xs.map a.eval=vs
 | [],vs,h=>by simp at h;subst h;rfl
 | x::xs,vs,h=>by
  simp only[List.mapM_cons,Option.bind_eq_bind,Option.bind_eq_some_iff,Option.pure_def,Option.some.injEq] at h
  obtain⟨v,hv,vs',hvs,rfl⟩:=h
  rw[List.map_cons,ev1_spec X h4 hv,evs1 X h4 hvs]
theorem g_bY(m n:Nat)(p p':World->Value->Prop){T e:TypeId}{j d k:Nat}{xs:List (Nat×Operand)}(ks:List Nat)(vs:Value->List Value)(hr: ∀w y,p w y->(Instr.buildSlice T k (ks.zip (vs y)).toArray).run P w= .ok (.slice (some ⟨w.heap.size,0,none⟩) k k) (w.alloc (.cells (vs y).toArray e)))(hp: ∀(f:Nat->Bool) (u:World) (y:Value),KC f u R.lo R.base R.es->Below R.lo R.w u->R.base<=u.heap.size->p u y->p' (u.alloc (.cells (vs y).toArray e)) (.slice (some ⟨u.heap.size,0,none⟩) k k))(hop:o.op= .buildSlice T k xs.toArray:=by rfl)(hks:xs.map Prod.fst=ks:=by rfl)(hm:R.E[m]?=some ⟨j,d,some i,p⟩:=by rfl)
 (hx: ∀y,(xs.map Prod.snd).mapM (ev1 R i o d y)=some (vs y):=by intro y;rfl)(hd:(Yb o j&&R.S.contains d)=true:=by rfl)(hn:(R.E[n]?).map (·.p)=some p':=by rfl)(hc:R.chkE ops n i o=true:=by rfl):OG R P ops Q i o:=fun f t u a X=>by
 rw[Bool.and_eq_true,List.contains_iff_mem] at hd
 obtain⟨h2,h4⟩:=hd
 obtain⟨d',q,hd',hq,_,_,_,_,_,_,_,_,hw⟩:=Zq hc
 have hv:p u (t d):=X.val hm h2 rfl
 exact X.go hw fun K hK=>wp_bS hop (evs1 X h4 (hx (t d))) (by rw[hks];exact hr u (t d) hv) (hK _ _ (X.putE hc (fun q hq=>by rw[hq] at hn;cases hn;exact hp f u (t d) X.I.2.1 X.I.1.bel X.I.1.sz hv) (Z7 (Zx u) _)))
theorem g_cK{N:FuncId}{args:List Operand}{tys:Array TypeId}{vs:List Value}{v:Value}(hr: ∀(vs:Array Value) (w:World),(callFunc N vs).run P w= .ok (.enter N vs) w)
 (hcall: ∀f w,KC f w R.lo R.base R.es->R.base<=w.heap.size->Below R.lo R.w w->Calls P N vs.toArray w fun e w'=>e= .returned v/\Bw w w')(hop:o.op= .call {callee:= .value (.func N),args:=args.toArray,argTypes:=tys}:=by rfl)(hx:args.mapM (evR R i o)=some vs:=by rfl)(hv:some v=Y4 i R.G:=by rfl)(hc:R.chk ops i o=true:=by rfl):OG R P ops Q i o:=fun f t u a X=>
 X.go (X7 hc).choose_spec.2.2.2.2.2.2.2 fun K hK=>Ws hop (X.evs hx) hr (hcall f u X.I.2.1 X.I.1.sz X.I.1.bel) fun w' hB=>hK _ _ (X.put hv hc (X.I.1.call hB) (X.I.2.1.below hB X.I.1.sz) hB)
end
end
section
theorem run_appF{P:Program}(w:World){T ty e:TypeId}{ti:TypeInfo}{z:Value}(ht:P.underlying T=some (.slice e))(hi:P.info? e=some ti)(hz:ti.zero=some z)(hzs:z.cells.size=ti.size){lo b n m:Nat}{xs news:List Value}{y:Value}(hcv:CV w b xs)(hlo:lo<=b)(hlo2:lo<=w.heap.size)(hlt:b<w.heap.size)(hx:xs.length=n*ti.size)(hy:NW m news w y)(hl:news.length=m*ti.size)(hb:(n+m)*ti.bytes<=140737488355328)(h63:n+m<=9223372036854775807):
 ∃v' w',(Builtin.append_ #[T,T] ty #[.slice (some ⟨b,0,none⟩) n n,y]).run P w= .ok v' w'/\Bw w w'/\PG lo ti.size (n+m) (xs++news) w' v':=by
 obtain⟨sl,c,rfl,hy⟩:=hy
 by_cases hm:m=0
 ·subst hm
  have hn0:news=[]:=List.eq_nil_of_length_eq_zero (by omega)
  subst hn0
  refine⟨.slice (some ⟨b,0,none⟩) n n,w,?_,Below.refl _ _,b,n,[],rfl,hlo,hlt,Nat.le_refl _,by simp,by simpa using hcv⟩
  have hf:(Builtin.firstCells ti.size 0 (.slice sl 0 c)).run P w= .ok #[] w:=by
   cases sl with
   | none=>exact run_firstCells_none (P:=P) w ti.size 0 0 c
   | some ad=>exact run_firstCells_some (P:=P) w ti.size 0 ad 0 c [] (by simp) (fun j v h=>by simp at h)
  simp[Builtin.append_,run_underlying ht,sizeOf,typeInfo,hi,Builtin.lenOf,hf,storeCells]
 ·obtain⟨ad,rfl,hnews⟩:=hy.resolve_left hm
  have h:=run_append_grow (P:=P) w T ty e ti z ht hi hz ⟨b,0,none⟩ n n xs hx (fun j v hj=>by rw[Addr.add0];exact(hcv j v hj).1) ad m c news hl hnews (by omega) (by omega) (growslice_fits (by omega) hb)
  refine⟨_,_,h,Z7 (Zx w).drew _,w.heap.size,_,(Builtin.zeroCells z.cells (grownCap w (n+m) n e -(n+m))).toList,rfl,hlo2,by simp,grownCap_ge w (n+m) n e,by rw[Array.length_toList,size_zeroCells,hzs],?_⟩
  have e1:xs.toArray++news.toArray++Builtin.zeroCells z.cells (grownCap w (n+m) n e -(n+m))=(xs++news++(Builtin.zeroCells z.cells (grownCap w (n+m) n e -(n+m))).toList).toArray:=by apply Array.ext';simp
  rw[e1];exact CV.new w.drew _ e
section
variable {R:Rg} {P:Program} {ops:Array Oper} {Q:Exit->Act->World->Prop} {f:Nat->Bool} {t:Nat->Value} {u:World} {a:Act} {i:Nat} {o:Oper}
end
end
theorem rotr_add(x n:Nat)(hx:x<4294967296)(hn:n<=32):x>>>n+(x<<<(32 -n))%4294967296=rotr x n:=by
 have e1:(x<<<(32 -n))%4294967296=(x%2^n)<<<(32 -n):=by
  rw[Nat.shiftLeft_eq,Nat.shiftLeft_eq]
  have e:(4294967296:Nat)=2^n*2^(32 -n):=by rw[<-Nat.pow_add,show n+(32 -n)=32 by omega]
  rw[e,Nat.mul_mod_mul_right]
 have e2:x>>>n<2^(32 -n):=by
  rw[Nat.shiftRight_eq_div_pow,Nat.div_lt_iff_lt_mul (Nat.two_pow_pos n),<-Nat.pow_add,show 32 -n+n=32 by omega]
  exact hx
 unfold rotr
 rw[e1,<-Nat.shiftLeft_add_eq_or_of_lt e2,Nat.add_comm]
theorem sub_xor{e:Nat}(h:e<4294967296):4294967295 -e=4294967295^^^e:=by
 have h1:=BitVec.toNat_not (x:=BitVec.ofNat 32 e)
 have h2:BitVec.allOnes 32^^^BitVec.ofNat 32 e= ~~~(BitVec.ofNat 32 e):=by ext i hi;simp only[BitVec.getElem_xor,BitVec.getElem_allOnes,BitVec.getElem_not,Bool.true_xor]
 have h3:=congrArg BitVec.toNat h2
 rw[BitVec.toNat_xor,h1,BitVec.toNat_allOnes,BitVec.toNat_ofNat,Nat.mod_eq_of_lt (show e<2^32 from h)] at h3
 exact h3.symm
theorem choice_is{e f g:Nat}(h:e<4294967296):(e&&&f)^^^((4294967295 -e)&&&g)=chN e f g:=by unfold chN;rw[sub_xor h]
def wd(bs:List Nat)(i:Nat):Nat:=bs.getD (4*i) 0*16777216+bs.getD (4*i+1) 0*65536+bs.getD (4*i+2) 0*256+bs.getD (4*i+3) 0
theorem spA_keep(bs:List Nat)(i k:Nat)(h: ¬k/4=i):(spA bs (k+1)).getD i 0=(spA bs k).getD i 0:=by
 rw[spA,Xa,if_neg (fun h'=>h h'.1)]
theorem spA_new(bs:List Nat)(i k:Nat)(hb: ∀j,bs.getD j 0<256)(h:k/4=i)(hi:i<64):(spA bs (k+1)).getD i 0=((spA bs k).getD i 0<<<8)%4294967296 ||| bs.getD k 0:=by
 rw[spA,Xa,if_pos ⟨h,by rw[(spA_W bs hb k).len];exact hi⟩,h]
theorem spA_zero(bs:List Nat)(i:Nat): ∀k,k<=4*i->(spA bs k).getD i 0=0
 | 0,_=>by
  show z64.getD i 0=0
  unfold z64;rw[List.getD_eq_getElem?_getD,List.getElem?_replicate];split<;>rfl
 | k+1,h=>by rw[spA_keep bs i k (by omega)];exact spA_zero bs i k (by omega)
theorem spA_after(bs:List Nat)(i:Nat): ∀d,(spA bs (4*i+4+d)).getD i 0=(spA bs (4*i+4)).getD i 0
 | 0=>rfl
 | d+1=>by rw[show 4*i+4+(d+1)=(4*i+4+d)+1 by omega,spA_keep bs i _ (by omega)];exact spA_after bs i d
theorem shl_or(x b:Nat)(hx:x<16777216)(hb:b<256):(x<<<8)%4294967296 ||| b=x*256+b:=by
 rw[Nat.mod_eq_of_lt (by rw[Nat.shiftLeft_eq];omega),<-Nat.shiftLeft_add_eq_or_of_lt (show b<2^8 from hb),Nat.shiftLeft_eq]
theorem spA_wd(bs:List Nat)(i:Nat)(hb: ∀j,bs.getD j 0<256)(hi:i<16):(spA bs 64).getD i 0=wd bs i:=by
 have e:=spA_after bs i (60 -4*i)
 rw[show 4*i+4+(60 -4*i)=64 by omega] at e
 have h0:=spA_zero bs i (4*i) (Nat.le_refl _)
 have h1:=spA_new bs i (4*i) hb (by omega) (by omega)
 have h2:=spA_new bs i (4*i+1) hb (by omega) (by omega)
 have h3:=spA_new bs i (4*i+2) hb (by omega) (by omega)
 have h4:=spA_new bs i (4*i+3) hb (by omega) (by omega)
 have b0:=hb (4*i)
 have b1:=hb (4*i+1)
 have b2:=hb (4*i+2)
 have b3:=hb (4*i+3)
 unfold wd
 rw[h0,shl_or 0 _ (by omega) b0] at h1
 rw[h1,shl_or _ _ (by omega) b1] at h2
 rw[h2,shl_or _ _ (by omega) b2] at h3
 rw[h3,shl_or _ _ (by omega) b3] at h4
 rw[e,h4]
 omega
theorem spB_keep(ws:List Nat)(k j:Nat)(h:j<k+16): ∀d,(spB ws (k+d)).getD j 0=(spB ws k).getD j 0
 | 0=>rfl
 | d+1=>by rw[show k+(d+1)=(k+d)+1 by omega,spB,Xa,if_neg (by omega),spB_keep ws k j h d]
theorem spread_wd(bs:List Nat)(i:Nat)(hb: ∀j,bs.getD j 0<256)(hi:i<16):(Xx bs).getD i 0=wd bs i:=by
 have:=spB_keep (spA bs 64) 0 i (by omega) 48
 rw[Nat.zero_add] at this
 unfold Xx
 rw[this];exact spA_wd bs i hb hi
theorem spread_sp(bs:List Nat)(t:Nat)(hb: ∀j,bs.getD j 0<256)(h1:16<=t)(h2:t<64):(Xx bs).getD t 0=spS (Xx bs) t:=by
 have hW:=spA_W bs hb 64
 unfold Xx
 obtain⟨ws,ews⟩: ∃ws,spA bs 64=ws:=⟨_,rfl⟩
 rw[ews] at hW⊢
 obtain⟨k,rfl⟩: ∃k,t=k+16:=⟨t -16,by omega⟩
 have e1:=spB_keep ws (k+1) (k+16) (by omega) (47 -k)
 rw[show k+1+(47 -k)=48 by omega] at e1
 have hk: ∀j,j<k+16->(spB ws 48).getD j 0=(spB ws k).getD j 0:=fun j hj=>by
  have:=spB_keep ws k j hj (48 -k)
  rwa [show k+(48 -k)=48 by omega] at this
 rw[e1,spB,Xa,if_pos ⟨rfl,by rw[(spB_W hW k).len];exact h2⟩]
 unfold spS
 rw[hk (k+16 -2) (by omega),hk (k+16 -7) (by omega),hk (k+16 -15) (by omega),hk (k+16 -16) (by omega)]
theorem mod4(a b c d:Nat):(a+b+c+d)%4294967296=(((a+b)%4294967296+c)%4294967296+d)%4294967296:=by omega
theorem mod5(a b c d e:Nat):(a+b+c+d+e)%4294967296=((((a+b)%4294967296+c)%4294967296+d)%4294967296+e)%4294967296:=by omega
def sms0(ss vs:List Nat):Nat->List Nat
 | 0=>z8
 | i+1=>(sms0 ss vs i).set i ((vs.getD i 0+ss.getD i 0)%4294967296)
theorem z8_W:WW 8 z8:=⟨rfl,fun j=>by
 unfold z8;rw[List.getD_eq_getElem?_getD,List.getElem?_replicate];split<;>decide⟩
theorem sms0_W(ss vs:List Nat): ∀i,WW 8 (sms0 ss vs i)
 | 0=>z8_W
 | i+1=>(sms0_W ss vs i).set _ _ (Nat.mod_lt _ (by decide))
theorem sms0_get(ss vs:List Nat)(j:Nat)(hj:j<8): ∀i,(sms0 ss vs i).getD j 0=if j<i then (vs.getD j 0+ss.getD j 0)%4294967296 else 0
 | 0=>by
  show z8.getD j 0=_
  rw[if_neg (by omega)]
  unfold z8;rw[List.getD_eq_getElem?_getD,List.getElem?_replicate];split<;>rfl
 | i+1=>by
  rw[sms0,Xa,(sms0_W ss vs i).len]
  by_cases h:i=j
  ·subst h;rw[if_pos ⟨rfl,hj⟩,if_pos (by omega)]
  ·rw[if_neg (fun h'=>h h'.1),sms0_get ss vs j hj i]
   by_cases h2:j<i
   ·rw[if_pos h2,if_pos (by omega)]
   ·rw[if_neg h2,if_neg (by omega)]
theorem sms_get{ss:List Nat}(hs:WW 8 ss)(vs:List Nat)(j:Nat)(hj:j<8): ∀i,(sms ss vs i).getD j 0=if j<i then (ss.getD j 0+vs.getD j 0)%4294967296 else ss.getD j 0
 | 0=>by rw[if_neg (by omega)];rfl
 | i+1=>by
  rw[sms,Xa,(sms_W hs vs i).len]
  by_cases h:i=j
  ·subst h;rw[if_pos ⟨rfl,hj⟩,if_pos (by omega),sms_get hs vs i hj i,if_neg (by omega)]
  ·rw[if_neg (fun h'=>h h'.1),sms_get hs vs j hj i]
   by_cases h2:j<i
   ·rw[if_pos h2,if_pos (by omega)]
   ·rw[if_neg h2,if_neg (by omega)]
theorem sms0_is{ss:List Nat}(hs:WW 8 ss)(vs:List Nat):sms0 ss vs 8=sms ss vs 8:=by
 refine List.ext_getElem (by rw[(sms0_W ss vs 8).len,(sms_W hs vs 8).len]) fun j a b=>?_
 have hj:j<8:=by rw[(sms0_W ss vs 8).len] at a;exact a
 have e1:=sms0_get ss vs j hj 8
 have e2:=sms_get hs vs j hj 8
 rw[if_pos hj] at e1 e2
 rw[List.getD_eq_getElem?_getD,List.getElem?_eq_getElem a] at e1
 rw[List.getD_eq_getElem?_getD,List.getElem?_eq_getElem b] at e2
 simp only[Option.getD_some] at e1 e2
 rw[e1,e2,Nat.add_comm]
def U64(l:List Nat):List Value:=l.map fun(x:Nat)=>iU (x:Int)
theorem Ye(l:List Nat):(U64 l).length=l.length:=List.length_map ..
theorem Y1(l:List Nat)(j:Nat)(h:j<l.length):(U64 l)[j]?=some (iU ((l.getD j 0:Nat):Int)):=by simp[U64,List.getElem?_eq_getElem h]
theorem U64_app(a b:List Nat):U64 (a++b)=U64 a++U64 b:=by simp[U64]
theorem U64_tk{S:List Nat}{n j:Nat}{zs:List Value}(hj:j<n)(hn:n<=S.length):(U64 (S.take n)++zs)[j]?=some (iU ((S.getD j 0:Nat):Int)):=by
 have hl:(S.take n).length=n:=by rw[List.length_take];omega
 rw[List.getElem?_append_left (by rw[Ye,hl];exact hj),Y1 _ j (by omega),List.getD_eq_getElem?_getD,List.getD_eq_getElem?_getD,List.getElem?_take_of_lt hj]
theorem U64_one{S:List Nat}{n:Nat}(hn:n<S.length):U64 (S.take n)++[iU ((S.getD n 0:Nat):Int)]=U64 (S.take (n+1)):=by
 have e:S.getD n 0=S[n]:=by rw[List.getD_eq_getElem?_getD,List.getElem?_eq_getElem hn];rfl
 rw[List.take_succ_eq_append_getElem hn,U64_app,e];rfl
theorem infoU:(Tryz.prog.info? 22).map (fun i=>(i.zero,i.size,i.bytes))=some (some (iU 0),1,8):=by kernel_rfl
theorem bs0u(w:World):(Instr.buildSlice 87 0 #[]).run Tryz.prog w= .ok (.slice (some ⟨w.heap.size,0,none⟩) 0 0) (w.alloc (.cells #[] 22)):=by kernel_rfl
theorem bs1u(x:Nat)(w:World):(Instr.buildSlice 87 1 ([0].zip [iU (x:Int)]).toArray).run Tryz.prog w= .ok (.slice (some ⟨w.heap.size,0,none⟩) 1 1) (w.alloc (.cells [Value.int .u64 (x:Int)].toArray 22)):=by kernel_rfl
theorem ixU(g o n cap j:Nat)(h:j<n)(w:World):(Instr.indexAt 87 (.slice (some ⟨g,o,none⟩) n cap) (iI j)).run Tryz.prog w= .ok (.pointer (some ⟨g,o+j,none⟩)) w:=by
 have h2:(j:Int)<n:=by omega
 go_simp
theorem P1.nwu{news:List Value}(u:World)(y:Value)(h:P1 news u y):NW 1 news u y:=by
 obtain⟨ad,c,e,h1⟩:=P1.at u y h
 exact⟨_,c,e,.inr ⟨ad,rfl,h1⟩⟩
theorem one_u{x:Nat}: ∀v∈[Value.int .u64 (x:Int)],v.oneCell'=true:=fun v hv=>by simp at hv;subst hv;rfl
theorem bit_and64(a b:Nat)(ha:a<M64)(hb:b<M64):bits .and .u64 a b=((a&&&b:Nat):Int):=(bits_nat .u64 64 (by decide) Xv a b ha hb).1
theorem bit_xor64(a b:Nat)(ha:a<M64)(hb:b<M64):bits .xor .u64 a b=((a^^^b:Nat):Int):=by
 have ha':a%2^64=a:=Nat.mod_eq_of_lt ha
 have hb':b%2^64=b:=Nat.mod_eq_of_lt hb
 have h:(BitVec.ofNat 64 a^^^BitVec.ofNat 64 b).toNat=a^^^b:=by rw[BitVec.toNat_xor,BitVec.toNat_ofNat,BitVec.toNat_ofNat,ha',hb']
 show IntKind.u64.wrap ((BitVec.ofInt 64 (a:Int)^^^BitVec.ofInt 64 (b:Int)).toNat:Int)=_
 rw[BitVec.ofInt_natCast,BitVec.ofInt_natCast,h]
 exact Xv _ (Int.natCast_nonneg _) (by exact_mod_cast Nat.xor_lt_two_pow (n:=64) ha hb)
theorem and64(p q:Operand)(a b:Nat)(w:World)(ha:a<M32)(hb:b<M32):(do eqGuard .and 22 p q (iU a) (iU b);binOp .and 22 (iU a) (iU b):Sem Value).run Tryz.prog w= .ok (iU ((a&&&b:Nat):Int)) w:=by
 rw[<-bit_and64 a b (Nat.lt_trans ha (by decide)) (Nat.lt_trans hb (by decide))];go_simp
theorem xor64(p q:Operand)(a b:Nat)(w:World)(ha:a<M32)(hb:b<M32):(do eqGuard .xor 22 p q (iU a) (iU b);binOp .xor 22 (iU a) (iU b):Sem Value).run Tryz.prog w= .ok (iU ((a^^^b:Nat):Int)) w:=by
 rw[<-bit_xor64 a b (Nat.lt_trans ha (by decide)) (Nat.lt_trans hb (by decide))];go_simp
theorem sub64(p q:Operand)(a b:Nat)(w:World)(h:b<=a)(ha:a<M64):(do eqGuard .sub 22 p q (iU a) (iU b);binOp .sub 22 (iU a) (iU b):Sem Value).run Tryz.prog w= .ok (iU ((a -b:Nat):Int)) w:=by
 have ha:a<18446744073709551616:=ha
 have e:IntKind.u64.wrap ((a:Int) -b)=((a -b:Nat):Int):=by rw[Xv _ (by omega) (by omega)];omega
 go_simp
theorem shl64i(p q:Operand)(a n:Nat)(w:World)(hn:n<=64):(do eqGuard .shl 22 p q (iU a) (iI n);binOp .shl 22 (iU a) (iI n):Sem Value).run Tryz.prog w= .ok (iU (((a<<<n)%18446744073709551616:Nat):Int)) w:=by
 have e:IntKind.u64.wrap ((a:Int)*2^n)=(a:Int)<<<n%18446744073709551616:=by
  rw[Int.shiftLeft_eq];simp[IntKind.wrap,IntKind.signed,IntKind.bits]
 have e2:min n 64=n:=by omega
 go_simp
 first | done | exact e
theorem cv3264{o:Oper}{ev:Operand->Value}{x:Operand}{n:Nat}(u:World)(h1:n<M32)(ho:o.op= .convert 144 22 x)(hx:ev x= .int .u32 (n:Int)):(execOp ev o).run Tryz.prog u= .ok (.value (iU (n:Int))) u:=by
 have e1:IntKind.u64.wrap (n:Int)=(n:Int):=Xv _ (by omega) (by have:n<4294967296:=h1;omega)
 unfold execOp;rw[ho];simp only[hx];go_simp
theorem cv6432{o:Oper}{ev:Operand->Value}{x:Operand}{n:Nat}(u:World)(h1:n<M32)(ho:o.op= .convert 22 144 x)(hx:ev x=iU (n:Int)):(execOp ev o).run Tryz.prog u= .ok (.value (.int .u32 (n:Int))) u:=by
 have e1:IntKind.u32.wrap (n:Int)=(n:Int):=Xw _ (by omega) (by have:n<4294967296:=h1;omega)
 unfold execOp;rw[ho];simp only[hx];go_simp
theorem Zm:EnT 139:=fun _ _=>by kernel_rfl
theorem Xc:EnT 138:=fun _ _=>by kernel_rfl
theorem Zb:EnT 137:=fun _ _=>by kernel_rfl
theorem Xq:EnT 140:=fun _ _=>by kernel_rfl
theorem Wn:EnT 132:=fun _ _=>by kernel_rfl
theorem cWrap(x:Nat)(w:World)(hx:x<18446744073709551616):CC 139 #[iU ((x:Nat):Int)] w (iU ((x%4294967296:Nat):Int)):=by
 go_enter Tryz.func139,Tryz.ntmps139
 have HB0:Bw w w:=Below.refl _ _
 have K0_1:=Bk.nil (w.heap.size) w
 go_upto_region 1 with fail
 refine Rn K0_1 HB0 [(0,3,_),(1,4,_),(2,2,_)] (oc g_mv<|oc (g_bn (fun uZ=>rem64 _ _ x 4294967296 uZ hx (by decide)))<|oc g_as on) fun u1 HB1 _ K1=>?_
 simp only[sQ] at K1⊢
 go_wp2
 refine bodyPost_ret (v:=iU ((x%4294967296:Nat):Int)) (by simp[results,Tryz.results139,go_sem,]) rfl ⟨rfl,HB1⟩
theorem cRightR(x n:Nat)(w:World)(hn:n<=64):CC 138 #[iU ((x:Nat):Int),iI ((n:Nat):Int)] w (iU ((x>>>n:Nat):Int)):=by
 go_enter Tryz.func138,Tryz.ntmps138
 have HB0:Bw w w:=Below.refl _ _
 have K0_1:=Bk.nil (w.heap.size) w
 go_upto_region 1 with fail
 refine Rn K0_1 HB0 (cG 0 5 [_,_,_] [(3,4,_)]) (oc g_mv<|oc g_mv<|oc (g_bn (fun uZ=>shr64i _ _ x n uZ (by omega)))<|oc g_as on) fun u1 HB1 _ K1=>?_
 simp only[sQ] at K1⊢
 go_wp2
 refine bodyPost_ret (v:=iU ((x>>>n:Nat):Int)) (by simp[results,Tryz.results138,go_sem,]) rfl ⟨rfl,HB1⟩
theorem cTurn_core(x n y z:Nat)(w:World)(hn:n<=32)(hy:(x<<<(32 -n))%18446744073709551616=y)(hy2:y<18446744073709551616)(hz:x>>>n+y%4294967296=z)(hz2:z<18446744073709551616):CC 137 #[iU ((x:Nat):Int),iI ((n:Nat):Int)] w (iU ((z:Nat):Int)):=by
 go_enter Tryz.func137,Tryz.ntmps137
 have HB0:Bw w w:=Below.refl _ _
 have K0_1:=Bk.nil (w.heap.size) w
 go_upto_region 1 with fail
 refine Rm K0_1 HB0 (cG 0 5 [_,_,_,_,_,_,_,_,_] [(9,4,_)]) (oc g_mv<|oc g_mv<|oc (g_bn (fun uZ=>shr64i _ _ x n uZ (by omega)))<|oc g_mv<|oc g_mv<|oc (g_bn (fun uZ=>Y6 _ _ 32 (n:Int) ((32 -n:Nat):Int) uZ (by omega) (by omega) (by omega)))<|oc (g_bn (fun uZ=>(shl64i _ _ x (32 -n) uZ (by omega)).trans (by rw[hy])))<|oc (g_cl Zm (fun uZ=>cWrap y uZ hy2))<|oc (g_bn (fun uZ=>W5 _ _ (x>>>n) (y%4294967296) z uZ hz hz2))<|oc g_as on) fun u1 HB1 _ K1=>?_
 simp only[sQ] at K1⊢
 go_wp2
 refine bodyPost_ret (v:=iU ((z:Nat):Int)) (by simp[results,Tryz.results137,go_sem,]) rfl ⟨rfl,HB1⟩
theorem cWrapE(x y:Nat)(w:World)(hx:x<18446744073709551616)(h:x%4294967296=y):CC 139 #[iU ((x:Nat):Int)] w (iU ((y:Nat):Int)):=by
 subst h;exact cWrap x w hx
theorem ixU0(g n cap j:Nat)(h:j<n)(w:World):(Instr.indexAt 87 (.slice (some ⟨g,0,none⟩) n cap) (iI j)).run Tryz.prog w= .ok (.pointer (some ⟨g,j,none⟩)) w:=by
 have:=ixU g 0 n cap j h w
 rwa [Nat.zero_add] at this
theorem cTurn(x n:Nat)(w:World)(hx:x<M32)(hn:n<=32):CC 137 #[iU ((x:Nat):Int),iI ((n:Nat):Int)] w (iU ((rotr x n:Nat):Int)):=by
 have e:(x<<<(32 -n))%18446744073709551616=x<<<(32 -n):=Nat.mod_eq_of_lt (by
  rw[Nat.shiftLeft_eq]
  have h1:2^(32 -n)<=2^32:=Nat.pow_le_pow_right (by decide) (by omega)
  have h2:x*2^(32 -n)<=x*2^32:=Nat.mul_le_mul_left _ h1
  have h3:x<4294967296:=hx
  omega)
 have hr:=Zh (n:=n) hx
 exact cTurn_core x n (x<<<(32 -n)) (rotr x n) w hn e (by rw[<-e];exact Nat.mod_lt _ (by decide)) (rotr_add x n hx hn) (Nat.lt_trans hr (by decide))
theorem cConstants(w:World):Calls Tryz.prog 140 #[] w fun e w'=> ∃v,e= .returned v/\PS w.heap.size 64 (U64 kcs) w' v/\Bw w w':=by
 go_enter Tryz.func140,Tryz.ntmps140
 have HB0:Bw w w:=Below.refl _ _
 have K0_1:=Bk.nil (w.heap.size) w
 go_upto_region 1 with fail
 refine Rf K0_1 HB0 [] [] [] [] [] [⟨0,1,some 1,PS w.heap.size 64 (U64 kcs)⟩,⟨1,0,none,PS w.heap.size 64 (U64 kcs)⟩] [] (hst:=(.cons (fun _ _ _ h1 h2=>h2.stab h1)<| .cons (fun _ _ _ h1 h2=>h2.stab h1)<|Stab.nil)) (oc (g_bR 0 (PS w.heap.size 64 (U64 kcs)) [0,1,2,3,4,5,6,7,8,9,10,11,12,13,14,15,16,17,18,19,20,21,22,23,24,25,26,27,28,29,30,31,32,33,34,35,36,37,38,39,40,41,42,43,44,45,46,47,48,49,50,51,52,53,54,55,56,57,58,59,60,61,62,63] [iU 1116352408,iU 1899447441,iU 3049323471,iU 3921009573,iU 961987163,iU 1508970993,iU 2453635748,iU 2870763221,iU 3624381080,iU 310598401,iU 607225278,iU 1426881987,iU 1925078388,iU 2162078206,iU 2614888103,iU 3248222580,iU 3835390401,iU 4022224774,iU 264347078,iU 604807628,iU 770255983,iU 1249150122,iU 1555081692,iU 1996064986,iU 2554220882,iU 2821834349,iU 2952996808,iU 3210313671,iU 3336571891,iU 3584528711,iU 113926993,iU 338241895,iU 666307205,iU 773529912,iU 1294757372,iU 1396182291,iU 1695183700,iU 1986661051,iU 2177026350,iU 2456956037,iU 2730485921,iU 2820302411,iU 3259730800,iU 3345764771,iU 3516065817,iU 3600352804,iU 4094571909,iU 275423344,iU 430227734,iU 506948616,iU 659060556,iU 883997877,iU 958139571,iU 1322822218,iU 1537002063,iU 1747873779,iU 1955562222,iU 2024104815,iU 2227730452,iU 2361852424,iU 2428436474,iU 2756734187,iU 3204031479,iU 3329325298] (U64 kcs) (e:=22) (fun w=>by kernel_rfl) (fun u hu=>PS.new 64 _ _ u (Nat.le_trans HB0.size hu)))<|oc (g_sE 0 1 (PS w.heap.size 64 (U64 kcs))) on) fun u1 v1_0 hv1_0 v1_1 hv1_1 HB1 _ K1=>?_
 simp only[sQ] at K1⊢
 have hz:=hv1_1 rfl
 go_wp2
 refine bodyPost_ret (v:=v1_1) (by simp[results,Tryz.results140,go_sem]) rfl ⟨_,rfl,hz,HB1⟩
theorem getD_app1{a b:List Nat}{j:Nat}(h:j<a.length):(a++b).getD j 0=a.getD j 0:=by
 rw[List.getD_eq_getElem?_getD,List.getD_eq_getElem?_getD,List.getElem?_append_left h]
theorem getD_app2{a b:List Nat}{j:Nat}(h:a.length<=j):(a++b).getD j 0=b.getD (j -a.length) 0:=by
 rw[List.getD_eq_getElem?_getD,List.getD_eq_getElem?_getD,List.getElem?_append_right h]
def msk(x:Nat)(l:List Nat):List Nat:=l.map (· ^^^x)
def mkL(x:Nat)(l:List Nat):Nat->List Nat
 | 0=>l
 | i+1=>(mkL x l i).set i ((mkL x l i).getD i 0^^^x)
theorem mkL_is(x:Nat)(l:List Nat): ∀i,i<=l.length->mkL x l i=(l.take i).map (· ^^^x)++l.drop i
 | 0,_=>by simp[mkL]
 | i+1,h=>by
  have hi:i<l.length:=by omega
  have e1:((l.take i).map (· ^^^x)).length=i:=by rw[List.length_map,List.length_take];omega
  rw[mkL,mkL_is x l i (by omega)]
  have e2:l.drop i=l[i]::l.drop (i+1):=List.drop_eq_getElem_cons hi
  rw[e2,List.take_succ_eq_append_getElem hi,List.map_append,List.append_assoc]
  rw[getD_app2 (by omega),List.set_append_right _ _ (by omega),e1,Nat.sub_self]
  rfl
theorem mkL_all(x:Nat)(l:List Nat):mkL x l l.length=msk x l:=by
 rw[mkL_is x l _ (Nat.le_refl _)];simp[msk]
theorem xor_lt8{a b:Nat}(ha:a<256)(hb:b<256):a^^^b<256:=Nat.xor_lt_two_pow (n:=8) ha hb
theorem mkL_B{x n:Nat}{l:List Nat}(h:BB n l)(hx:x<256): ∀i,BB n (mkL x l i)
 | 0=>h
 | i+1=>(mkL_B h hx i).set _ _ (xor_lt8 ((mkL_B h hx i).lt i) hx)
theorem msk_B{x n:Nat}{l:List Nat}(h:BB n l)(hx:x<256):BB n (msk x l):=by
 rw[<-mkL_all];exact mkL_B h hx _
def whk(ks:List Nat):List Nat:=if 64<ks.length then dig ks else ks
def whl(ks:List Nat):List Nat:=whk ks++List.replicate (64 -(whk ks).length) 0
theorem whk_len(ks:List Nat):(whk ks).length<=64:=by
 unfold whk;split
 ·rw[(dig_B ks).len];decide
 ·omega
theorem app_B{n m:Nat}{a b:List Nat}(ha:BB n a)(hb:BB m b):BB (n+m) (a++b):=⟨by rw[List.length_append,ha.len,hb.len],fun j=>by
 by_cases h:j<a.length
 ·rw[getD_app1 h];exact ha.lt j
 ·rw[getD_app2 (by omega)];exact hb.lt _⟩
theorem BB_of{l:List Nat}(h: ∀x∈l,x<256):BB l.length l:=⟨rfl,by_getD h⟩
theorem whk_m{ks:List Nat}(h: ∀x∈ks,x<256): ∀x∈whk ks,x<256:=by
 unfold whk;split
 ·exact(dig_B ks).mem
 ·exact h
theorem whl_B{ks:List Nat}(h: ∀x∈ks,x<256):BB 64 (whl ks):=by
 have:=app_B (BB_of (whk_m h)) (BB_rep (64 -(whk ks).length))
 rwa [show (whk ks).length+(64 -(whk ks).length)=64 by have:=whk_len ks;omega] at this
def hm(k xs:List Nat):List Nat:=dig (msk 92 k++dig (msk 54 k++xs))
theorem hm_B(k xs:List Nat):BB 32 (hm k xs):=dig_B _
theorem or_zero{a b:Nat}:a ||| b=0↔a=0/\b=0:=by
 constructor
 ·intro h
  constructor
  ·exact Nat.eq_of_testBit_eq fun i=>by
    have:=congrArg (fun n=>n.testBit i) h
    simp at this
    simp[this.1]
  ·exact Nat.eq_of_testBit_eq fun i=>by
    have:=congrArg (fun n=>n.testBit i) h
    simp at this
    simp[this.2]
 ·rintro⟨rfl,rfl⟩;rfl
theorem wraps_u8(n:Int)(h0:0<=n)(h1:n<2^8):IntKind.u8.wrap n=n:=by simp[IntKind.wrap,IntKind.signed,IntKind.bits];omega
theorem bit_xor8(a b:Nat)(ha:a<256)(hb:b<256):bits .xor .u8 a b=((a^^^b:Nat):Int):=by
 have ha':a%2^8=a:=Nat.mod_eq_of_lt ha
 have hb':b%2^8=b:=Nat.mod_eq_of_lt hb
 have h:(BitVec.ofNat 8 a^^^BitVec.ofNat 8 b).toNat=a^^^b:=by rw[BitVec.toNat_xor,BitVec.toNat_ofNat,BitVec.toNat_ofNat,ha',hb']
 show IntKind.u8.wrap ((BitVec.ofInt 8 (a:Int)^^^BitVec.ofInt 8 (b:Int)).toNat:Int)=_
 rw[BitVec.ofInt_natCast,BitVec.ofInt_natCast,h]
 exact wraps_u8 _ (Int.natCast_nonneg _) (by exact_mod_cast xor_lt8 ha hb)
theorem xor8(p q:Operand)(a b:Nat)(w:World)(ha:a<256)(hb:b<256):(do eqGuard .xor 5 p q (.int .u8 a) (.int .u8 b);binOp .xor 5 (.int .u8 a) (.int .u8 b):Sem Value).run Tryz.prog w= .ok (.int .u8 ((a^^^b:Nat):Int)) w:=by
 rw[<-bit_xor8 a b ha hb];go_simp
def PQ(lo:Nat)(ps:List (List Nat))(u:World)(y:Value):Prop:= ∃b cap,y= .slice (some ⟨b,0,none⟩) ps.length cap/\lo<=b/\b<u.heap.size/\PL u b 0 ps
theorem PL.below{u v:World}{b o:Nat}{ps:List (List Nat)}(h:PL u b o ps)(hb:b<u.heap.size)(hB:Bw u v):PL v b o ps:=fun i p hp=>by
 obtain⟨x,h1,h2⟩:=h i p hp
 exact⟨x,(hB.cell (p:=⟨b,o+i,none⟩) hb).trans h1,(h2.below hB).mono hB.size⟩
theorem PQ.stab{lo:Nat}{ps:List (List Nat)}{u v:World}{x:Value}(hB:Bw u v)(h:PQ lo ps u x):PQ lo ps v x:=by
 obtain⟨b,cap,e,h1,h2,h3⟩:=h
 exact⟨b,cap,e,h1,Nat.lt_of_lt_of_le h2 hB.size,h3.below h2 hB⟩
theorem PF_in{lo:Nat}{xs:List Nat}{u:World}{y:Value}(h:PF lo xs.length (U8 xs) u y):IN u u.heap.size y xs:=by
 obtain⟨b,rfl,_,h2,h4⟩:=h
 refine⟨_,_,b,0,rfl,Nat.le_refl _,.inr rfl,h2,fun j hj=>?_⟩
 rw[Nat.zero_add];exact(h4 j _ (Yc xs j hj)).1
theorem not_t(w:World):(Op.unary .not (.bool true)).run Tryz.prog w= .ok (.bool false) w:=by go_simp
theorem slHB(sl:Option Addr)(n cap k:Nat)(h:k<=n)(hc:n<=cap)(hn:sl=none->cap=0)(w:World):(Instr.sliceAt 46 (.slice sl n cap) none (some (iI k)) none).run Tryz.prog w= .ok (.slice sl k cap) w:=by
 cases sl with
 | none=>
  have e0:=hn rfl
  have e1:n=0:=by omega
  have e2:k=0:=by omega
  subst e0 e1 e2
  show (Instr.sliceAt 46 (.slice none 0 0) none (some (iI 0)) none).run Tryz.prog w=_
  kernel_rfl
 | some a=>
  have h3:k<=cap:=by omega
  simp[Instr.sliceAt,Instr.slice,go_sem,Tryz.underlying46,h3]
theorem PS_in{lo:Nat}{xs:List Nat}{u:World}{y:Value}(h:PS lo xs.length (U8 xs) u y):IN u u.heap.size y xs:=by
 obtain⟨b,cap,rfl,_,h2,h3,h4⟩:=h
 exact⟨_,_,b,0,rfl,h3,.inr rfl,h2,CV.sb h4⟩
theorem IN_nil(u:World)(h:0<u.heap.size):IN u u.heap.size (.slice none 0 0) []:=⟨none,0,0,0,rfl,Nat.le_refl _,.inl rfl,h,fun j hj=>by simp at hj⟩
theorem sc32(ds:List Nat)(hd:ds.length=32)(u:World):(storeCells ⟨u.heap.size,0,none⟩ (U8 ds)).run Tryz.prog (u.alloc (.cells #[.int .u8 0,.int .u8 0,.int .u8 0,.int .u8 0,.int .u8 0,.int .u8 0,.int .u8 0,.int .u8 0,.int .u8 0,.int .u8 0,.int .u8 0,.int .u8 0,.int .u8 0,.int .u8 0,.int .u8 0,.int .u8 0,.int .u8 0,.int .u8 0,.int .u8 0,.int .u8 0,.int .u8 0,.int .u8 0,.int .u8 0,.int .u8 0,.int .u8 0,.int .u8 0,.int .u8 0,.int .u8 0,.int .u8 0,.int .u8 0,.int .u8 0,.int .u8 0] 117))= .ok () ((u.alloc (.cells #[.int .u8 0,.int .u8 0,.int .u8 0,.int .u8 0,.int .u8 0,.int .u8 0,.int .u8 0,.int .u8 0,.int .u8 0,.int .u8 0,.int .u8 0,.int .u8 0,.int .u8 0,.int .u8 0,.int .u8 0,.int .u8 0,.int .u8 0,.int .u8 0,.int .u8 0,.int .u8 0,.int .u8 0,.int .u8 0,.int .u8 0,.int .u8 0,.int .u8 0,.int .u8 0,.int .u8 0,.int .u8 0,.int .u8 0,.int .u8 0,.int .u8 0,.int .u8 0] 117)).setCells u.heap.size 0 (U8 ds)):=by
 have hc:CV (u.alloc (.cells #[.int .u8 0,.int .u8 0,.int .u8 0,.int .u8 0,.int .u8 0,.int .u8 0,.int .u8 0,.int .u8 0,.int .u8 0,.int .u8 0,.int .u8 0,.int .u8 0,.int .u8 0,.int .u8 0,.int .u8 0,.int .u8 0,.int .u8 0,.int .u8 0,.int .u8 0,.int .u8 0,.int .u8 0,.int .u8 0,.int .u8 0,.int .u8 0,.int .u8 0,.int .u8 0,.int .u8 0,.int .u8 0,.int .u8 0,.int .u8 0,.int .u8 0,.int .u8 0] 117)) u.heap.size (U8 z32):=CV.new u (U8 z32) 117
 have hl:(U8 z32).length=32:=by rw[Z2];rfl
 have hl2:(U8 ds).length=32:=by rw[Z2];exact hd
 have h:=run_storeCells_cells (P:=Tryz.prog) u.heap.size 0 (U8 ds) 0 (u.alloc (.cells #[.int .u8 0,.int .u8 0,.int .u8 0,.int .u8 0,.int .u8 0,.int .u8 0,.int .u8 0,.int .u8 0,.int .u8 0,.int .u8 0,.int .u8 0,.int .u8 0,.int .u8 0,.int .u8 0,.int .u8 0,.int .u8 0,.int .u8 0,.int .u8 0,.int .u8 0,.int .u8 0,.int .u8 0,.int .u8 0,.int .u8 0,.int .u8 0,.int .u8 0,.int .u8 0,.int .u8 0,.int .u8 0,.int .u8 0,.int .u8 0,.int .u8 0,.int .u8 0] 117)) (fun j hj=>by
  rw[Nat.zero_add,(hc j _ (List.getElem?_eq_getElem (by omega))).1];rfl) (fun j hj=>by
  rw[Nat.zero_add];exact(hc j _ (List.getElem?_eq_getElem (by omega))).2) Vn
 exact h
theorem bk32(ds:List Nat)(hd:ds.length=32)(m:Nat)(u:World)(hm:m<=u.heap.size):Bk m ((u.alloc (.cells #[.int .u8 0,.int .u8 0,.int .u8 0,.int .u8 0,.int .u8 0,.int .u8 0,.int .u8 0,.int .u8 0,.int .u8 0,.int .u8 0,.int .u8 0,.int .u8 0,.int .u8 0,.int .u8 0,.int .u8 0,.int .u8 0,.int .u8 0,.int .u8 0,.int .u8 0,.int .u8 0,.int .u8 0,.int .u8 0,.int .u8 0,.int .u8 0,.int .u8 0,.int .u8 0,.int .u8 0,.int .u8 0,.int .u8 0,.int .u8 0,.int .u8 0,.int .u8 0] 117)).setCells u.heap.size 0 (U8 ds)) [(true,u.heap.size,U8 ds)]:=by
 have hc:CV (u.alloc (.cells #[.int .u8 0,.int .u8 0,.int .u8 0,.int .u8 0,.int .u8 0,.int .u8 0,.int .u8 0,.int .u8 0,.int .u8 0,.int .u8 0,.int .u8 0,.int .u8 0,.int .u8 0,.int .u8 0,.int .u8 0,.int .u8 0,.int .u8 0,.int .u8 0,.int .u8 0,.int .u8 0,.int .u8 0,.int .u8 0,.int .u8 0,.int .u8 0,.int .u8 0,.int .u8 0,.int .u8 0,.int .u8 0,.int .u8 0,.int .u8 0,.int .u8 0,.int .u8 0] 117)) u.heap.size (U8 z32):=CV.new u (U8 z32) 117
 refine⟨⟨⟨by rw[Zp];simp,fun _=>hm,hc.put ?_⟩,trivial⟩,by simp⟩
 rw[Z2,Z2,hd];rfl
section
theorem Wm:EnT 130:=fun _ _=>by kernel_rfl
theorem SB.take{w:World}{g o:Nat}{xs:List Nat}(h:SB w g o xs)(n:Nat):SB w g o (xs.take n):=fun j hj=>by
 have hj2:j<n/\j<xs.length:=by rw[List.length_take] at hj;omega
 rw[h j hj2.2,List.getD_eq_getElem?_getD,List.getD_eq_getElem?_getD,List.getElem?_take_of_lt hj2.1]
section
variable {R:Rg} {P:Program} {ops:Array Oper} {Q:Exit->Act->World->Prop} {f:Nat->Bool} {t:Nat->Value} {u:World} {a:Act} {i:Nat} {o:Oper}
end
theorem bdF(w:World):(Instr.build 172 [(0,.int .u32 1779033703),(1,.int .u32 3144134277),(2,.int .u32 1013904242),(3,.int .u32 2773480762),(4,.int .u32 1359893119),(5,.int .u32 2600822924),(6,.int .u32 528734635),(7,.int .u32 1541459225)].toArray).run Tryz.prog w= .ok (.agg (U32 fst8).toArray) w:=by kernel_rfl
theorem bdZ(w:World):(Instr.build 149 ([]:List (Nat×Value)).toArray).run Tryz.prog w= .ok (.agg (U8 z64).toArray) w:=by kernel_rfl
theorem Wa(w:World):(Instr.alloc 149 true (.tuple #[])).run Tryz.prog w= .ok (.pointer (some ⟨w.heap.size,0,none⟩)) (w.alloc (.cells (U8 z64).toArray 149)):=by kernel_rfl
theorem x64b(b k:Nat)(w:World)(h:k<64):(Instr.indexAt 149 (.pointer (some ⟨b,0,none⟩)) (iI k)).run Tryz.prog w= .ok (.pointer (some ⟨b,k,none⟩)) w:=by
 have h2:(k:Int)<64:=by omega
 go_simp
theorem cFirst(w:World):CC 130 #[] w (.agg (U32 fst8).toArray):=by
 go_enter Tryz.func130,Tryz.ntmps130
 go_upto_region 1 with fail
 generalize hC:(w.alloc (.cells (Z8w:List Value).toArray 172))=v0 at *
 have HB0:Bw w v0:=by rw[<-hC];exact Z7 (Zx w) _
 have K0:Bk w.heap.size v0 [(true,w.heap.size,U32 z8)]:=by rw[<-hC];exact(Bk.nil _ w).ad
 clear hC
 refine Rp K0 HB0 [.all 1 (U32 fst8)] [] [(0,1,_)] [] [] [] (oc (g_bd bdF)<|oc (g_st 0 Zd (h1:=W2 _) (hm:=by rw[Ze,show fst8.length=8 from rfl]) (hl:=by rw[Ze,Ze,show fst8.length=8 from rfl,show z8.length=8 from rfl])) on) fun u1 HB1 _ K1=>?_
 simp only[sQ] at K1⊢
 go_wp2
 refine bodyPost_ret (Y3 Tryz.results130 rfl (K1.cv 0) Tryz.underlying172 rfl (by rw[Ze,show fst8.length=8 from rfl];exact Zd)) rfl ⟨rfl,HB1⟩
end
theorem sl64(b:Nat)(w:World):(Instr.sliceAt 149 (.pointer (some ⟨b,0,none⟩)) none none none).run Tryz.prog w= .ok (.slice (some ⟨b,0,none⟩) 64 64) w:=by
 simp[Instr.sliceAt,Instr.slice,go_sem,Tryz.underlying149]
theorem sl32(b:Nat)(w:World):(Instr.sliceAt 117 (.pointer (some ⟨b,0,none⟩)) none none none).run Tryz.prog w= .ok (.slice (some ⟨b,0,none⟩) 32 32) w:=by
 simp[Instr.sliceAt,Instr.slice,go_sem,Tryz.underlying117]
theorem U2:EnT 129:=fun _ _=>by kernel_rfl
theorem eql_it(p q:Operand)(x y:Int)(b:Bool)(w:World)(h:decide (x=y)=b):(do eqGuard .eql 3 p q (iI x) (iI y);binOp .eql 3 (iI x) (iI y):Sem Value).run Tryz.prog w= .ok (.bool b) w:=by
 subst h;go_simp
 first | done | (by_cases e:x=y<;>simp[e])
theorem cMasked_core(ks:List Nat)(x:Nat)(mL:Nat->List Nat)(w:World)(hx:x<256)(h0:Hid (mL 0=ks))(hs:Hid (∀i,mL (i+1)=(mL i).set i ((mL i).getD i 0^^^x)))(hB:Hid (∀i,BB 64 (mL i))):
 Calls Tryz.prog 129 #[.agg (U8 ks).toArray,.int .u8 ((x:Nat):Int)] w fun e w'=> ∃v,e= .returned v/\PF w.heap.size 64 (U8 (mL 64)) w' v/\Bw w w':=by
 go_enter Tryz.func129,Tryz.ntmps129
 go_upto_region 1 with fail
 obtain⟨v0,hC,HB0,K0⟩:=bx1 w (U8 ks) 149
 rw[hC]
 clear hC
 refine Rn K0 HB0 [(0,6,_)] (oc g_mv on) fun u1 HB1 _ K1=>?_
 simp only[sQ] at K1⊢
 go_wp2_with fail
 go_loopw [6] (fun s6 wr=> ∃(i:Nat),i<=64/\s6=iI (i:Int)/\Bw w wr/\Hid (CV wr w.heap.size (U8 (mL i)))/\w.heap.size<wr.heap.size) (fun s6 _=>64 -(intOf s6).toNat)
 case atStart=>exact⟨0,by omega,rfl,HB1,(by rw[h0.out];exact(K1.cv 0)),(K1.lt 0)⟩
 case round=>
  obtain⟨i,hi,rfl,HBr,Kt,lt⟩:=hrel
  by_cases hj:i<64
  ·have hl1:decide ((i:Int)<64)=true:=by simp;omega
   have hS:=hs.out i
   have hB64:=hB.out i
   have hlen:=hB64.len
   have hlt:=hB64.lt i
   obtain⟨ts,ets⟩: ∃ts,mL i=ts:=⟨_,rfl⟩
   rw[ets] at hS hlen hlt Kt
   have gi:=Yc ts i (by omega)
   obtain⟨y,ey⟩: ∃y,ts.getD i 0=y:=⟨_,rfl⟩
   rw[ey] at gi hS hlt
   have hS:Hid _:=hS
   clear ets ey hB64
   have K1_1:Bk w.heap.size wr [(true,w.heap.size,U8 ts)]:=⟨.o lt (K1.lo 0) Kt.out<|trivial,by simp⟩
   go_upto_region 2 with fail
   refine Rn K1_1 HBr [(0,7,_)] (oc (g_bn (fun uZ=>Zg _ _ (i:Int) 64 _ uZ hl1)) on) fun u2 HB2 sz2 K2=>?_
   simp only[sQ] at K2⊢
   go_upto_region 3 with fail
   refine Rn K2 HB2 [(0,8,_),(1,5,_)] (oc g_mv<|oc g_as on) fun u3 HB3 sz3 K3=>?_
   simp only[sQ] at K3⊢
   go_upto_region 4 with fail
   refine Rp K3 HB3 [.all 6 (U8 (ts.set i (y^^^x)))] [] (cG 0 9 [_,_,_,_,_,_] []) [(6,2)] [] [] (oc g_mv<|oc (g_ix (fun uZ=>x64b w.heap.size i uZ hj))<|oc (g_lw 0 i l8 gi)<|oc g_mv<|oc (g_bn (fun uZ=>xor8 _ _ y x uZ hlt hx))<|oc (g_ix (fun uZ=>x64b w.heap.size i uZ hj))<|oc (g_sw 0 i s8 gi (Wp _ _ _)) on) fun u4 HB4 _ K4=>?_
   simp only[sQ] at K4⊢
   go_upto_region 5 with fail
   refine Rp K4 HB4 [] [] [(0,15,_),(1,6,_)] [(1,0)] [(1,6)] [] (oc (g_bn (fun uZ=>Zy _ _ (i:Int) 1 ((i+1:Nat):Int) uZ (by omega) (by omega) (by omega)))<|oc g_mv on) fun u5 HB5 _ K5=>?_
   simp only[sQ] at K5⊢
   go_wp2
   refine⟨⟨i+1,by omega,rfl,HB5,(by rw[hS.out];exact(K5.cv 0)),(K5.lt 0)⟩,?_⟩
   simp[intOf]<;>omega
  ·have hl1:decide ((i:Int)<64)=false:=by simp;omega
   have hin:i=64:=by omega
   subst hin
   have K1_1:Bk w.heap.size wr [(false,w.heap.size,U8 (mL 64))]:=⟨.c lt Kt.out<|trivial,by simp⟩
   go_upto_region 2 with fail
   refine Rn K1_1 HBr [(0,7,_)] (oc (g_bn (fun uZ=>Zg _ _ ((64:Nat):Int) 64 _ uZ hl1)) on) fun u2 HB2 sz2 K2=>?_
   simp only[sQ] at K2⊢
   go_upto_region 6 with fail
   refine Rn K2 HB2 [(0,16,_),(1,4,_)] (oc (g_sl (sl64 w.heap.size))<|oc g_as on) fun u3 HB3 sz3 K3=>?_
   simp only[sQ] at K3⊢
   go_wp2
   refine bodyPost_ret (v:= .slice (some ⟨w.heap.size,0,none⟩) 64 64) (by simp[results,Tryz.results129,go_sem]) rfl ⟨_,rfl,⟨w.heap.size,rfl,Nat.le_refl _,(K3.lt 0),(K3.cv 0)⟩,HB3⟩
theorem cMasked(ks:List Nat)(x:Nat)(w:World)(hk:BB 64 ks)(hx:x<256):
 Calls Tryz.prog 129 #[.agg (U8 ks).toArray,.int .u8 ((x:Nat):Int)] w fun e w'=> ∃v,e= .returned v/\PF w.heap.size 64 (U8 (msk x ks)) w' v/\Bw w w':=by
 have h:=cMasked_core ks x (mkL x ks) w hx rfl (fun _=>rfl) (mkL_B hk hx)
 have e:=mkL_all x ks
 rw[hk.len] at e
 rwa [e] at h
end
end Go.Proofs.YtdhlekdohebbbaaGreatDoor
