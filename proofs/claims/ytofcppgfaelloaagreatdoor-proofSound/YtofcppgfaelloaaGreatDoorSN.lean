import Derived.Test.YtofcppgfaelloaaGreatDoorSH7
import Derived.Deep.Upon
import Derived.Lib.SlBytesConst
namespace Go.Proofs.YtofcppgfaelloaaGreatDoor
set_option linter.unusedVariables false
set_option linter.unusedSimpArgs false
set_option maxRecDepth 100000
set_option maxHeartbeats 4000000
section
open Go.RowKit
section
def tk1 (q:List Nat×List Nat×Nat) (x:Nat):List Nat×List Nat×Nat:=
 (if (q.2.2+1)%64=0 then blk q.1 (q.2.1.set (q.2.2%64) x) else q.1,q.2.1.set (q.2.2%64) x,q.2.2+1)
def tkA (q:List Nat×List Nat×Nat) (xs:List Nat):List Nat×List Nat×Nat:=xs.foldl tk1 q
theorem Ut (q:List Nat×List Nat×Nat) (xs ys:List Nat):tkA q (xs++ys)=tkA (tkA q xs) ys:=List.foldl_append
theorem tkA_is (q:List Nat×List Nat×Nat) (xs:List Nat): ∀j,j<=xs.length->tkA q (xs.take j)=(tkS q.2.2 q.1 q.2.1 xs j,tkB q.2.2 q.2.1 xs j,q.2.2+j)
 | 0,_=>by simp[tkA,tkS,tkB]
 | j+1,h=>by
  have hg:xs.getD j 0=xs[j]:=by simp[List.getElem?_eq_getElem (show j<xs.length by omega)]
  rw[List.take_succ_eq_append_getElem (by omega),Ut,tkA_is q xs j (by omega)]
  show tk1 _ _=_
  unfold tk1
  simp only[tkS,tkB,hg,Nat.add_assoc]
theorem tkA_all (q:List Nat×List Nat×Nat) (xs:List Nat):tkA q xs=(tkS q.2.2 q.1 q.2.1 xs xs.length,tkB q.2.2 q.2.1 xs xs.length,q.2.2+xs.length):=by
 have:=tkA_is q xs xs.length (Nat.le_refl _)
 rwa [List.take_length] at this
structure QW (q:List Nat×List Nat×Nat):Prop where
 s:WW 8 q.1
 b:BB 64 q.2.1
theorem QW.go {q:List Nat×List Nat×Nat} (h:QW q) (xs:List Nat) (hx: ∀j,xs.getD j 0<256):QW (tkA q xs):=by
 rw[tkA_all];exact⟨tkS_W h.s _,tkB_B h.b hx _⟩
theorem tkA_c (q:List Nat×List Nat×Nat) (xs:List Nat):(tkA q xs).2.2=q.2.2+xs.length:=by rw[tkA_all]
abbrev RQ (q:List Nat×List Nat×Nat):List Value:=RB q.1 q.2.1 q.2.2
theorem cTakeB (xs:List Nat) (q:List Nat×List Nat×Nat) (b0 gb go cap:Nat) (sl:Option Addr) (w:World) (hq:QW q) (hx: ∀j,xs.getD j 0<256) (hxl:xs.length<=10000) (hc:q.2.2<=1000000) (hcap:xs.length<=cap) (hsl:xs.length=0\/sl=some ⟨gb,go,none⟩) (h1b:6<b0) (hlt:b0<w.heap.size) (hV:GV w) (hgb:gb<b0) (hsrc:SB w gb go xs) (hcv:CV w b0 (RQ q)):
 Calls Tryz.prog 157 #[.pointer (some ⟨b0,0,none⟩),.slice sl xs.length cap] w fun e w'=>e= .returned (.tuple #[])/\Below b0 w w'/\CV w' b0 (RQ (tkA q xs)):=by
 have h:=cTake_b xs (tkS q.2.2 q.1 q.2.1 xs) (tkB q.2.2 q.2.1 xs) q.2.2 b0 gb go cap sl w hxl hc hcap hsl h1b hlt hV hgb hsrc hcv (tkB_B hq.b hx) (tkS_W hq.s) (fun j k n h1 h2 h3=>tkB_many _ _ _ hq.b.len j k h1 n h2 h3) (fun j k n h1 h2 h3 h4=>by
  obtain⟨m,rfl⟩: ∃m,n=m+1:=⟨n -1,by omega⟩
  exact tkS_many _ _ _ _ j k h1 m h3)
 rw[tkA_all];exact h
theorem cTakeO (xs:List Nat) (q:List Nat×List Nat×Nat) (b0 gb cap:Nat) (w:World) (hq:QW q) (hx: ∀j,xs.getD j 0<256) (hxl:xs.length<=10000) (hc:q.2.2<=1000000) (hcap:xs.length<=cap) (h1b:6<b0) (hlt:b0<w.heap.size) (hV:GV w) (hne:gb≠b0) (hglt:gb<w.heap.size) (hsrc:CV w gb (U8 xs)) (hcv:CV w b0 (RQ q)):
 Calls Tryz.prog 157 #[.pointer (some ⟨b0,0,none⟩),.slice (some ⟨gb,0,none⟩) xs.length cap] w fun e w'=>e= .returned (.tuple #[])/\Below b0 w w'/\CV w' b0 (RQ (tkA q xs)):=by
 have h:=cTake_o xs (tkS q.2.2 q.1 q.2.1 xs) (tkB q.2.2 q.2.1 xs) q.2.2 b0 gb cap (some ⟨gb,0,none⟩) w hxl hc hcap (.inr rfl) h1b hlt hV hne hglt hsrc hcv (tkB_B hq.b hx) (tkS_W hq.s) (fun j k n h1 h2 h3=>tkB_many _ _ _ hq.b.len j k h1 n h2 h3) (fun j k n h1 h2 h3 h4=>by
  obtain⟨m,rfl⟩: ∃m,n=m+1:=⟨n -1,by omega⟩
  exact tkS_many _ _ _ _ j k h1 m h3)
 rw[tkA_all];exact h
theorem BB.all {n:Nat} {l:List Nat} (h:BB n l): ∀j,l.getD j 0<256:=h.lt
def q00:List Nat×List Nat×Nat:=(fst8,z64,0)
theorem q00_W:QW q00:=⟨⟨rfl,fun j=>by
 by_cases h:j<8
 ·exact(by decide: ∀j,j<8->fst8.getD j 0<M32) j h
 ·rw[List.getD_eq_getElem?_getD,List.getElem?_eq_none (by show 8<=j;omega)];decide⟩,BB_rep 64⟩
def dig (xs:List Nat):List Nat:=told (tkA q00 (xs++Vg xs.length)).1
section
variable {R:Rg} {P:Program} {ops:Array Oper} {Q:Exit->Act->World->Prop} {f:Nat->Bool} {t:Nat->Value} {u:World} {a:Act} {i:Nat} {o:Oper}
theorem g_lgR (b c:Nat) {T:TypeId} {x:Operand} {cs:List Value} {dd:TypeDesc} (hl: ∀j v,cs[j]?=some v->R.w.cell? ⟨b,c+j,none⟩=some v) (hb:b<R.lo) (hu:P.underlying T=some dd) (hi:(P.info? T).map (·.size)=some cs.length) (hop:o.op= .load T x:=by rfl) (hx:evR R i o x=some (.pointer (some ⟨b,c,none⟩)):=by rfl)
 (hr:dd.isRow=true:=by rfl) (hv:some (.agg cs.toArray)=Zw i R.G:=by rfl) (hc:R.chk ops i o=true:=by rfl):OG R P ops Q i o:=
 Y5 hv hc fun f t u a X K hK=>wp_load_mid T x hop b c (X.ev hx) cs dd (fun j v hj=>(X.I.1.bel.cell (p:=⟨b,c+j,none⟩) hb).trans (hl j v hj)) hu hr hi hK
theorem g_cxb (k:Nat) {N:FuncId} {args:List Operand} {tys:Array TypeId} {vs:List Value} {v:Value} {b:Nat} {l post:List Value} (hr: ∀(vs:Array Value) (w:World),(callFunc N vs).run P w= .ok (.enter N vs) w)
 (hcall: ∀f w,KC f w R.lo R.base R.es->R.base<=w.heap.size->Below R.lo R.w w->CV w b l->Calls P N vs.toArray w fun e w'=>e= .returned v/\Below b w w'/\CV w' b post) (hlt:LtB b (R.es.eraseIdx k)) (hop:o.op= .call {callee:= .value (.func N),args:=args.toArray,argTypes:=tys}:=by rfl) (hn:R.es[k]?=some (true,b,l,.all i post):=by rfl) (hx:args.mapM (evR R i o)=some vs:=by rfl) (hv:some v=Zw i R.G:=by rfl)
 (hw:R.nw=[]:=by rfl) (hE:R.E=[]:=by rfl) (hc:((match o.dst with | some d=>Ts i d R.G&&Vt i d R.Ns&&R.S.contains d | none=>false)&&R.okO i o&&((R.es.eraseIdx k).all fun q=>q.2.2.2.free i)&&(V3 R ops o==some true))=true:=by rfl):OG R P ops Q i o:=fun f t u a X=>by
 cases hd:o.dst with
 | none=>rw[hd] at hc;simp at hc
 | some d=>
  rw[hd] at hc
  simp only[Bool.and_eq_true,List.contains_iff_mem,beq_iff_eq] at hc
  obtain⟨q1,q2,q3⟩:=X.I.2.1.get hn
  have q3:CV u b (bif f i then post else l):=q3
  rw[X.fi] at q3
  have q3:CV u b l:=q3
  refine X.go hc.2 fun K hK=>wp_callX hop (X.evs hx) hr (B:=fun w'=>Below b u w'/\CV w' b post) ((hcall f u X.I.2.1 X.I.1.sz X.I.1.bel q3)) fun w' hB=>hK _ _ ⟨updT t d v,by rw[hd];exact X.F.put X.parts.1 hc.1.1.1.2 v,?_,?_,Gs.stepA X.I.2.2.1 hc.1.1.1.1.1 hv.symm,Yv hc.1.1.2 X.I.2.2.2.1 X.dep,Ns.step X.I.2.2.2.2.1 hc.1.1.1.1.2,by rw[hE];trivial⟩
  ·have hM:=X.I.1
   rw[hw] at hM⊢
   exact{bel:=hM.bel.trans (hB.1.mono (q2 rfl)),lo:=hM.lo,sz:=Nat.le_trans hM.sz hB.1.size,ks:=trivial,ex:=trivial,nw:=trivial,nd:=trivial}
  ·exact KC.putB hB.1 X.I.2.1 hn hlt hc.1.2 (by simp only[Wr.val,Yr,cond_true];exact hB.2)
theorem g_cy (k:Nat) (p:World->Value->Prop) {N:FuncId} {j dy:Nat} {x:Operand} {tys:Array TypeId} {vx v:Value} {b:Nat} {l post:List Value} (hr: ∀(vs:Array Value) (w:World),(callFunc N vs).run P w= .ok (.enter N vs) w)
 (hcall: ∀f w y,KC f w R.lo R.base R.es->R.base<=w.heap.size->Below R.lo R.w w->p w y->CV w b l->Calls P N #[vx,y] w fun e w'=>e= .returned v/\Below b w w'/\CV w' b post) (hlt:LtB b (R.es.eraseIdx k)) (hop:o.op= .call {callee:= .value (.func N),args:=[x,.tmp dy].toArray,argTypes:=tys}:=by rfl) (hn:R.es[k]?=some (true,b,l,.all i post):=by rfl) (hx:evR R i o x=some vx:=by rfl) (hE:R.E=[⟨j,dy,some i,p⟩]:=by rfl) (hdd:(Y1 o j&&R.S.contains dy)=true:=by rfl) (hv:some v=Zw i R.G:=by rfl)
 (hw:R.nw=[]:=by rfl) (hc:((match o.dst with | some d=>Ts i d R.G&&Vt i d R.Ns&&R.S.contains d | none=>false)&&R.okO i o&&((R.es.eraseIdx k).all fun q=>q.2.2.2.free i)&&(V3 R ops o==some true))=true:=by rfl):OG R P ops Q i o:=fun f t u a X=>by
 rw[Bool.and_eq_true,List.contains_iff_mem] at hdd
 obtain⟨h2,h4⟩:=hdd
 have hy:p u (t dy):=X.val (n:=0) (q:=⟨j,dy,some i,p⟩) (by rw[hE];rfl) h2 rfl
 cases hd:o.dst with
 | none=>rw[hd] at hc;simp at hc
 | some d=>
  rw[hd] at hc
  simp only[Bool.and_eq_true,List.contains_iff_mem,beq_iff_eq] at hc
  obtain⟨q1,q2,q3⟩:=X.I.2.1.get hn
  have q3:CV u b (bif f i then post else l):=q3
  rw[X.fi] at q3
  have q3:CV u b l:=q3
  refine X.go hc.2 fun K hK=>wp_callX (vs:=[vx,t dy]) hop (by rw[List.map_cons,List.map_cons,List.map_nil,X.ev hx,X.inS h4]) hr (B:=fun w'=>Below b u w'/\CV w' b post) ((hcall f u (t dy) X.I.2.1 X.I.1.sz X.I.1.bel hy q3)) fun w' hB=>hK _ _ ⟨updT t d v,by rw[hd];exact X.F.put X.parts.1 hc.1.1.1.2 v,?_,?_,Gs.stepA X.I.2.2.1 hc.1.1.1.1.1 hv.symm,Yv hc.1.1.2 X.I.2.2.2.1 X.dep,Ns.step X.I.2.2.2.2.1 hc.1.1.1.1.2,?_⟩
  ·have hM:=X.I.1
   rw[hw] at hM⊢
   exact{bel:=hM.bel.trans (hB.1.mono (q2 rfl)),lo:=hM.lo,sz:=Nat.le_trans hM.sz hB.1.size,ks:=trivial,ex:=trivial,nw:=trivial,nd:=trivial}
  ·exact KC.putB hB.1 X.I.2.1 hn hlt hc.1.2 (by simp only[Wr.val,Yr,cond_true];exact hB.2)
  ·rw[hE]
   exact⟨fun _ h=>(by have h3:=h i rfl;rw[Yr] at h3;cases h3),trivial⟩
end
theorem al_sha_running (w:World):(Instr.alloc 191 true (.tuple #[])).run Tryz.prog w= .ok (.pointer (some ⟨w.heap.size,0,none⟩)) (w.alloc (.cells (RB z8 z64 0).toArray 191)):=by kernel_rfl
theorem Tt:(Tryz.prog.info? 191).map (·.size)=some 73:=by kernel_rfl
theorem bd_running (w:World):(Instr.build 191 [(0,.agg (U32 fst8).toArray)].toArray).run Tryz.prog w= .ok (.agg (RB fst8 z64 0).toArray) w:=by kernel_rfl
theorem lSl {b c n cap:Nat} {sl:Option Addr} (w:World) (h:w.cell? ⟨b,c,none⟩=some (.slice sl n cap)):(Instr.loadAt 43 (.pointer (some ⟨b,c,none⟩))).run Tryz.prog w= .ok (.slice sl n cap) w:=by go_simp
theorem ixSl (b o n cap k:Nat) (w:World) (hk:k<n):(Instr.indexAt 179 (.slice (some ⟨b,o,none⟩) n cap) (iI (k:Int))).run Tryz.prog w= .ok (.pointer (some ⟨b,o+k,none⟩)) w:=by
 have h2:(k:Int)<n:=by omega
 go_simp
end
theorem GVf {w:World} (h:GV w): ∀j v,(U32 fst8)[j]?=some v->w.cell? ⟨3,j,none⟩=some v:=fun j v hj=>by
 have hl:j<8:=by have:=(List.getElem?_eq_some_iff.1 hj).1;rwa [Za] at this
 rw[Y0 fst8 j hl] at hj
 cases hj
 exact h.f j hl
theorem cParts_core (n gl go gcap m c':Nat) (sl:Nat->Option Addr) (ln cp c:Nat->Nat) (s b:Nat->List Nat) (s' b' ds es:List Nat) (w:World) (hgl:gl<w.heap.size) (hn:n<=1000000) (hV:GV w) (hld:Hid (∀i,i<n->w.cell? ⟨gl,go+i,none⟩=some (.slice (sl i) (ln i) (cp i)))) (h0s:Hid (s 0=fst8)) (h0b:Hid (b 0=z64)) (h0c:Hid (c 0=0)) (hs8:(s n).length=8) (hb64:(b n).length=64) (hs8':s'.length=8) (hds:ds.length=32)
 (hTk:Hid (∀i,i<n-> ∀(u:World) (b0:Nat),Bw w u->w.heap.size<=b0->b0<u.heap.size->CV u b0 (RB (s i) (b i) (c i))->Calls Tryz.prog 157 #[.pointer (some ⟨b0,0,none⟩),.slice (sl i) (ln i) (cp i)] u fun e u'=>e= .returned (.tuple #[])/\Below b0 u u'/\CV u' b0 (RB (s (i+1)) (b (i+1)) (c (i+1)))))
 (hEn:Hid (∀u,Calls Tryz.prog 158 #[iU ((c n:Nat):Int)] u fun e u'=> ∃v,e= .returned v/\PF u.heap.size m (U8 (es)) u' v/\Bw u u'))
 (hTe:Hid (∀(u:World) (y:Value) (b0:Nat),Bw w u->w.heap.size<=b0->b0<u.heap.size->PF (b0+1) m (U8 (es)) u y->CV u b0 (RB (s n) (b n) (c n))->Calls Tryz.prog 157 #[.pointer (some ⟨b0,0,none⟩),y] u fun e u'=>e= .returned (.tuple #[])/\Below b0 u u'/\CV u' b0 (RB (s') (b') (c'))))
 (hTo:Hid (∀u,CC 159 #[.agg (U32 (s')).toArray] u (.agg (U8 (ds)).toArray))):
 CC 147 #[(.slice (some ⟨gl,go,none⟩) n gcap)] w (.agg (U8 (ds)).toArray):=by
 go_enter Tryz.func147,Tryz.ntmps147
 go_upto_region 1 with fail
 generalize hC:(w.alloc (.cells (Z32b:List Value).toArray 110))=v0 at *
 have HB0:Bw w v0:=by rw[<-hC];exact Z2 (Zm w) _
 have K0:Bk w.heap.size v0 [(true,w.heap.size,U8 (z32))]:=by rw[<-hC];exact(Bk.nil _ w).ad
 clear hC
 refine Rp K0 HB0 [] [(2,3,RB (z8) (z64) (0),some (3,RB (fst8) (z64) (0)))] [(0,6,_),(1,7,_)] [(3,2)] [] [] (oc (g_lgR 3 0 (cs:=U32 fst8) (fun j v hj=>by rw[Nat.zero_add];exact GVf hV j v hj) (by exact Nat.lt_of_le_of_lt (by decide) hV.sz) Tryz.underlying164 Z8)<|oc (g_bd bd_running)<|oc (g_al 0 al_sha_running)<|oc (g_sn 0 Tt) on) fun u1 b1_2 HB1 _ K1=>?_
 simp only[sQ] at K1⊢
 go_upto_region 2 with fail
 refine Rn K1 HB1 (cG 0 8 [_,_,_] []) (oc g_mv<|oc (g_ln Tryz.underlying179)<|oc g_mv on) fun u2 HB2 _ K2=>?_
 simp only[sQ] at K2⊢
 go_wp2_with fail
 go_loopw [10] (fun s10 wr=> ∃(i:Nat),i<=n/\s10=iI (i:Int)/\Bw w wr/\Hid (CV wr (w.heap.size) (U8 (z32)))/\w.heap.size<wr.heap.size/\Hid (CV wr b1_2 (RB (s i) (b i) (c i)))/\b1_2<wr.heap.size) (fun s10 _=>n -(intOf s10).toNat)
 case atStart=>exact⟨0,by omega,rfl,HB2,(K2.cv 0),(K2.lt 0),(by rw[h0s.out,h0b.out,h0c.out];exact(K2.cv 1)),(K2.lt 1)⟩
 case round=>
  obtain⟨i,hi,rfl,HBr,Kz,lz,Kr,lr⟩:=hrel
  have hlo:=K2.lo 1
  have hnd:=K2.n
  simp at hnd
  by_cases hj:i<n
  ·have hl1:decide ((i:Int)<n)=true:=by simp;omega
   have hk:=hTk.out i hj
   have hi1:=hld.out i hj
   obtain⟨si,esi⟩: ∃x,s i=x:=⟨_,rfl⟩
   obtain⟨bi,ebi⟩: ∃x,b i=x:=⟨_,rfl⟩
   obtain⟨ci,eci⟩: ∃x,c i=x:=⟨_,rfl⟩
   obtain⟨sj,esj⟩: ∃x,s (i+1)=x:=⟨_,rfl⟩
   obtain⟨bj,ebj⟩: ∃x,b (i+1)=x:=⟨_,rfl⟩
   obtain⟨cj,ecj⟩: ∃x,c (i+1)=x:=⟨_,rfl⟩
   rw[esi,ebi,eci] at Kr hk
   rw[esj,ebj,ecj] at hk
   have hk:Hid _:=hk
   have hi1:Hid _:=hi1
   have esj:Hid _:=esj
   have ebj:Hid _:=ebj
   have ecj:Hid _:=ecj
   clear esi ebi eci
   have hnK:=K2.n
   simp at hnK
   have hoK1:=K2.lo 1
   have K2_1:Bk w.heap.size wr [(false,w.heap.size,U8 (z32)),(true,b1_2,RB (si) (bi) (ci))]:=⟨.c lz Kz.out<| .o lr (K2.lo 1) Kr.out<|trivial,by simp;omega⟩
   go_upto_region 3 with fail
   refine Rn K2_1 HBr [(0,11,_)] (oc (g_bn (fun uZ=>Zc _ _ (i:Int) (n:Int) _ uZ hl1)) on) fun u3 HB3 sz3 K3=>?_
   simp only[sQ] at K3⊢
   go_upto_region 4 with fail
   refine Rn K3 HB3 [(0,12,_),(1,13,_),(2,5,_)] (oc (g_ix (fun uZ=>ixSl gl go n gcap i uZ hj))<|oc (g_lg gl (go+i) lSl (hi1.out) (hgl))<|oc g_as on) fun u4 HB4 sz4 K4=>?_
   simp only[sQ] at K4⊢
   go_upto_region 5 with fail
   refine Rp K4 HB4 [.no,.all 1 (RB (sj) (bj) (cj))] [] [(0,14,_),(1,15,_)] [] [] [] (oc g_mv<|oc (g_cxb 1 Xa (fun f u kZ sZ bZ cv=>hk.out u b1_2 bZ (by omega) (kZ.lb sZ 1) cv) ⟨(by simp<;>omega),trivial⟩) on) fun u5 HB5 sz5 K5=>?_
   simp only[sQ] at K5⊢
   go_upto_region 6 with fail
   refine Rp K5 HB5 [] [] [(0,16,_),(1,10,_)] [(1,0)] [(1,10)] [] (oc (g_bn (fun uZ=>Zr _ _ (i:Int) 1 ((i+1:Nat):Int) uZ (by omega) (by omega) (by omega)))<|oc g_mv on) fun u6 HB6 _ K6=>?_
   simp only[sQ] at K6⊢
   go_wp2
   refine⟨⟨i+1,by omega,rfl,HB6,(K6.cv 0),(K6.lt 0),(by rw[esj.out,ebj.out,ecj.out];exact(K6.cv 1)),(K6.lt 1)⟩,?_⟩
   simp[intOf]<;>omega
  ·have hl1:decide ((i:Int)<n)=false:=by simp;omega
   have hin:i=n:=by omega
   subst hin
   obtain⟨si,esi⟩: ∃x,s i=x:=⟨_,rfl⟩
   obtain⟨bi,ebi⟩: ∃x,b i=x:=⟨_,rfl⟩
   obtain⟨ci,eci⟩: ∃x,c i=x:=⟨_,rfl⟩
   have hTe:=hTe.out
   have hEn:=hEn.out
   rw[esi] at Kr hs8 hTe
   rw[ebi] at Kr hb64 hTe
   rw[eci] at Kr hTe hEn
   have hTe:Hid _:=hTe
   have hEn:Hid _:=hEn
   clear esi ebi eci
   have hnK:=K2.n
   simp at hnK
   have hoK1:=K2.lo 1
   have K2_1:Bk w.heap.size wr [(true,w.heap.size,U8 (z32)),(true,b1_2,RB (si) (bi) (ci))]:=⟨.o lz (K2.lo 0) Kz.out<| .o lr (K2.lo 1) Kr.out<|trivial,by simp;omega⟩
   go_upto_region 3 with fail
   refine Rn K2_1 HBr [(0,11,_)] (oc (g_bn (fun uZ=>Zc _ _ (i:Int) (i:Int) _ uZ hl1)) on) fun u3 HB3 sz3 K3=>?_
   simp only[sQ] at K3⊢
   have hb3:=(K3.lt 1)
   go_upto_region 7 with fail
   refine Rf K3 HB3 [.no,.all 3 (RB (s') (b') (c'))] [] [(0,17,_),(1,18,_),(3,20,_)] [(3,1),(2,1)] [] [⟨2,19,some 3,PF u3.heap.size m (U8 (es))⟩] [] (oc (g_fd (fdR2 _))<|oc (g_lw 1 (72) l64 (RB_c hs8 hb64))<|oc (g_cE 0 (PF u3.heap.size m (U8 (es))) ent_sha_ending (fun u hB hs=>(hEn.out u).mono fun e u2 ⟨v,e1,h1,h2⟩=>⟨v,e1,h1.mono hs,h2⟩))<|oc (g_cy 1 (PF u3.heap.size m (U8 (es))) Xa (fun f u y kZ sZ bZ hy cv=>hTe.out u y b1_2 bZ (by omega) (kZ.lb sZ 1) (hy.mono hb3) cv) ⟨(by simp<;>omega),trivial⟩) on) fun u4 v4_2 hv4_2 HB4 sz4 K4=>?_
   simp only[sQ] at K4⊢
   go_upto_region 8 with fail
   refine Rp K4 HB4 [.all 3 (U8 (ds))] [] (cG 0 21 [_,_,_] []) [] [] [true,false] (oc (g_fd (fdR0 _))<|oc (g_lR 1 (0) (cs:=U32 (s')) RB_ss Tryz.underlying164 (by rw[Za,hs8'];exact Z8))<|oc (g_cl ent_sha_told hTo.out)<|oc (g_st 0 Z3 (h1:=Yq _) (hm:=by rw[Z1,hds]) (hl:=by rw[Z1,Z1,hds,show z32.length=32 from rfl])) on) fun u5 HB5 sz5 K5=>?_
   simp only[sQ] at K5⊢
   go_wp2
   refine bodyPost_ret (Zy Tryz.results147 rfl (K5.cv 0) Tryz.underlying110 rfl (by rw[Z1,hds];exact Z3)) rfl ⟨rfl,HB5⟩
def IN (w:World) (m:Nat) (v:Value) (xs:List Nat):Prop:= ∃(sl:Option Addr) (cap gb go:Nat),v= .slice sl xs.length cap/\xs.length<=cap/\(xs.length=0\/sl=some ⟨gb,go,none⟩)/\gb<m/\SB w gb go xs
theorem IN.below {w u:World} {m:Nat} {v:Value} {xs:List Nat} (h:IN w m v xs) (hB:Below m w u):IN u m v xs:=by
 obtain⟨sl,cap,gb,go,e,h1,h2,h3,h4⟩:=h
 exact⟨sl,cap,gb,go,e,h1,h2,h3,h4.below hB h3⟩
theorem IN.mono {w:World} {m m':Nat} {v:Value} {xs:List Nat} (h:IN w m v xs) (hm:m<=m'):IN w m' v xs:=by
 obtain⟨sl,cap,gb,go,e,h1,h2,h3,h4⟩:=h
 exact⟨sl,cap,gb,go,e,h1,h2,Nat.lt_of_lt_of_le h3 hm,h4⟩
def PL (w:World) (gl go:Nat) (ps:List (List Nat)):Prop:= ∀i p,ps[i]?=some p-> ∃v,w.cell? ⟨gl,go+i,none⟩=some v/\IN w w.heap.size v p
theorem by_getD {l:List Nat} (h: ∀x∈l,x<256) (j:Nat):l.getD j 0<256:=by
 rw[List.getD_eq_getElem?_getD]
 cases e:l[j]? with
 | none=>decide
 | some x=>exact h x (List.mem_of_getElem? e)
theorem BB.mem {n:Nat} {l:List Nat} (h:BB n l): ∀x∈l,x<256:=fun x hx=>by
 obtain⟨j,hj⟩:=List.mem_iff_getElem?.1 hx
 have:=h.lt j
 rwa [List.getD_eq_getElem?_getD,hj] at this
theorem Up (n:Nat):BB (nou n+9) (Vg n):=enL_B n 8
theorem nou_lt (n:Nat):nou n<64:=Nat.mod_lt _ (by decide)
theorem told_B (ss:List Nat):BB 32 (told ss):=tld_B ss 32
theorem flat_mem {ps:List (List Nat)} (h: ∀p∈ps,∀x∈p,x<256): ∀x∈ps.flatten,x<256:=fun x hx=>by
 obtain⟨p,hp,hxp⟩:=List.mem_flatten.1 hx
 exact h p hp x hxp
theorem flat_take_len (ps:List (List Nat)) (i:Nat):(ps.take i).flatten.length<=ps.flatten.length:=by
 conv=>rhs;rw[<-List.take_append_drop i ps,List.flatten_append,List.length_append]
 omega
theorem cParts (ps:List (List Nat)) (gl go gcap:Nat) (w:World) (hgl:gl<w.heap.size) (hV:GV w) (hP:PL w gl go ps) (hn:ps.length<=1000000) (hx: ∀p∈ps,∀x∈p,x<256) (hl: ∀p∈ps,p.length<=10000) (ht:ps.flatten.length<=1000000):
 CC 147 #[.slice (some ⟨gl,go,none⟩) ps.length gcap] w (.agg (U8 (dig ps.flatten)).toArray):=by
 have hP2: ∀i,∃t:Option Addr×Nat×Nat×Nat,i<ps.length->w.cell? ⟨gl,go+i,none⟩=some (.slice t.1 (ps.getD i []).length t.2.1)/\(ps.getD i []).length<=t.2.1/\((ps.getD i []).length=0\/t.1=some ⟨t.2.2.1,t.2.2.2,none⟩)/\t.2.2.1<w.heap.size/\SB w t.2.2.1 t.2.2.2 (ps.getD i []):=fun i=>by
  by_cases hi:i<ps.length
  ·obtain⟨v,h1,sl,cap,gb,gbo,rfl,h2,h3,h4,h5⟩:=hP i _ (List.getElem?_eq_getElem hi)
   have e:ps.getD i []=ps[i]:=by rw[List.getD_eq_getElem?_getD,List.getElem?_eq_getElem hi];rfl
   exact⟨(sl,cap,gb,gbo),fun _=>by rw[e];exact⟨h1,h2,h3,h4,h5⟩⟩
  ·exact⟨(none,0,0,0),fun h=>absurd h hi⟩
 obtain⟨t,ht2⟩:=Classical.skolem.1 hP2
 have hq: ∀i,QW (tkA q00 (ps.take i).flatten):=fun i=>q00_W.go _ (by_getD (flat_mem fun p hp=>hx p (List.mem_of_mem_take hp)))
 have hc: ∀i,(tkA q00 (ps.take i).flatten).2.2=(ps.take i).flatten.length:=fun i=>by rw[tkA_c];exact Nat.zero_add _
 have hS: ∀i,i<ps.length->tkA q00 (ps.take (i+1)).flatten=tkA (tkA q00 (ps.take i).flatten) (ps.getD i []):=fun i hi=>by
  have e:ps.getD i []=ps[i]:=by rw[List.getD_eq_getElem?_getD,List.getElem?_eq_getElem hi];rfl
  rw[List.take_succ_eq_append_getElem hi,List.flatten_append,Ut,e];simp
 have hsz:=hV.sz
 have hall:ps.take ps.length=ps:=List.take_length
 refine cParts_core ps.length gl go gcap (nou ps.flatten.length+9) (tkA q00 (ps.flatten++Vg ps.flatten.length)).2.2 (fun i=>(t i).1) (fun i=>(ps.getD i []).length) (fun i=>(t i).2.1) (fun i=>(tkA q00 (ps.take i).flatten).2.2) (fun i=>(tkA q00 (ps.take i).flatten).1) (fun i=>(tkA q00 (ps.take i).flatten).2.1)
  (tkA q00 (ps.flatten++Vg ps.flatten.length)).1 (tkA q00 (ps.flatten++Vg ps.flatten.length)).2.1 (dig ps.flatten) (Vg ps.flatten.length) w hgl hn hV (fun i hi=>(ht2 i hi).1) rfl rfl rfl (hq _).s.len (hq _).b.len ?_ (told_B _).len ?_ ?_ ?_ ?_
 ·rw[Ut]
  have h:=hq ps.length
  rw[hall] at h
  exact(h.go _ (Up _).lt).s.len
 ·intro i hi u b0 hB hb0 hbu hcv
  obtain⟨h1,h2,h3,h4,h5⟩:=ht2 i hi
  have hm:ps.getD i []∈ps:=by
   rw[List.getD_eq_getElem?_getD,List.getElem?_eq_getElem hi];exact List.getElem_mem hi
  have hle:=flat_take_len ps i
  have h:=cTakeB (ps.getD i []) (tkA q00 (ps.take i).flatten) b0 (t i).2.2.1 (t i).2.2.2 (t i).2.1 (t i).1 u (hq i) (by_getD (hx _ hm)) (hl _ hm) (by rw[hc];omega) h2 h3 (by omega) hbu (hV.below hB hsz) (by omega) (h5.below hB h4) hcv
  simp only[hS i hi]
  exact h
 ·intro u
  simp only[hall,tkA_c]
  have:=cEnding ps.flatten.length u (by omega)
  rw[show q00.2.2=0 from rfl,Nat.zero_add]
  exact this
 ·intro u y b0 hB hb0 hbu hy hcv
  obtain⟨b,rfl,h1,h2,h3⟩:=hy
  have hq2:=hq ps.length
  have hc2:=hc ps.length
  rw[hall] at hq2 hc2
  simp only[hall] at hcv⊢
  have he:=Up ps.flatten.length
  have hno:=nou_lt ps.flatten.length
  have h:=cTakeO (Vg ps.flatten.length) (tkA q00 ps.flatten) b0 b (nou ps.flatten.length+9) u hq2 he.lt (by rw[he.len];omega) (by rw[hc2];omega) (by rw[he.len];omega) (by omega) hbu (hV.below hB hsz) (by omega) h2 h3 hcv
  rw[he.len] at h
  simp only[Ut]
  exact h
 ·intro u
  have h:=hq ps.length
  rw[hall] at h
  refine cTold _ u ?_
  rw[Ut]
  exact(h.go _ (Up _).lt).s.len
theorem bsSl (sl:Option Addr) (n cap:Nat) (w:World):(Instr.buildSlice 179 1 ([0].zip [.slice sl n cap]).toArray).run Tryz.prog w= .ok (.slice (some ⟨w.heap.size,0,none⟩) 1 1) (w.alloc (.cells [.slice sl n cap].toArray 43)):=by kernel_rfl
theorem dig_B (xs:List Nat):BB 32 (dig xs):=told_B _
section
theorem Addr.add0 (b j:Nat):(⟨b,0,none⟩:Addr).add j=⟨b,j,none⟩:=by unfold Addr.add;split<;>simp_all
theorem Addr.addo (b o j:Nat):(⟨b,o,none⟩:Addr).add j=⟨b,o+j,none⟩:=by unfold Addr.add;split<;>simp_all
def NW (m:Nat) (news:List Value) (u:World) (y:Value):Prop:= ∃sl c,y= .slice sl m c/\(m=0\/ ∃ad,sl=some ad/\ ∀j v,news[j]?=some v->u.cell? (ad.add j)=some v)
def PH (base b0 s n:Nat) (xs:List Value) (u:World) (v:Value):Prop:= ∃b cap zs,v= .slice (some ⟨b,0,none⟩) n cap/\(b=b0\/base<=b)/\b<u.heap.size/\n<=cap/\zs.length=(cap -n)*s/\CV u b (xs++zs)
theorem PH.stab {base b0 s n:Nat} {xs:List Value} {u v:World} {x:Value} (hB:Bw u v) (h:PH base b0 s n xs u x):PH base b0 s n xs v x:=by
 obtain⟨b,cap,zs,e,h1,h2,h3,h4,h5⟩:=h
 exact⟨b,cap,zs,e,h1,Nat.lt_of_lt_of_le h2 hB.size,h3,h4,h5.below hB h2⟩
theorem grown_setCells (u:World) (b o:Nat) (vs:List Value):u.grownBy (u.setCells b o vs) (some b):=by
 have h:Below (min b u.heap.size) u (u.setCells b o vs):=Zo (Nat.min_le_left _ _) _ _ _ (Below.refl _ _)
 refine⟨h.os,h.tape,h.output,by rw[Zj];exact Nat.le_refl _,fun k hk hne=>?_⟩
 exact World.heap_setCells_other u b o vs hk (fun e=>hne (by rw[e]))
section
variable {P:Program}
theorem run_app (w:World) {T ty e:TypeId} {ti:TypeInfo} {z:Value} (ht:P.underlying T=some (.slice e)) (hi:P.info? e=some ti) (hz:ti.zero=some z) (hzs:z.cells.size=ti.size) {base b n cap m:Nat} {xs zs news:List Value} {y:Value} (hcv:CV w b (xs++zs)) (hlt:b<w.heap.size) (hx:xs.length=n*ti.size) (hzl:zs.length=(cap -n)*ti.size) (hnc:n<=cap) (hbase:base<=w.heap.size) (hy:NW m news w y) (hl:news.length=m*ti.size) (h1: ∀v∈news,v.oneCell'=true) (hb:(n+m)*ti.bytes<=140737488355328) (h63:n+m<=9223372036854775807):
 ∃v' w',(Builtin.append_ #[T,T] ty #[.slice (some ⟨b,0,none⟩) n cap,y]).run P w= .ok v' w'/\w.grownBy w' (some b)/\PH base b ti.size (n+m) (xs++news) w' v':=by
 obtain⟨sl,c,rfl,hy⟩:=hy
 by_cases hm:m=0
 ·subst hm
  have hn0:news=[]:=List.eq_nil_of_length_eq_zero (by omega)
  subst hn0
  refine⟨.slice (some ⟨b,0,none⟩) n cap,w,?_,World.grownBy.refl _ _,b,cap,zs,rfl,.inl rfl,hlt,hnc,hzl,by simpa using hcv⟩
  have hf:(Builtin.firstCells ti.size 0 (.slice sl 0 c)).run P w= .ok #[] w:=by
   cases sl with
   | none=>exact run_firstCells_none (P:=P) w ti.size 0 0 c
   | some ad=>exact run_firstCells_some (P:=P) w ti.size 0 ad 0 c [] (by simp) (fun j v h=>by simp at h)
  simp[Builtin.append_,run_underlying ht,sizeOf,typeInfo,hi,Builtin.lenOf,hnc,hf,storeCells]
 ·obtain⟨ad,rfl,hnews⟩:=hy.resolve_left hm
  have hmul:(n+m)*ti.size=n*ti.size+m*ti.size:=Nat.add_mul _ _ _
  by_cases hr:n+m<=cap
  ·have hk:(cap -n)*ti.size=m*ti.size+(cap -(n+m))*ti.size:=by rw[<-Nat.add_mul];congr 1;omega
   have h:=U9 (P:=P) w (ty:=ty) ht hi hcv (m:=m) (c:=c) hl hnews h1 hr (by rw[List.length_append];omega)
   refine⟨_,_,h,grown_setCells _ _ _ _,b,cap,zs.drop news.length,rfl,.inl rfl,by rw[Zj];exact hlt,hr,by rw[List.length_drop];omega,?_⟩
   have hcv2:CV w b (xs++zs.take news.length++zs.drop news.length):=by rw[List.append_assoc,List.take_append_drop];exact hcv
   exact hcv2.mid hx (by rw[List.length_take];omega)
  ·have h:=run_append_grow (P:=P) w T ty e ti z ht hi hz ⟨b,0,none⟩ n cap xs hx (fun j v hj=>by rw[Addr.add0];exact(hcv.pre2 j v hj).1) ad m c news hl hnews (by omega) (by omega) (growslice_fits (by omega) hb)
   have hB:Bw w (w.drew.alloc (.cells (xs.toArray++news.toArray++Builtin.zeroCells z.cells (grownCap w (n+m) cap e -(n+m))) e)):=Z2 (Zm w).drew _
   refine⟨_,_,h,(U6 hB).but _,w.heap.size,_,(Builtin.zeroCells z.cells (grownCap w (n+m) cap e -(n+m))).toList,rfl,.inr hbase,by simp,grownCap_ge w (n+m) cap e,by rw[Array.length_toList,size_zeroCells,hzs],?_⟩
   have e1:xs.toArray++news.toArray++Builtin.zeroCells z.cells (grownCap w (n+m) cap e -(n+m))=(xs++news++(Builtin.zeroCells z.cells (grownCap w (n+m) cap e -(n+m))).toList).toArray:=by apply Array.ext';simp
   rw[e1];exact CV.new w.drew _ e
end
theorem KC.putG {f:Nat->Bool} {u v:World} {lo base i b:Nat} (hg:u.grownBy v (some b)) (hs:base<=u.heap.size): ∀{es:List Ent} {k:Nat} {o:Bool} {l:List Value},KC f u lo base es->es[k]?=some (o,b,l,.all i [])->(es.map (·.2.1)).Nodup->((es.eraseIdx k).all fun q=>q.2.2.2.free i)=true->KC (updF f i) v lo base es:=by
 have oth: ∀{n:Nat} {l:List Value},n<base->n≠b->CV u n l->CV v n l:=fun{n l} hn hne h j x hj=>by
  have hk:v.heap[n]?=u.heap[n]?:=hg.block _ (by omega) (fun e=>hne (by cases e;rfl))
  rw[World.cell?_of_block (a:=⟨n,j,none⟩) hk,World.frozen?_of_block (a:=⟨n,j,none⟩) hk]
  exact h j x hj
 have hr: ∀{es:List Ent},b∉es.map (·.2.1)->(es.all fun q=>q.2.2.2.free i)=true->KC f u lo base es->KC (updF f i) v lo base es:=by
  intro es
  induction es with
  | nil=>intros;trivial
  | cons y ys ih=>
   intro hb ha h
   simp only[List.map_cons,List.mem_cons,not_or] at hb
   simp only[List.all_cons,Bool.and_eq_true] at ha
   have hfr:=KC.free (i:=i) (es:=[y]) (by simp[ha.1]) (show KC f u lo base [y] from ⟨h.1,trivial⟩)
   exact⟨⟨h.1.1,h.1.2.1,oth h.1.1 (fun e=>hb.1 e.symm) hfr.1.2.2⟩,ih hb.2 ha.2 h.2⟩
 intro es
 induction es with
 | nil=>intro k o l _ e;simp at e
 | cons q r ih=>
  intro k o l h e n hx
  simp only[List.map_cons,List.nodup_cons] at n
  cases k with
  | zero=>
   simp at e;subst e
   simp only[List.eraseIdx_cons_zero] at hx
   refine⟨⟨h.1.1,h.1.2.1,?_⟩,hr n.1 hx h.2⟩
   intro j x hj
   simp[Wr.val,updF] at hj
  | succ k=>
   simp only[List.getElem?_cons_succ] at e
   simp only[List.eraseIdx_cons_succ,List.all_cons,Bool.and_eq_true] at hx
   have hm:b∈r.map (·.2.1):=by
    have:=List.mem_of_getElem? e
    exact List.mem_map.2 ⟨_,this,rfl⟩
   have hfr:=KC.free (i:=i) (es:=[q]) (by simp[hx.1]) (show KC f u lo base [q] from ⟨h.1,trivial⟩)
   exact⟨⟨h.1.1,h.1.2.1,oth h.1.1 (fun e=>n.1 (e▸hm)) hfr.1.2.2⟩,ih h.2 e n.2 hx.2⟩
def Rg.chkG (R:Rg) (ops:Array Oper) (n k i:Nat) (o:Oper):Bool:=
 (match o.dst,R.E[n]? with | some d,some q=>q.i==i&&q.d==d&&owns i d R.G&&Vt i d R.Ns&&R.S.contains d | _,_=>false)
 &&R.okO i o&&((R.es.eraseIdx k).all fun q=>q.2.2.2.free i)&&((R.E.eraseIdx n).all (eGone R.O i o))&&(V3 R ops o==some true)
section
variable {R:Rg} {P:Program} {ops:Array Oper} {Q:Exit->Act->World->Prop} {f:Nat->Bool} {t:Nat->Value} {u:World} {a:Act} {i:Nat} {o:Oper}
theorem T8 {n k:Nat} (h:R.chkG ops n k i o=true): ∃d q,o.dst=some d/\R.E[n]?=some q/\(q.i=i/\q.d=d)/\owns i d R.G=true/\Vt i d R.Ns=true/\d∈R.S/\R.okO i o=true/\((R.es.eraseIdx k).all fun q=>q.2.2.2.free i)=true/\((R.E.eraseIdx n).all (eGone R.O i o))=true/\V3 R ops o=some true:=by
 unfold Rg.chkG at h
 cases hd:o.dst with
 | none=>rw[hd] at h;simp at h
 | some d=>
  cases hq:R.E[n]? with
  | none=>rw[hd,hq] at h;simp at h
  | some q=>
   rw[hd,hq] at h
   rw[Bool.and_eq_true,Bool.and_eq_true,Bool.and_eq_true,Bool.and_eq_true,Bool.and_eq_true,Bool.and_eq_true,Bool.and_eq_true,Bool.and_eq_true,List.contains_iff_mem,beq_iff_eq,beq_iff_eq,beq_iff_eq] at h
   obtain⟨⟨⟨⟨⟨⟨⟨⟨a1,a2⟩,a3⟩,a4⟩,a5⟩,a6⟩,a7⟩,a8⟩,a9⟩:=h
   exact⟨d,q,rfl,rfl,⟨a1,a2⟩,a3,a4,a5,a6,a7,a8,a9⟩
theorem Xs.putG {n k b:Nat} {l:List Value} {p:World->Value->Prop} {v:Value} {u':World} (X:Xs R ops f t u a i o) (hg:u.grownBy u' (some b)) (hn:R.es[k]?=some (true,b,l,.all i [])) (hw0:R.nw=[]) (hc:R.chkG ops n k i o=true) (hn0:(R.E[n]?).map (·.p)=some p) (hp:p u' v): ∃t',Fr R.fr R.S (a.put o.dst v) t'/\Inv R (updF f i) t' u':=by
 obtain⟨d',q',hd',hq',⟨e1,e2⟩,k1,k2,k3,k6,k7,k8,hw⟩:=T8 hc
 obtain⟨_,q2,_⟩:=X.I.2.1.get hn
 refine⟨updT t d' v,by rw[hd'];exact X.F.put X.parts.1 k3 v,?_,KC.putG hg X.I.1.sz X.I.2.1 hn X.nd k7,Gs.other k1 X.I.2.2.1,Yv k6 X.I.2.2.2.1 X.dep,Ns.step X.I.2.2.2.2.1 k2,?_⟩
 ·have hM:=X.I.1
  rw[hw0] at hM⊢
  exact{bel:=hM.bel.grown hg (Nat.le_trans hM.lo hM.sz) (fun k e=>by cases e;exact q2 rfl),lo:=hM.lo,sz:=Nat.le_trans hM.sz hg.size,ks:=trivial,ex:=trivial,nw:=trivial,nd:=trivial}
 ·exact Es.last (O:=R.O) (fun j hj=>X.later (by unfold Rg.later;rw[hj];simp)) X.dep (by rw[hq',<-e1,<-e2]) k8 (by rw[hq'] at hn0;cases hn0;exact hp)
theorem g_pE (k m n':Nat) (p:World->Value->Prop) {T e:TypeId} {ti:TypeInfo} {z:Value} {x:Operand} {j d b n q cap:Nat} {l:List Value} (xs zs news:List Value) (ht:P.underlying T=some (.slice e)) (hi:P.info? e=some ti) (hz:ti.zero=some z) (hzs:z.cells.size=ti.size) (hl:l=xs++zs) (hp: ∀u y,p u y->NW q news u y) (h1: ∀v∈news,v.oneCell'=true) (hnl:news.length=q*ti.size) (hxl:xs.length=n*ti.size) (hzl:zs.length=(cap -n)*ti.size) (hnc:n<=cap) (hb:(n+q)*ti.bytes<=140737488355328) (h63:n+q<=9223372036854775807)
 (hop:o.op= .call {callee:= .builtin .append,args:=[x,.tmp d].toArray,argTypes:=[T,T].toArray}:=by rfl) (hn:R.es[k]?=some (true,b,l,.all i []):=by rfl) (hx:evR R i o x=some (.slice (some ⟨b,0,none⟩) n cap):=by rfl) (hm:R.E[m]?=some ⟨j,d,some i,p⟩:=by rfl) (hd:(Y1 o j&&R.S.contains d)=true:=by rfl) (hn0:(R.E[n']?).map (·.p)=some (PH R.base b ti.size (n+q) (xs++news)):=by rfl)
 (hw:R.nw=[]:=by rfl) (hc:R.chkG ops n' k i o=true:=by rfl):OG R P ops Q i o:=fun f t u a X=>by
 rw[Bool.and_eq_true,List.contains_iff_mem] at hd
 obtain⟨h2,h4⟩:=hd
 obtain⟨d',q',hd',hq',_,_,_,_,_,_,_,hwt⟩:=T8 hc
 obtain⟨q1,q2,q3⟩:=X.I.2.1.get hn
 have q3:CV u b (bif f i then [] else l):=q3
 rw[X.fi] at q3
 have q3:CV u b l:=q3
 rw[hl] at q3
 have hy:p u (t d):=X.val hm h2 rfl
 obtain⟨v',w',hr,hg,hph⟩:=run_app (P:=P) u (ty:=o.type) ht hi hz hzs (base:=R.base) q3 (Nat.lt_of_lt_of_le q1 X.I.1.sz) hxl hzl hnc X.I.1.sz (hp u (t d) hy) hnl h1 hb h63
 exact X.go hwt fun K hK=>U7 hop (X.ev hx) (X.inS h4) hr (hK _ _ (X.putG hg hn hw hc hn0 hph))
theorem g_pV (k n':Nat) {T e:TypeId} {ti:TypeInfo} {z vy:Value} {x y:Operand} {b n q cap:Nat} {l:List Value} (xs zs news:List Value) (ht:P.underlying T=some (.slice e)) (hi:P.info? e=some ti) (hz:ti.zero=some z) (hzs:z.cells.size=ti.size) (hl:l=xs++zs) (hp: ∀f u,KC f u R.lo R.base R.es->Below R.lo R.w u->NW q news u vy) (h1: ∀v∈news,v.oneCell'=true) (hnl:news.length=q*ti.size) (hxl:xs.length=n*ti.size) (hzl:zs.length=(cap -n)*ti.size) (hnc:n<=cap) (hb:(n+q)*ti.bytes<=140737488355328) (h63:n+q<=9223372036854775807)
 (hop:o.op= .call {callee:= .builtin .append,args:=[x,y].toArray,argTypes:=[T,T].toArray}:=by rfl) (hn:R.es[k]?=some (true,b,l,.all i []):=by rfl) (hx:evR R i o x=some (.slice (some ⟨b,0,none⟩) n cap):=by rfl) (hy:evR R i o y=some vy:=by rfl) (hn0:(R.E[n']?).map (·.p)=some (PH R.base b ti.size (n+q) (xs++news)):=by rfl)
 (hw:R.nw=[]:=by rfl) (hc:R.chkG ops n' k i o=true:=by rfl):OG R P ops Q i o:=fun f t u a X=>by
 obtain⟨d',q',hd',hq',_,_,_,_,_,_,_,hwt⟩:=T8 hc
 obtain⟨q1,q2,q3⟩:=X.I.2.1.get hn
 have q3:CV u b (bif f i then [] else l):=q3
 rw[X.fi] at q3
 have q3:CV u b l:=q3
 rw[hl] at q3
 obtain⟨v',w',hr,hg,hph⟩:=run_app (P:=P) u (ty:=o.type) ht hi hz hzs (base:=R.base) q3 (Nat.lt_of_lt_of_le q1 X.I.1.sz) hxl hzl hnc X.I.1.sz (hp f u X.I.2.1 X.I.1.bel) hnl h1 hb h63
 exact X.go hwt fun K hK=>U7 hop (X.ev hx) (X.ev hy) hr (hK _ _ (X.putG hg hn hw hc hn0 hph))
theorem KC.grown {u u':World} {lo base b:Nat} (hg:u.grownBy u' (some b)) (hb:base<=b) (hsz:base<=u.heap.size): ∀{es:List Ent},KC f u lo base es->KC f u' lo base es
 | [],_=>trivial
 | y::ys,h=>⟨⟨h.1.1,h.1.2.1,fun j x hj=>by
  have hk:u'.heap[y.2.1]?=u.heap[y.2.1]?:=hg.block _ (Nat.lt_of_lt_of_le h.1.1 hsz) (fun e=>by cases e;have:=h.1.1;omega)
  rw[World.cell?_of_block (a:=⟨y.2.1,j,none⟩) hk,World.frozen?_of_block (a:=⟨y.2.1,j,none⟩) hk]
  exact h.1.2.2 j x hj⟩,KC.grown hg hb hsz h.2⟩
def ev1 (R:Rg) (i:Nat) (o:Oper) (d:Nat) (y:Value) (x:Operand):Option Value:=
 match x with
 | .tmp k=>bif Nat.beq k d then some y else evR R i o (.tmp k)
 | x=>evR R i o x
theorem ev1_spec (X:Xs R ops f t u a i o) {d:Nat} (h4:d∈R.S) {x:Operand} {v:Value} (h:ev1 R i o d (t d) x=some v):a.eval x=v:=by
 unfold ev1 at h
 split at h
 ·rename_i k
  cases e:Nat.beq k d with
  | true=>
   rw[e] at h
   have e:=Nat.eq_of_beq_eq_true e
   subst e
   cases h
   exact X.inS h4
  | false=>rw[e] at h;exact X.ev h
 ·exact X.ev h
theorem evs1 (X:Xs R ops f t u a i o) {d:Nat} (h4:d∈R.S): ∀{xs:List Operand} {vs:List Value},xs.mapM (ev1 R i o d (t d))=some vs->xs.map a.eval=vs
 | [],vs,h=>by simp at h;subst h;rfl
 | x::xs,vs,h=>by
  simp only[List.mapM_cons,Option.bind_eq_bind,Option.bind_eq_some_iff,Option.pure_def,Option.some.injEq] at h
  obtain⟨v,hv,vs',hvs,rfl⟩:=h
  rw[List.map_cons,ev1_spec X h4 hv,evs1 X h4 hvs]
theorem g_bY (m n:Nat) (p p':World->Value->Prop) {T e:TypeId} {j d k:Nat} {xs:List (Nat×Operand)} (ks:List Nat) (vs:Value->List Value) (hr: ∀w y,p w y->(Instr.buildSlice T k (ks.zip (vs y)).toArray).run P w= .ok (.slice (some ⟨w.heap.size,0,none⟩) k k) (w.alloc (.cells (vs y).toArray e))) (hp: ∀(f:Nat->Bool) (u:World) (y:Value),KC f u R.lo R.base R.es->Below R.lo R.w u->R.base<=u.heap.size->p u y->p' (u.alloc (.cells (vs y).toArray e)) (.slice (some ⟨u.heap.size,0,none⟩) k k)) (hop:o.op= .buildSlice T k xs.toArray:=by rfl) (hks:xs.map Prod.fst=ks:=by rfl) (hm:R.E[m]?=some ⟨j,d,some i,p⟩:=by rfl)
 (hx: ∀y,(xs.map Prod.snd).mapM (ev1 R i o d y)=some (vs y):=by intro y;rfl) (hd:(Y1 o j&&R.S.contains d)=true:=by rfl) (hn:(R.E[n]?).map (·.p)=some p':=by rfl) (hc:R.chkE ops n i o=true:=by rfl):OG R P ops Q i o:=fun f t u a X=>by
 rw[Bool.and_eq_true,List.contains_iff_mem] at hd
 obtain⟨h2,h4⟩:=hd
 obtain⟨d',q,hd',hq,_,_,_,_,_,_,_,_,hw⟩:=Zl hc
 have hv:p u (t d):=X.val hm h2 rfl
 exact X.go hw fun K hK=>wp_bS hop (evs1 X h4 (hx (t d))) (by rw[hks];exact hr u (t d) hv) (hK _ _ (X.putE hc (fun q hq=>by rw[hq] at hn;cases hn;exact hp f u (t d) X.I.2.1 X.I.1.bel X.I.1.sz hv) (Z2 (Zm u) _)))
theorem g_cK {N:FuncId} {args:List Operand} {tys:Array TypeId} {vs:List Value} {v:Value} (hr: ∀(vs:Array Value) (w:World),(callFunc N vs).run P w= .ok (.enter N vs) w)
 (hcall: ∀f w,KC f w R.lo R.base R.es->R.base<=w.heap.size->Below R.lo R.w w->Calls P N vs.toArray w fun e w'=>e= .returned v/\Bw w w') (hop:o.op= .call {callee:= .value (.func N),args:=args.toArray,argTypes:=tys}:=by rfl) (hx:args.mapM (evR R i o)=some vs:=by rfl) (hv:some v=Zw i R.G:=by rfl) (hc:R.chk ops i o=true:=by rfl):OG R P ops Q i o:=fun f t u a X=>
 X.go (Ym hc).choose_spec.2.2.2.2.2.2.2 fun K hK=>Wo hop (X.evs hx) hr (hcall f u X.I.2.1 X.I.1.sz X.I.1.bel) fun w' hB=>hK _ _ (X.put hv hc (X.I.1.call hB) (X.I.2.1.below hB X.I.1.sz) hB)
end
end
section
theorem Ua {P:Program} (w:World) {T ty e:TypeId} {ti:TypeInfo} {z:Value} (ht:P.underlying T=some (.slice e)) (hi:P.info? e=some ti) (hz:ti.zero=some z) (hzs:z.cells.size=ti.size) {lo b n m:Nat} {xs news:List Value} {y:Value} (hcv:CV w b xs) (hlo:lo<=b) (hlo2:lo<=w.heap.size) (hlt:b<w.heap.size) (hx:xs.length=n*ti.size) (hy:NW m news w y) (hl:news.length=m*ti.size) (hb:(n+m)*ti.bytes<=140737488355328) (h63:n+m<=9223372036854775807):
 ∃v' w',(Builtin.append_ #[T,T] ty #[.slice (some ⟨b,0,none⟩) n n,y]).run P w= .ok v' w'/\Bw w w'/\PG lo ti.size (n+m) (xs++news) w' v':=by
 obtain⟨sl,c,rfl,hy⟩:=hy
 by_cases hm:m=0
 ·subst hm
  have hn0:news=[]:=List.eq_nil_of_length_eq_zero (by omega)
  subst hn0
  refine⟨.slice (some ⟨b,0,none⟩) n n,w,?_,Below.refl _ _,b,n,[],rfl,hlo,hlt,Nat.le_refl _,by simp,by simpa using hcv⟩
  have hf:(Builtin.firstCells ti.size 0 (.slice sl 0 c)).run P w= .ok #[] w:=by
   cases sl with
   | none=>exact run_firstCells_none (P:=P) w ti.size 0 0 c
   | some ad=>exact run_firstCells_some (P:=P) w ti.size 0 ad 0 c [] (by simp) (fun j v h=>by simp at h)
  simp[Builtin.append_,run_underlying ht,sizeOf,typeInfo,hi,Builtin.lenOf,hf,storeCells]
 ·obtain⟨ad,rfl,hnews⟩:=hy.resolve_left hm
  have h:=run_append_grow (P:=P) w T ty e ti z ht hi hz ⟨b,0,none⟩ n n xs hx (fun j v hj=>by rw[Addr.add0];exact(hcv j v hj).1) ad m c news hl hnews (by omega) (by omega) (growslice_fits (by omega) hb)
  refine⟨_,_,h,Z2 (Zm w).drew _,w.heap.size,_,(Builtin.zeroCells z.cells (grownCap w (n+m) n e -(n+m))).toList,rfl,hlo2,by simp,grownCap_ge w (n+m) n e,by rw[Array.length_toList,size_zeroCells,hzs],?_⟩
  have e1:xs.toArray++news.toArray++Builtin.zeroCells z.cells (grownCap w (n+m) n e -(n+m))=(xs++news++(Builtin.zeroCells z.cells (grownCap w (n+m) n e -(n+m))).toList).toArray:=by apply Array.ext';simp
  rw[e1];exact CV.new w.drew _ e
section
variable {R:Rg} {P:Program} {ops:Array Oper} {Q:Exit->Act->World->Prop} {f:Nat->Bool} {t:Nat->Value} {u:World} {a:Act} {i:Nat} {o:Oper}
end
end
theorem getD_app1 {a b:List Nat} {j:Nat} (h:j<a.length):(a++b).getD j 0=a.getD j 0:=by
 rw[List.getD_eq_getElem?_getD,List.getD_eq_getElem?_getD,List.getElem?_append_left h]
theorem getD_app2 {a b:List Nat} {j:Nat} (h:a.length<=j):(a++b).getD j 0=b.getD (j -a.length) 0:=by
 rw[List.getD_eq_getElem?_getD,List.getD_eq_getElem?_getD,List.getElem?_append_right h]
def msk (x:Nat) (l:List Nat):List Nat:=l.map (· ^^^x)
def mkL (x:Nat) (l:List Nat):Nat->List Nat
 | 0=>l
 | i+1=>(mkL x l i).set i ((mkL x l i).getD i 0^^^x)
theorem mkL_is (x:Nat) (l:List Nat): ∀i,i<=l.length->mkL x l i=(l.take i).map (· ^^^x)++l.drop i
 | 0,_=>by simp[mkL]
 | i+1,h=>by
  have hi:i<l.length:=by omega
  have e1:((l.take i).map (· ^^^x)).length=i:=by rw[List.length_map,List.length_take];omega
  rw[mkL,mkL_is x l i (by omega)]
  have e2:l.drop i=l[i]::l.drop (i+1):=List.drop_eq_getElem_cons hi
  rw[e2,List.take_succ_eq_append_getElem hi,List.map_append,List.append_assoc]
  rw[getD_app2 (by omega),List.set_append_right _ _ (by omega),e1,Nat.sub_self]
  rfl
theorem mkL_all (x:Nat) (l:List Nat):mkL x l l.length=msk x l:=by
 rw[mkL_is x l _ (Nat.le_refl _)];simp[msk]
theorem xor_lt8 {a b:Nat} (ha:a<256) (hb:b<256):a^^^b<256:=Nat.xor_lt_two_pow (n:=8) ha hb
theorem mkL_B {x n:Nat} {l:List Nat} (h:BB n l) (hx:x<256): ∀i,BB n (mkL x l i)
 | 0=>h
 | i+1=>(mkL_B h hx i).set _ _ (xor_lt8 ((mkL_B h hx i).lt i) hx)
theorem msk_B {x n:Nat} {l:List Nat} (h:BB n l) (hx:x<256):BB n (msk x l):=by
 rw[<-mkL_all];exact mkL_B h hx _
def whk (ks:List Nat):List Nat:=if 64<ks.length then dig ks else ks
def whl (ks:List Nat):List Nat:=whk ks++List.replicate (64 -(whk ks).length) 0
theorem whk_len (ks:List Nat):(whk ks).length<=64:=by
 unfold whk;split
 ·rw[(dig_B ks).len];decide
 ·omega
theorem app_B {n m:Nat} {a b:List Nat} (ha:BB n a) (hb:BB m b):BB (n+m) (a++b):=⟨by rw[List.length_append,ha.len,hb.len],fun j=>by
 by_cases h:j<a.length
 ·rw[getD_app1 h];exact ha.lt j
 ·rw[getD_app2 (by omega)];exact hb.lt _⟩
theorem BB_of {l:List Nat} (h: ∀x∈l,x<256):BB l.length l:=⟨rfl,by_getD h⟩
theorem whk_m {ks:List Nat} (h: ∀x∈ks,x<256): ∀x∈whk ks,x<256:=by
 unfold whk;split
 ·exact(dig_B ks).mem
 ·exact h
theorem whl_B {ks:List Nat} (h: ∀x∈ks,x<256):BB 64 (whl ks):=by
 have:=app_B (BB_of (whk_m h)) (BB_rep (64 -(whk ks).length))
 rwa [show (whk ks).length+(64 -(whk ks).length)=64 by have:=whk_len ks;omega] at this
def hm (k xs:List Nat):List Nat:=dig (msk 92 k++dig (msk 54 k++xs))
theorem hm_B (k xs:List Nat):BB 32 (hm k xs):=dig_B _
theorem or_zero {a b:Nat}:a ||| b=0↔a=0/\b=0:=by
 constructor
 ·intro h
  constructor
  ·exact Nat.eq_of_testBit_eq fun i=>by
    have:=congrArg (fun n=>n.testBit i) h
    simp at this
    simp[this.1]
  ·exact Nat.eq_of_testBit_eq fun i=>by
    have:=congrArg (fun n=>n.testBit i) h
    simp at this
    simp[this.2]
 ·rintro⟨rfl,rfl⟩;rfl
theorem wraps_u8 (n:Int) (h0:0<=n) (h1:n<2^8):IntKind.u8.wrap n=n:=by simp[IntKind.wrap,IntKind.signed,IntKind.bits];omega
theorem bit_xor8 (a b:Nat) (ha:a<256) (hb:b<256):bits .xor .u8 a b=((a^^^b:Nat):Int):=by
 have ha':a%2^8=a:=Nat.mod_eq_of_lt ha
 have hb':b%2^8=b:=Nat.mod_eq_of_lt hb
 have h:(BitVec.ofNat 8 a^^^BitVec.ofNat 8 b).toNat=a^^^b:=by rw[BitVec.toNat_xor,BitVec.toNat_ofNat,BitVec.toNat_ofNat,ha',hb']
 show IntKind.u8.wrap ((BitVec.ofInt 8 (a:Int)^^^BitVec.ofInt 8 (b:Int)).toNat:Int)=_
 rw[BitVec.ofInt_natCast,BitVec.ofInt_natCast,h]
 exact wraps_u8 _ (Int.natCast_nonneg _) (by exact_mod_cast xor_lt8 ha hb)
theorem xor8 (p q:Operand) (a b:Nat) (w:World) (ha:a<256) (hb:b<256):(do eqGuard .xor 5 p q (.int .u8 a) (.int .u8 b);binOp .xor 5 (.int .u8 a) (.int .u8 b):Sem Value).run Tryz.prog w= .ok (.int .u8 ((a^^^b:Nat):Int)) w:=by
 rw[<-bit_xor8 a b ha hb];go_simp
def PQ (lo:Nat) (ps:List (List Nat)) (u:World) (y:Value):Prop:= ∃b cap,y= .slice (some ⟨b,0,none⟩) ps.length cap/\lo<=b/\b<u.heap.size/\PL u b 0 ps
theorem PL.below {u v:World} {b o:Nat} {ps:List (List Nat)} (h:PL u b o ps) (hb:b<u.heap.size) (hB:Bw u v):PL v b o ps:=fun i p hp=>by
 obtain⟨x,h1,h2⟩:=h i p hp
 exact⟨x,(hB.cell (p:=⟨b,o+i,none⟩) hb).trans h1,(h2.below hB).mono hB.size⟩
theorem PQ.stab {lo:Nat} {ps:List (List Nat)} {u v:World} {x:Value} (hB:Bw u v) (h:PQ lo ps u x):PQ lo ps v x:=by
 obtain⟨b,cap,e,h1,h2,h3⟩:=h
 exact⟨b,cap,e,h1,Nat.lt_of_lt_of_le h2 hB.size,h3.below h2 hB⟩
theorem PF_in {lo:Nat} {xs:List Nat} {u:World} {y:Value} (h:PF lo xs.length (U8 xs) u y):IN u u.heap.size y xs:=by
 obtain⟨b,rfl,_,h2,h4⟩:=h
 refine⟨_,_,b,0,rfl,Nat.le_refl _,.inr rfl,h2,fun j hj=>?_⟩
 rw[Nat.zero_add];exact(h4 j _ (Y2 xs j hj)).1
section
abbrev M64:Nat:=18446744073709551616
theorem Xt (n:Int) (h0:0<=n) (h1:n<2^64):IntKind.u64.wrap n=n:=by simp[IntKind.wrap,IntKind.signed,IntKind.bits];omega
theorem bit_or64 (a b:Nat) (ha:a<M64) (hb:b<M64):bits .or .u64 a b=((a ||| b:Nat):Int):=(bits_nat .u64 64 (by decide) Xt a b ha hb).2
theorem or64 (p q:Operand) (a b:Nat) (w:World) (ha:a<M64) (hb:b<M64):(do eqGuard .or 22 p q (iU a) (iU b);binOp .or 22 (iU a) (iU b):Sem Value).run Tryz.prog w= .ok (iU ((a ||| b:Nat):Int)) w:=by
 rw[<-bit_or64 a b ha hb];go_simp
theorem cv864 {o:Oper} {ev:Operand->Value} {x:Operand} {n:Nat} (u:World) (h1:n<256) (ho:o.op= .convert 5 22 x) (hx:ev x= .int .u8 (n:Int)):(execOp ev o).run Tryz.prog u= .ok (.value (iU (n:Int))) u:=by
 have e1:IntKind.u64.wrap (n:Int)=(n:Int):=Xt _ (by omega) (by omega)
 unfold execOp;rw[ho];simp only[hx];go_simp
section
variable {R:Rg} {P:Program} {ops:Array Oper} {Q:Exit->Act->World->Prop} {f:Nat->Bool} {t:Nat->Value} {u:World} {a:Act} {i:Nat} {o:Oper}
end
theorem cSum_core (n cap:Nat) (sl:Option Addr) (ds:List Nat) (w:World) (hds:ds.length=32) (hPa:Hid (∀(u:World) (y:Value),Bw w u->PS w.heap.size 1 [(.slice sl n cap)] u y->CC 147 #[y] u (.agg (U8 (ds)).toArray))):
 CC 136 #[(.slice sl n cap)] w (.agg (U8 (ds)).toArray):=by
 go_enter Tryz.func136,Tryz.ntmps136
 go_upto_region 1 with fail
 generalize hC:(w.alloc (.cells (Z32b:List Value).toArray 110))=v0 at *
 have HB0:Bw w v0:=by rw[<-hC];exact Z2 (Zm w) _
 have K0:Bk w.heap.size v0 [(true,w.heap.size,U8 (z32))]:=by rw[<-hC];exact(Bk.nil _ w).ad
 clear hC
 refine Rf K0 HB0 [.all 3 (U8 (ds))] [] [(0,3,_),(2,5,_)] [] [] [⟨1,4,some 2,PS w.heap.size 1 [(.slice sl n cap)]⟩] [] (oc g_mv<|oc (g_bR 0 (PS w.heap.size 1 [(.slice sl n cap)]) [0] [(.slice sl n cap)] [(.slice sl n cap)] (bsSl _ _ _) (fun u hu=>PS.new 1 _ _ u (Nat.le_trans HB0.size hu)))<|oc (g_c1 0 (PS w.heap.size 1 [(.slice sl n cap)]) Wu (fun uZ y bZ hy=>hPa.out uZ y bZ hy))<|oc (g_st 0 Z3 (h1:=Yq _) (hm:=by rw[Z1,hds]) (hl:=by rw[Z1,Z1,hds,show z32.length=32 from rfl])) on) fun u1 v1_1 hv1_1 HB1 _ K1=>?_
 simp only[sQ] at K1⊢
 go_wp2
 refine bodyPost_ret (Zy Tryz.results136 rfl (K1.cv 0) Tryz.underlying110 rfl (by rw[Z1,hds];exact Z3)) rfl ⟨rfl,HB1⟩
theorem cSum (xs:List Nat) (v:Value) (w:World) (hV:GV w) (hin:IN w w.heap.size v xs) (hx: ∀x∈xs,x<256) (hl:xs.length<=10000):
 CC 136 #[v] w (.agg (U8 (dig xs)).toArray):=by
 obtain⟨sl,cap,gb,go,rfl,h1,h2,h3,h4⟩:=hin
 refine cSum_core xs.length cap sl (dig xs) w (dig_B xs).len fun u y hB hy=>?_
 obtain⟨b,c,rfl,_,hb,_,hcv⟩:=hy
 have h:=cParts [xs] b 0 c u hb (hV.below hB hV.sz) (fun i p hp=>by
  cases i with
  | succ i=>simp at hp
  | zero=>
   simp at hp
   subst hp
   exact⟨_,(hcv 0 _ rfl).1,sl,cap,gb,go,rfl,h1,h2,Nat.lt_of_lt_of_le h3 hB.size,h4.below hB h3⟩) (by simp) (by simpa using hx) (by simpa using hl) (by simp;omega)
 simpa using h
end
theorem among_any (x n:Int) (h1:1<=n) (h2:n<=1000) (hx: -9223372036854775808<=x/\x<9223372036854775808): ∃k:Nat,(k:Int)<n/\ ∀w,CC 24 #[iI x,iI n] w (iI (k:Int)):=by
 have e1:IntKind.u64.wrap n=n:=by rw[IntKind.wrap_u64];omega
 obtain⟨y,ey⟩: ∃y,IntKind.u64.wrap x=y:=⟨_,rfl⟩
 have y0:0<=y:=by rw[<-ey,IntKind.wrap_u64];omega
 have e2:y.tmod n=y%n:=Int.tmod_eq_emod_of_nonneg y0
 have m0:=Int.emod_nonneg y (show n≠0 by omega)
 have m1:=Int.emod_lt_of_pos y (show 0<n by omega)
 have e3:IntKind.i64.wrap (y%n)=y%n:=by simp[IntKind.wrap,IntKind.signed,IntKind.bits];omega
 have e4:IntKind.u64.wrap (y%n)=y%n:=by rw[IntKind.wrap_u64];omega
 refine⟨(y%n).toNat,by omega,fun w=>?_⟩
 rw[show ((y%n).toNat:Int)=y%n by omega]
 generalize y%n=z at *
 have hn1: ¬n<1:=by omega
 have hn0:n≠0:=by omega
 go_enter Tryz.func24,Tryz.ntmps24
 go_wp2
 go_ret
 exact⟨rfl,Below.refl _ _⟩
theorem not_t (w:World):(Op.unary .not (.bool true)).run Tryz.prog w= .ok (.bool false) w:=by go_simp
theorem slHB (sl:Option Addr) (n cap k:Nat) (h:k<=n) (hc:n<=cap) (hn:sl=none->cap=0) (w:World):(Instr.sliceAt 43 (.slice sl n cap) none (some (iI k)) none).run Tryz.prog w= .ok (.slice sl k cap) w:=by
 cases sl with
 | none=>
  have e0:=hn rfl
  have e1:n=0:=by omega
  have e2:k=0:=by omega
  subst e0 e1 e2
  show (Instr.sliceAt 43 (.slice none 0 0) none (some (iI 0)) none).run Tryz.prog w=_
  kernel_rfl
 | some a=>
  have h3:k<=cap:=by omega
  simp[Instr.sliceAt,Instr.slice,go_sem,Tryz.underlying43,h3]
theorem PS_in {lo:Nat} {xs:List Nat} {u:World} {y:Value} (h:PS lo xs.length (U8 xs) u y):IN u u.heap.size y xs:=by
 obtain⟨b,cap,rfl,_,h2,h3,h4⟩:=h
 exact⟨_,_,b,0,rfl,h3,.inr rfl,h2,CV.sb h4⟩
theorem IN_nil (u:World) (h:0<u.heap.size):IN u u.heap.size (.slice none 0 0) []:=⟨none,0,0,0,rfl,Nat.le_refl _,.inl rfl,h,fun j hj=>by simp at hj⟩
theorem sc32 (ds:List Nat) (hd:ds.length=32) (u:World):(storeCells ⟨u.heap.size,0,none⟩ (U8 ds)).run Tryz.prog (u.alloc (.cells #[.int .u8 0,.int .u8 0,.int .u8 0,.int .u8 0,.int .u8 0,.int .u8 0,.int .u8 0,.int .u8 0,.int .u8 0,.int .u8 0,.int .u8 0,.int .u8 0,.int .u8 0,.int .u8 0,.int .u8 0,.int .u8 0,.int .u8 0,.int .u8 0,.int .u8 0,.int .u8 0,.int .u8 0,.int .u8 0,.int .u8 0,.int .u8 0,.int .u8 0,.int .u8 0,.int .u8 0,.int .u8 0,.int .u8 0,.int .u8 0,.int .u8 0,.int .u8 0] 110))= .ok () ((u.alloc (.cells #[.int .u8 0,.int .u8 0,.int .u8 0,.int .u8 0,.int .u8 0,.int .u8 0,.int .u8 0,.int .u8 0,.int .u8 0,.int .u8 0,.int .u8 0,.int .u8 0,.int .u8 0,.int .u8 0,.int .u8 0,.int .u8 0,.int .u8 0,.int .u8 0,.int .u8 0,.int .u8 0,.int .u8 0,.int .u8 0,.int .u8 0,.int .u8 0,.int .u8 0,.int .u8 0,.int .u8 0,.int .u8 0,.int .u8 0,.int .u8 0,.int .u8 0,.int .u8 0] 110)).setCells u.heap.size 0 (U8 ds)):=by
 have hc:CV (u.alloc (.cells #[.int .u8 0,.int .u8 0,.int .u8 0,.int .u8 0,.int .u8 0,.int .u8 0,.int .u8 0,.int .u8 0,.int .u8 0,.int .u8 0,.int .u8 0,.int .u8 0,.int .u8 0,.int .u8 0,.int .u8 0,.int .u8 0,.int .u8 0,.int .u8 0,.int .u8 0,.int .u8 0,.int .u8 0,.int .u8 0,.int .u8 0,.int .u8 0,.int .u8 0,.int .u8 0,.int .u8 0,.int .u8 0,.int .u8 0,.int .u8 0,.int .u8 0,.int .u8 0] 110)) u.heap.size (U8 z32):=CV.new u (U8 z32) 110
 have hl:(U8 z32).length=32:=by rw[Z1];rfl
 have hl2:(U8 ds).length=32:=by rw[Z1];exact hd
 have h:=run_storeCells_cells (P:=Tryz.prog) u.heap.size 0 (U8 ds) 0 (u.alloc (.cells #[.int .u8 0,.int .u8 0,.int .u8 0,.int .u8 0,.int .u8 0,.int .u8 0,.int .u8 0,.int .u8 0,.int .u8 0,.int .u8 0,.int .u8 0,.int .u8 0,.int .u8 0,.int .u8 0,.int .u8 0,.int .u8 0,.int .u8 0,.int .u8 0,.int .u8 0,.int .u8 0,.int .u8 0,.int .u8 0,.int .u8 0,.int .u8 0,.int .u8 0,.int .u8 0,.int .u8 0,.int .u8 0,.int .u8 0,.int .u8 0,.int .u8 0,.int .u8 0] 110)) (fun j hj=>by
  rw[Nat.zero_add,(hc j _ (List.getElem?_eq_getElem (by omega))).1];rfl) (fun j hj=>by
  rw[Nat.zero_add];exact(hc j _ (List.getElem?_eq_getElem (by omega))).2) Vh
 exact h
theorem bk32 (ds:List Nat) (hd:ds.length=32) (m:Nat) (u:World) (hm:m<=u.heap.size):Bk m ((u.alloc (.cells #[.int .u8 0,.int .u8 0,.int .u8 0,.int .u8 0,.int .u8 0,.int .u8 0,.int .u8 0,.int .u8 0,.int .u8 0,.int .u8 0,.int .u8 0,.int .u8 0,.int .u8 0,.int .u8 0,.int .u8 0,.int .u8 0,.int .u8 0,.int .u8 0,.int .u8 0,.int .u8 0,.int .u8 0,.int .u8 0,.int .u8 0,.int .u8 0,.int .u8 0,.int .u8 0,.int .u8 0,.int .u8 0,.int .u8 0,.int .u8 0,.int .u8 0,.int .u8 0] 110)).setCells u.heap.size 0 (U8 ds)) [(true,u.heap.size,U8 (ds))]:=by
 have hc:CV (u.alloc (.cells #[.int .u8 0,.int .u8 0,.int .u8 0,.int .u8 0,.int .u8 0,.int .u8 0,.int .u8 0,.int .u8 0,.int .u8 0,.int .u8 0,.int .u8 0,.int .u8 0,.int .u8 0,.int .u8 0,.int .u8 0,.int .u8 0,.int .u8 0,.int .u8 0,.int .u8 0,.int .u8 0,.int .u8 0,.int .u8 0,.int .u8 0,.int .u8 0,.int .u8 0,.int .u8 0,.int .u8 0,.int .u8 0,.int .u8 0,.int .u8 0,.int .u8 0,.int .u8 0] 110)) u.heap.size (U8 z32):=CV.new u (U8 z32) 110
 refine⟨⟨⟨by rw[Zj];simp,fun _=>hm,hc.put ?_⟩,trivial⟩,by simp⟩
 rw[Z1,Z1,hd];rfl
section
theorem CV.src {w:World} {b:Nat} {xs:List Value} (h:CV w b xs): ∀j v,xs[j]?=some v->w.cell? ((⟨b,0,none⟩:Addr).add j)=some v:=fun j v hj=>by
 rw[Addr.add_lit,Nat.zero_add];exact(h j v hj).1
section
variable {R:Rg} {P:Program} {ops:Array Oper} {Q:Exit->Act->World->Prop} {f:Nat->Bool} {t:Nat->Value} {u:World} {a:Act} {i:Nat} {o:Oper}
theorem g_cp0 {T T2:TypeId} {x y:Operand} {vx vy v:Value} (hr: ∀u,(Builtin.copy_ #[T,T2] o.type #[vx,vy]).run P u= .ok v u) (hop:o.op= .call {callee:= .builtin .copy,args:=[x,y].toArray,argTypes:=[T,T2].toArray}:=by rfl) (hx:evR R i o x=some vx:=by rfl) (hy:evR R i o y=some vy:=by rfl) (hv:some v=Zw i R.G:=by rfl) (hc:R.chk ops i o=true:=by rfl):OG R P ops Q i o:=
 Y5 hv hc fun f t u a X K hK=>wp_cp hop (X.ev hx) (X.ev hy) (hr u) hK
end
theorem cpN (b N:Nat) (ty:TypeId) (u:World):(Builtin.copy_ #[43,43] ty #[.slice (some ⟨b,0,none⟩) N N,.slice none 0 0]).run Tryz.prog u= .ok (iI 0) u:=by
 obtain⟨ti,hti,_⟩:=Option.map_eq_some_iff.1 Tu
 simp[hti,Builtin.copy_,go_sem,run_underlying Tryz.underlying43,sizeOf,typeInfo,Builtin.lenOf,Builtin.firstCells,loadCells,loadCellsFrom,storeCells]
def pad (xs:List Nat):List Nat:=xs++Vg xs.length
end
end
section
theorem tkA_block (q:List Nat×List Nat×Nat) (c:List Nat) (hc:c.length=64) (hb:q.2.1.length=64) (hm:q.2.2%64=0):tkA q c=(blk q.1 c,c,q.2.2+64):=by
 have h1:=tkB_many q.2.2 q.2.1 c hb 0 0 (by omega) 64 (by omega) (by omega)
 have h2:=tkS_many q.2.2 q.1 q.2.1 c 0 0 (by omega) 63 (by omega)
 have e:tkB q.2.2 q.2.1 c 64=c:=by
  rw[show 64=0+64 from rfl,h1]
  show []++c.take 64++q.2.1.drop 64=c
  rw[List.take_of_length_le (by omega),List.drop_eq_nil_of_le (by omega)];simp
 rw[if_pos (by omega)] at h2
 have h2:tkS q.2.2 q.1 q.2.1 c 64=blk q.1 (tkB q.2.2 q.2.1 c 64):=h2
 rw[tkA_all,hc,h2,e]
def blkS (ps:List Nat):Nat->List Nat
 | 0=>fst8
 | k+1=>blk (blkS ps k) ((ps.drop (64*k)).take 64)
theorem blkS_W (ps:List Nat): ∀k,WW 8 (blkS ps k)
 | 0=>q00_W.s
 | k+1=>blk_W (blkS_W ps k) _
theorem tkA_blkS (ps:List Nat): ∀k,64*k<=ps.length-> ∃b,b.length=64/\tkA q00 (ps.take (64*k))=(blkS ps k,b,64*k)
 | 0,_=>⟨z64,rfl,rfl⟩
 | k+1,h=>by
  obtain⟨b,hb,e⟩:=tkA_blkS ps k (by omega)
  have hl:((ps.drop (64*k)).take 64).length=64:=by rw[List.length_take,List.length_drop];omega
  refine⟨(ps.drop (64*k)).take 64,hl,?_⟩
  rw[show 64*(k+1)=64*k+64 by omega,List.take_add,Ut,e]
  exact tkA_block _ _ hl hb (by show 64*k%64=0;omega)
theorem pad_len (xs:List Nat):(pad xs).length=xs.length+(nou xs.length+9):=by unfold pad;rw[List.length_append,(Up xs.length).len]
theorem dig_blkS (xs:List Nat) (nb:Nat) (h:64*nb=(pad xs).length):dig xs=told (blkS (pad xs) nb):=by
 obtain⟨b,hb,e⟩:=tkA_blkS (pad xs) nb (by omega)
 rw[h,List.take_length] at e
 unfold dig
 rw[show xs++Vg xs.length=pad xs from rfl,e]
theorem pad_B (xs:List Nat) (h: ∀x∈xs,x<256): ∀x∈pad xs,x<256:=fun x hx=>by
 rcases List.mem_append.1 hx with h1 | h1
 ·exact h x h1
 ·exact(Up _).mem x h1
theorem told_get (ss:List Nat) (i:Nat) (h:i<32):(told ss).getD i 0=(ss.getD (i/4) 0>>>(8*(3 -i%4)))%256:=by
 have key: ∀n,n<=32-> ∀i,i<n->(tld ss n).getD i 0=(ss.getD (i/4) 0>>>(8*(3 -i%4)))%256:=fun n=>by
  induction n with
  | zero=>intro _ i hi;omega
  | succ n ih=>
   intro hn i hi
   show ((tld ss n).set n _).getD i 0=_
   have hl:(tld ss n).length=32:=(tld_B ss n).len
   by_cases e:i=n
   ·subst e
    rw[List.getD_eq_getElem?_getD,List.getElem?_set_self (by omega)];rfl
   ·rw[List.getD_eq_getElem?_getD,List.getElem?_set_ne (by omega),<-List.getD_eq_getElem?_getD]
    exact ih (by omega) i (by omega)
 exact key 32 (Nat.le_refl _) i h
def fill (ps:List Nat) (o:Nat):Nat->List Nat
 | 0=>z64
 | j+1=>(fill ps o j).set j (ps.getD (o+j) 0)
theorem fill_is (ps:List Nat) (o:Nat) (h:o+64<=ps.length): ∀j,j<=64->fill ps o j=(ps.drop o).take j++z64.drop j
 | 0,_=>by simp[fill]
 | j+1,hj=>by
  have hz:z64.length=64:=rfl
  have hg:ps.getD (o+j) 0=ps[o+j]:=by rw[List.getD_eq_getElem?_getD,List.getElem?_eq_getElem (by omega)];rfl
  have hl:((ps.drop o).take j).length=j:=by rw[List.length_take,List.length_drop];omega
  have hd:z64.drop j=z64[j]'(by omega)::z64.drop (j+1):=List.drop_eq_getElem_cons (by omega)
  unfold fill
  rw[fill_is ps o h j (by omega),hd,List.set_append_right _ _ (by omega),hl,Nat.sub_self,List.set_cons_zero,hg]
  rw[List.take_succ_eq_append_getElem (by rw[List.length_drop];omega)]
  simp
theorem fill_all (ps:List Nat) (o:Nat) (h:o+64<=ps.length):fill ps o 64=(ps.drop o).take 64:=by
 rw[fill_is ps o h 64 (Nat.le_refl _),show z64.drop 64=[] from rfl];simp
end
section
open Go.RowKit
section
theorem Wh:EnT 137:=fun _ _=>by kernel_rfl
theorem SB.take {w:World} {g o:Nat} {xs:List Nat} (h:SB w g o xs) (n:Nat):SB w g o (xs.take n):=fun j hj=>by
 have hj2:j<n/\j<xs.length:=by rw[List.length_take] at hj;omega
 rw[h j hj2.2,List.getD_eq_getElem?_getD,List.getD_eq_getElem?_getD,List.getElem?_take_of_lt hj2.1]
section
variable {R:Rg} {P:Program} {ops:Array Oper} {Q:Exit->Act->World->Prop} {f:Nat->Bool} {t:Nat->Value} {u:World} {a:Act} {i:Nat} {o:Oper}
end
theorem bdF (w:World):(Instr.build 164 [(0,.int .u32 1779033703),(1,.int .u32 3144134277),(2,.int .u32 1013904242),(3,.int .u32 2773480762),(4,.int .u32 1359893119),(5,.int .u32 2600822924),(6,.int .u32 528734635),(7,.int .u32 1541459225)].toArray).run Tryz.prog w= .ok (.agg (U32 fst8).toArray) w:=by kernel_rfl
theorem bdZ (w:World):(Instr.build 150 ([]:List (Nat×Value)).toArray).run Tryz.prog w= .ok (.agg (U8 z64).toArray) w:=by kernel_rfl
theorem W8 (w:World):(Instr.alloc 150 true (.tuple #[])).run Tryz.prog w= .ok (.pointer (some ⟨w.heap.size,0,none⟩)) (w.alloc (.cells (U8 z64).toArray 150)):=by kernel_rfl
theorem x64b (b k:Nat) (w:World) (h:k<64):(Instr.indexAt 150 (.pointer (some ⟨b,0,none⟩)) (iI k)).run Tryz.prog w= .ok (.pointer (some ⟨b,k,none⟩)) w:=by
 have h2:(k:Int)<64:=by omega
 go_simp
theorem cFirst (w:World):CC 137 #[] w (.agg (U32 (fst8)).toArray):=by
 go_enter Tryz.func137,Tryz.ntmps137
 go_upto_region 1 with fail
 generalize hC:(w.alloc (.cells (Z8w:List Value).toArray 164))=v0 at *
 have HB0:Bw w v0:=by rw[<-hC];exact Z2 (Zm w) _
 have K0:Bk w.heap.size v0 [(true,w.heap.size,U32 (z8))]:=by rw[<-hC];exact(Bk.nil _ w).ad
 clear hC
 refine Rp K0 HB0 [.all 1 (U32 (fst8))] [] [(0,1,_)] [] [] [] (oc (g_bd bdF)<|oc (g_st 0 Z8 (h1:=W0 _) (hm:=by rw[Za,show fst8.length=8 from rfl]) (hl:=by rw[Za,Za,show fst8.length=8 from rfl,show z8.length=8 from rfl])) on) fun u1 HB1 _ K1=>?_
 simp only[sQ] at K1⊢
 go_wp2
 refine bodyPost_ret (Zy Tryz.results137 rfl (K1.cv 0) Tryz.underlying164 rfl (by rw[Za,show fst8.length=8 from rfl];exact Z8)) rfl ⟨rfl,HB1⟩
end
theorem sl64 (b:Nat) (w:World):(Instr.sliceAt 150 (.pointer (some ⟨b,0,none⟩)) none none none).run Tryz.prog w= .ok (.slice (some ⟨b,0,none⟩) 64 64) w:=by
 simp[Instr.sliceAt,Instr.slice,go_sem,Tryz.underlying150]
theorem sl32 (b:Nat) (w:World):(Instr.sliceAt 110 (.pointer (some ⟨b,0,none⟩)) none none none).run Tryz.prog w= .ok (.slice (some ⟨b,0,none⟩) 32 32) w:=by
 simp[Instr.sliceAt,Instr.slice,go_sem,Tryz.underlying110]
theorem Vx:EnT 148:=fun _ _=>by kernel_rfl
theorem eql_it (p q:Operand) (x y:Int) (b:Bool) (w:World) (h:decide (x=y)=b):(do eqGuard .eql 3 p q (iI x) (iI y);binOp .eql 3 (iI x) (iI y):Sem Value).run Tryz.prog w= .ok (.bool b) w:=by
 subst h;go_simp
 first | done | (by_cases e:x=y<;>simp[e])
theorem cMasked_core (ks:List Nat) (x:Nat) (mL:Nat->List Nat) (w:World) (hx:x<256) (h0:Hid (mL 0=ks)) (hs:Hid (∀i,mL (i+1)=(mL i).set i ((mL i).getD i 0^^^x))) (hB:Hid (∀i,BB 64 (mL i))):
 Calls Tryz.prog 148 #[.agg (U8 (ks)).toArray,.int .u8 ((x:Nat):Int)] w fun e w'=> ∃v,e= .returned v/\PF w.heap.size 64 (U8 (mL 64)) w' v/\Bw w w':=by
 go_enter Tryz.func148,Tryz.ntmps148
 go_upto_region 1 with fail
 obtain⟨v0,hC,HB0,K0⟩:=bx1 w (U8 (ks)) 150
 rw[hC]
 clear hC
 refine Rn K0 HB0 [(0,6,_)] (oc g_mv on) fun u1 HB1 _ K1=>?_
 simp only[sQ] at K1⊢
 go_wp2_with fail
 go_loopw [6] (fun s6 wr=> ∃(i:Nat),i<=64/\s6=iI (i:Int)/\Bw w wr/\Hid (CV wr w.heap.size (U8 (mL i)))/\w.heap.size<wr.heap.size) (fun s6 _=>64 -(intOf s6).toNat)
 case atStart=>exact⟨0,by omega,rfl,HB1,(by rw[h0.out];exact(K1.cv 0)),(K1.lt 0)⟩
 case round=>
  obtain⟨i,hi,rfl,HBr,Kt,lt⟩:=hrel
  by_cases hj:i<64
  ·have hl1:decide ((i:Int)<64)=true:=by simp;omega
   have hS:=hs.out i
   have hB64:=hB.out i
   have hlen:=hB64.len
   have hlt:=hB64.lt i
   obtain⟨ts,ets⟩: ∃ts,mL i=ts:=⟨_,rfl⟩
   rw[ets] at hS hlen hlt Kt
   have gi:=Y2 ts i (by omega)
   obtain⟨y,ey⟩: ∃y,ts.getD i 0=y:=⟨_,rfl⟩
   rw[ey] at gi hS hlt
   have hS:Hid _:=hS
   clear ets ey hB64
   have K1_1:Bk w.heap.size wr [(true,w.heap.size,U8 (ts))]:=⟨.o lt (K1.lo 0) Kt.out<|trivial,by simp⟩
   go_upto_region 2 with fail
   refine Rn K1_1 HBr [(0,7,_)] (oc (g_bn (fun uZ=>Zc _ _ (i:Int) 64 _ uZ hl1)) on) fun u2 HB2 sz2 K2=>?_
   simp only[sQ] at K2⊢
   go_upto_region 3 with fail
   refine Rn K2 HB2 [(0,8,_),(1,5,_)] (oc g_mv<|oc g_as on) fun u3 HB3 sz3 K3=>?_
   simp only[sQ] at K3⊢
   go_upto_region 4 with fail
   refine Rp K3 HB3 [.all 6 (U8 (ts.set i (y^^^x)))] [] (cG 0 9 [_,_,_,_,_,_] []) [(6,2)] [] [] (oc g_mv<|oc (g_ix (fun uZ=>x64b w.heap.size i uZ hj))<|oc (g_lw 0 (i) l8 (gi))<|oc g_mv<|oc (g_bn (fun uZ=>xor8 _ _ y x uZ hlt hx))<|oc (g_ix (fun uZ=>x64b w.heap.size i uZ hj))<|oc (g_sw 0 (i) s8 (gi) (Wn _ _ _)) on) fun u4 HB4 _ K4=>?_
   simp only[sQ] at K4⊢
   go_upto_region 5 with fail
   refine Rp K4 HB4 [] [] [(0,15,_),(1,6,_)] [(1,0)] [(1,6)] [] (oc (g_bn (fun uZ=>Zr _ _ (i:Int) 1 ((i+1:Nat):Int) uZ (by omega) (by omega) (by omega)))<|oc g_mv on) fun u5 HB5 _ K5=>?_
   simp only[sQ] at K5⊢
   go_wp2
   refine⟨⟨i+1,by omega,rfl,HB5,(by rw[hS.out];exact(K5.cv 0)),(K5.lt 0)⟩,?_⟩
   simp[intOf]<;>omega
  ·have hl1:decide ((i:Int)<64)=false:=by simp;omega
   have hin:i=64:=by omega
   subst hin
   have K1_1:Bk w.heap.size wr [(false,w.heap.size,U8 (mL 64))]:=⟨.c lt Kt.out<|trivial,by simp⟩
   go_upto_region 2 with fail
   refine Rn K1_1 HBr [(0,7,_)] (oc (g_bn (fun uZ=>Zc _ _ ((64:Nat):Int) 64 _ uZ hl1)) on) fun u2 HB2 sz2 K2=>?_
   simp only[sQ] at K2⊢
   go_upto_region 6 with fail
   refine Rn K2 HB2 [(0,16,_),(1,4,_)] (oc (g_sl (sl64 w.heap.size))<|oc g_as on) fun u3 HB3 sz3 K3=>?_
   simp only[sQ] at K3⊢
   go_wp2
   refine bodyPost_ret (v:= .slice (some ⟨w.heap.size,0,none⟩) 64 64) (by simp[results,Tryz.results148,go_sem]) rfl ⟨_,rfl,⟨w.heap.size,rfl,Nat.le_refl _,(K3.lt 0),(K3.cv 0)⟩,HB3⟩
theorem cMasked (ks:List Nat) (x:Nat) (w:World) (hk:BB 64 ks) (hx:x<256):
 Calls Tryz.prog 148 #[.agg (U8 (ks)).toArray,.int .u8 ((x:Nat):Int)] w fun e w'=> ∃v,e= .returned v/\PF w.heap.size 64 (U8 (msk x ks)) w' v/\Bw w w':=by
 have h:=cMasked_core ks x (mkL x ks) w hx rfl (fun _=>rfl) (mkL_B hk hx)
 have e:=mkL_all x ks
 rw[hk.len] at e
 rwa [e] at h
end
end Go.Proofs.YtofcppgfaelloaaGreatDoor
