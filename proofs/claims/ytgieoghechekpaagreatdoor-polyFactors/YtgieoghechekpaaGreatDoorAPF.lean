import Derived.Test.YtgieoghechekpaaGreatDoorAPX
import Derived.Test.YtgieoghechekpaaGreatDoorRows
namespace Go.Proofs.YtgieoghechekpaaGreatDoor
set_option linter.unusedVariables false
set_option linter.unusedSimpArgs false
set_option maxRecDepth 100000
set_option maxHeartbeats 4000000
section
open Go.RowKit
def PAp(N:Nat)(u:World)(v:Value):Prop:= ∃out:List Int,out.length=N/\Apart out/\IL u v out
theorem PAp.stab{N:Nat}{u u2:World}{x:Value}(hB:Bw u u2)(h:PAp N u x):PAp N u2 x:=by
 obtain⟨out,h1,h2,h3⟩:=h
 exact⟨out,h1,h2,h3.up hB⟩
theorem cApart(sl:Option Addr)(L cap gl ol N:Nat)(f:Nat->Int)(w:World)(hN:N<=20)(hL:L<=9223372036854775807)(hsl:0<L->sl=some ⟨gl,ol,none⟩/\gl<w.heap.size)(hc: ∀j,j<L->w.cell? ⟨gl,ol+j,none⟩=some (.int .i64 (f j)))(hf: ∀j,j<L-> -9223372036854775808<=f j/\f j<9223372036854775808): ∀u,Bw w u->Calls Tryz.prog 17 #[.slice sl L cap,.int .i64 (N:Int)] u fun e u'=> ∃y,e= .returned y/\PAp N u' y/\Bw u u':=fun u hB=>by
 refine(apart_core sl L cap gl ol N f u hN hL (fun h=>⟨(hsl h).1,Nat.lt_of_lt_of_le (hsl h).2 hB.size⟩) (fun j hj=>(hB.cell (p:=⟨gl,ol+j,none⟩) (hsl (by omega)).2).trans (hc j hj)) (fun j hj=>?_)).mono ?_
 ·obtain⟨k,hk,h⟩:=among_any (f j) 40 (by omega) (by omega) (hf j hj)
  exact⟨k,by omega,h⟩
 ·rintro e u' ⟨y,rfl,out,h1,h2,h3,h4⟩
  exact⟨y,rfl,⟨out,h1,h2,h3⟩,h4⟩
theorem bsN1(x:Int)(w:World):(Instr.buildSlice 25 1 #[(0,NV x)]).run Tryz.prog w= .ok (.slice (some ⟨w.heap.size,0,none⟩) 1 1) (w.alloc (.cells (LN x:List Value).toArray 24)):=by kernel_rfl
theorem app_nn{u:World}{bo m co:Nat}{ns:List Int}{zs:List Value}{x:Int}{ty:TypeId}(hc:CV u bo (flN ns++zs))(hb:bo<u.heap.size)(hm:ns.length=m)(hmc:m<=co)(hz:zs.length=4*(co -m))(hl:m<=1000000):
 ∃v u',(Builtin.append_ #[25,25] ty #[.slice (some ⟨bo,0,none⟩) m co,.slice (some ⟨u.heap.size,0,none⟩) 1 1]).run Tryz.prog (u.alloc (.cells (LN x:List Value).toArray 24))= .ok v u'/\(u.alloc (.cells (LN x:List Value).toArray 24)).grownBy u' (some bo)/\PH (u.alloc (.cells (LN x:List Value).toArray 24)).heap.size bo 4 (m+1) (flN (ns++[x])) u' v:=by
 obtain⟨ti,hti,htm⟩:=Option.map_eq_some_iff.1 infoNt
 simp only[Prod.mk.injEq] at htm
 obtain⟨hzv,hsz,hby⟩:=htm
 have hss:u.heap.size<=(u.alloc (.cells (LN x:List Value).toArray 24)).heap.size:=by simp
 obtain⟨v',u',hr,hg,hp⟩:=run_app (P:=Tryz.prog) (u.alloc (.cells (LN x:List Value).toArray 24)) (ty:=ty) Tryz.underlying25 hti hzv (by rw[hsz];rfl) (base:=(u.alloc (.cells (LN x:List Value).toArray 24)).heap.size) (n:=m) (cap:=co) (m:=1) (news:=LN x) (y:= .slice (some ⟨u.heap.size,0,none⟩) 1 1) (hc.below (Z0 (Z2 u) _) hb) (Nat.lt_of_lt_of_le hb hss) (by rw[hsz,flN_len];omega) (by rw[hsz];omega) hmc (Nat.le_refl _) ⟨_,1,rfl,.inr ⟨_,rfl,fun j v hj=>by
  have:=(CV.new u (LN x) 24 j v hj).1
  rw[Addr.add0];exact this⟩⟩ (by rw[hsz];rfl) (fun v hv=>by simp at hv;rcases hv with h | h | h | h<;>(subst h;rfl)) (by rw[hby];omega) (by omega)
 rw[hsz] at hp
 rw[show flN ns++LN x=flN (ns++[x]) by rw[Zv];simp[flN]] at hp
 exact⟨v',u',hr,hg,hp⟩
theorem nl_row{u:World}{b m c:Nat}{ns:List Int}{zs:List Value}(hb:b<u.heap.size)(h:CV u b (flN ns++zs))(hm:ns.length=m)(hc:m<=c):NL u (.slice (some ⟨b,0,none⟩) m c) ns:=by
 subst hm
 refine⟨_,b,0,c,rfl,hc,(by simp),.inr rfl,.inr hb,fun j v hj=>?_⟩
 rw[Nat.zero_add]
 exact(h j v (by rw[List.getElem?_append_left (List.getElem?_eq_some_iff.1 hj).1];exact hj)).1
def PRt(lo:Nat)(ns:List Int)(u:World)(v:Value):Prop:= ∃y,v= .tuple #[y,.int .i64 0]/\PRw lo ns u y
theorem PRt.stab{lo:Nat}{ns:List Int}{u u2:World}{x:Value}(hB:Bw u u2)(h:PRt lo ns u x):PRt lo ns u2 x:=by
 obtain⟨y,e,h⟩:=h
 exact⟨y,e,h.stab hB⟩
theorem PRt.fst{lo:Nat}{ns:List Int}: ∀(u:World) (v:Value),PRt lo ns u v-> ∃cs y,v= .tuple cs/\cs[0]?=some y/\PRw lo ns u y:=fun u v ⟨y,e,h⟩=>⟨_,y,e,rfl,h⟩
theorem PRt.snd{lo:Nat}{ns:List Int}: ∀(u:World) (v:Value),PRt lo ns u v-> ∃cs,v= .tuple cs/\cs[1]?=some (.int .i64 0):=fun u v ⟨y,e,h⟩=>⟨_,e,rfl⟩
theorem xSumL(m:Int)(ns:List Int)(v:Value)(w:World)(hns:ns.length<=50)(hm:In m)(h:m≠0)(hn: ∀k,k<ns.length->In (ns.getD k 0))(hv:NL w v ns):CC 22 #[NV m,v] w (.tuple #[NV (gat (fun a b=>(a+b)%m) (0%m) ns ns.length),.int .i64 0]):=by
 obtain⟨sl,gb,go,cap,rfl,h2,h3,h4,h5,h6⟩:=hv
 exact xSum m sl gb go cap ns w hns hm h hn (NL.ix (u:=w) h4) h5 h6
theorem In_OQ:In OQ:=⟨by decide,by decide⟩
theorem Apart.In{xs:List Int}(h:Apart xs): ∀z∈xs,In z:=fun z hz=>⟨by have:=h.2 z hz;omega,by have:=h.2 z hz;omega⟩
theorem Y2:EnT 16:=fun _ _=>by kernel_rfl
theorem Y4:EnT 17:=fun _ _=>by kernel_rfl
theorem Za:EnT 21:=fun _ _=>by kernel_rfl
theorem Ya:EnT 20:=fun _ _=>by kernel_rfl
theorem nl_at{u:World}{b m c:Nat}{ns:List Int}{j:Nat}(h:NL u (.slice (some ⟨b,0,none⟩) m c) ns)(hj:j<ns.length):u.rangeAt b (0+4*j) (LN (ns.getD j 0))/\b<u.heap.size:=by
 obtain⟨sl,gb,go,cap,e,h2,h3,h4,h5,h6⟩:=h
 cases e
 have h4:=h4.resolve_left (fun e=>by subst e;simp at hj)
 cases h4
 exact⟨h6.at j hj,h5.resolve_left (by omega)⟩
theorem neq_z(p q:Operand)(w:World):(do eqGuard .neq 24 p q (NV 0) (A4 0 0 0 0);binOp .neq 24 (NV 0) (A4 0 0 0 0):Sem Value).run Tryz.prog w= .ok (.bool false) w:=by
 have:=neq_n p q In_0 In_0 false (by decide) w
 rwa [show NV 0=A4 0 0 0 0 from NV_0] at this⊢
theorem Xh(t nn wh:Int)(sl:Option Addr)(L cap N k9 kk:Nat)(w:World)(hG:GP w)(ht:In t)(hN9:1+k9=N)(hk9:k9<9)(hkk0:kk<N)(hW:Hid (∀u,Bw w u->CC 16 #[] u (.bool true)))(hA:Hid (∀u,CC 18 #[.int .i64 nn,.int .i64 9] u (.int .i64 (k9:Int))))(hA2:Hid (∀u,CC 18 #[.int .i64 wh,.int .i64 (N:Int)] u (.int .i64 (kk:Int))))(hAp:Hid (∀u,Bw w u->Calls Tryz.prog 17 #[.slice sl L cap,.int .i64 (N:Int)] u fun e u'=> ∃y,e= .returned y/\PAp N u' y/\Bw u u')):
 CC 4 #[.slice sl L cap,.int .i64 nn,NV t,.int .i64 wh] w (.bool true):=by
 go_enter Tryz.func4,Tryz.ntmps4
 go_upto_region 1 with fail
 generalize hC:(w.alloc (.cells (LN t:List Value).toArray 24))=v0 at *
 have HB0:Bw w v0:=by rw[<-hC];exact Z0 (Z2 w) _
 have K0:Bk w.heap.size v0 [(true,w.heap.size,LN t)]:=by rw[<-hC];exact(Bk.nil _ w).ad
 clear hC
 refine rgP K0 HB0 HB0.size [] [] [(0,21,.bool true),(1,22,.bool false)] [] [] [] ?_ ?_
 ·exact oc (g_cb Y2 (fun uZ bZ=>hW.out uZ bZ))<|oc (g_un (fun uZ=>not_t uZ)) on
 intro u1 HB1 sz1 K1
 simp only[sQ] at K1⊢
 clear K0 HB0
 go_upto_region 3 with fail
 refine rgF K1 HB1 HB1.size [] [] [(0,23,.slice sl L cap),(1,24,.int .i64 nn),(2,25,.int .i64 (k9:Int)),(3,26,.int .i64 (N:Int))] [] [] [⟨4,27,some 5,PAp N⟩,⟨5,9,none,PAp N⟩] [] (.cons (fun _ _ _ h1 h2=>h2.stab h1)<| .cons (fun _ _ _ h1 h2=>h2.stab h1)<|Stab.nil) ?_ ?_
 ·exact oc g_mv<|oc g_mv<|oc (g_cl Zm (fun uZ=>hA.out uZ))<|oc (g_bn (fun uZ=>X9 _ _ 1 (k9:Int) (N:Int) uZ (by omega) (by omega) (by omega)))<|oc (g_cE 0 (PAp N) Y4 (fun u hB hs=>hAp.out u hB))<|oc (g_sE 0 1 (PAp N)) on
 intro u2 v2_4 hv2_4 v2_5 hv2_5 HB2 sz2 K2
 simp only[sQ] at K2⊢
 clear K1 HB1
 obtain⟨out,ho,hap,hil⟩:=hv2_5 rfl
 obtain⟨si,gi,oi,ci,rfl,i2,i3,i4,i5,i6⟩:=hil
 have hNo:out.length<=9:=by omega
 have hNo1:1<=out.length:=by omega
 replace ho:Hid (out.length=N):=ho
 have hT2:Bw w u2:=Z4 (Below.refl w.heap.size w) HB2
 have HBz2:Bw u2 u2:=Below.refl _ _
 have hbs:=bsN0
 have hb1:=bsN1
 replace i6:Hid _:=i6
 replace i4:Hid _:=i4
 replace i5:Hid _:=i5
 go_wp2_with fail
 go_loopw [11,10] (fun s11 s10 wr=> ∃(i bo co:Nat) (zs:List Value),i<=out.length/\s11= .int .i64 (i:Int)/\s10= .slice (some ⟨bo,0,none⟩) i co/\i<=co/\zs.length=4*(co -i)/\u2.heap.size<=bo/\bo<wr.heap.size/\Hid (CV wr bo (flN (out.take i)++zs))/\Bw u2 wr) (fun s11 _ _=>out.length -(intOf s11).toNat)
 case atStart=>exact⟨0,u2.heap.size,0,[],by omega,rfl,rfl,by omega,rfl,Nat.le_refl _,by simp,(fun j v h=>by simp[flN] at h),Z0 (Z2 u2) _⟩
 case round=>
  obtain⟨i,bo,co,zs,hi,rfl,rfl,hic,hzl,hlo,hlt,KV,HBr⟩:=hrel
  by_cases hj:i<out.length
  ·have hl2:(i:Int)<(out.length:Int):=by omega
   obtain rfl:=i4.out.resolve_left (fun e=>by subst e;simp at hj)
   have hg:=i5.out.resolve_left (by omega)
   have hk:wr.cell? ⟨gi,oi+i,none⟩=some (.int .i64 (out.getD i 0)):=(HBr.cell (p:=⟨gi,oi+i,none⟩) hg).trans (i6.out i hj)
   have hxb:=hap.2 (out.getD i 0) (by simp[List.getElem?_eq_getElem hj])
   have hnx:Hid (out.take (i+1)=out.take i++[out.getD i 0]):=by
    show out.take (i+1)=out.take i++[out.getD i 0]
    rw[List.take_add_one,List.getElem?_eq_getElem hj];simp[List.getElem?_eq_getElem hj]
   have htl:Hid ((out.take i).length=i):=by show (out.take i).length=i;rw[List.length_take];omega
   have e1:IntKind.i64.wrap ((i:Int)+1)=((i+1:Nat):Int):=by rw[IntKind.wrap_i64];omega
   obtain⟨x,ex⟩: ∃x,out.getD i 0=x:=⟨_,rfl⟩
   rw[ex] at hk hxb hnx
   clear ex
   have hNat:=Zq x wr (by omega) (by omega)
   go_wp2_with (first
    | (go_at_call 19;refine hNat.mono ?_;clear hNat;rintro e ub ⟨rfl,hBb⟩;replace KV:Hid (CV ub bo (flN (out.take i)++zs)):=CV.below KV.out hBb hlt;have hsb:=hBb.size;replace HBr:=Z4 HBr hBb;obtain⟨v2,uc,r2,rg2,b5,c5,z5,rfl,f1,f2,f3,f4,f5⟩:=app_nn (ty:=25) (x:=x) KV.out (by omega) htl.out hic hzl (by omega);have f5:Hid _:=f5;have rg2:Hid _:=rg2)
    | (at_builtin;refine Y6 rfl _ _ 25 rfl _ _ _ rfl rfl r2 ?_;clear r2))
   have hBa2:Bw u2 (ub.alloc (.cells (LN x:List Value).toArray 24)):=Z0 HBr _
   have hBc:Bw u2 uc:=hBa2.grown rg2.out hBa2.size (fun k e=>by cases e;exact hlo)
   refine⟨⟨i+1,b5,c5,z5,by omega,by simp,rfl,f3,by rw[f4];omega,by have:=hBa2.size;rcases f1 with h | h<;>omega,f2,by rw[hnx.out];exact f5,hBc⟩,?_⟩
   simp[intOf];omega
  ·have hl2: ¬(i:Int)<(out.length:Int):=by omega
   have hlx:decide ((i:Int)<(out.length:Int))=false:=by simp;omega
   obtain⟨wo,rfl⟩: ∃x,x=wr:=⟨_,rfl⟩
   have hio:i=out.length:=by omega
   have nl_0:NL wo (.slice (some ⟨bo,0,none⟩) i co) out:=nl_row hlt (by have:=KV.out;rwa [hio,List.take_length] at this) hio.symm hic
   have hkk:kk<out.length:=by have:=ho.out;omega
   have hA2:Hid (∀u,CC 18 #[.int .i64 wh,.int .i64 (i:Int)] u (.int .i64 (kk:Int))):=by have h1:=ho.out;rw[hio,h1];exact hA2
   replace hio:Hid _:=hio
   have Kt:CV wo w.heap.size (LN t):=CV.below (K2.cv 0) HBr (K2.lt 0)
   have lt_:w.heap.size<wo.heap.size:=Nat.lt_of_lt_of_le (K2.lt 0) HBr.size
   have hTw:Bw w wo:=Z4 hT2 HBr
   have HBw:Bw wo wo:=Below.refl _ _
   obtain⟨vs,hvs⟩:=hap.invs
   have hOn:=hap.In
   have hone:gat (fun a b=>(a+b)%OQ) (0%OQ) (fac OQ t out vs) (fac OQ t out vs).length=1:=oneN 581039633 (by decide) hvs hNo1 t
   have hone:Hid _:=hone
   have K2_1:Bk wo.heap.size wo [(false,w.heap.size,LN t)]:=⟨.c lt_ Kt<|trivial,by simp⟩
   go_upto_region 6 with fail
   refine rgP K2_1 HBw HBw.size [] [] [(0,29,.int .i64 (i:Int)),(1,30,.slice si out.length ci),(2,31,.int .i64 (out.length:Int)),(3,32,.bool false)] [] [] [] ?_ ?_
   ·exact oc g_mv<|oc g_mv<|oc (g_ln Tryz.underlying26)<|oc (g_bn (fun uZ=>Zp _ _ (i:Int) (out.length:Int) _ uZ hlx)) on
   intro u3 HB3 sz3 K3
   simp only[sQ] at K3⊢
   go_upto_region 9 with fail
   refine rgE K3 HB3 HB3.size [] [] [(0,44,NV 581039633),(1,45,NV t),(2,46,.slice (some ⟨bo,0,none⟩) i co),(6,49,.int .i64 0),(8,13,.int .i64 0)] [] [] [⟨3,47,none,PRt u3.heap.size (fac OQ t out vs)⟩,⟨4,43,none,PRt u3.heap.size (fac OQ t out vs)⟩,⟨5,48,some 7,PRw u3.heap.size (fac OQ t out vs)⟩,⟨7,12,none,PRw u3.heap.size (fac OQ t out vs)⟩] [] (.cons (fun _ _ _ h1 h2=>h2.stab h1)<| .cons (fun _ _ _ h1 h2=>h2.stab h1)<| .cons (fun _ _ _ h1 h2=>h2.stab h1)<| .cons (fun _ _ _ h1 h2=>h2.stab h1)<|Stab.nil) ?_ ?_
   ·exact oc (g_cl Za (fun uZ=>cOrder uZ))<|oc (g_ld 0 uN iN)<|oc g_mv<|oc (g_cM 0 (PRt u3.heap.size (fac OQ t out vs)) Ya (fun f u kZ hs bZ=>(cFactors OQ t out vs _ u ((hG.below hTw).below bZ) In_OQ (by decide) ht (nl_0.up bZ) hOn hNo1 (by omega) hvs).mono fun e u2 ⟨v,e1,h1,h2⟩=>⟨_,e1,⟨v,rfl,h1.lo hs⟩,h2⟩))<|oc (g_mE 0 1 (PRt u3.heap.size (fac OQ t out vs)))<|oc (g_xE 1 2 (PRt u3.heap.size (fac OQ t out vs)) (PRw u3.heap.size (fac OQ t out vs)) PRt.fst)<|oc (g_xV 1 (PRt u3.heap.size (fac OQ t out vs)) PRt.snd)<|oc (g_sE 2 3 (PRw u3.heap.size (fac OQ t out vs)))<|oc g_as on
   intro u4 v4_3 hv4_3 v4_4 hv4_4 v4_5 hv4_5 v4_7 hv4_7 HB4 sz4 K4
   simp only[sQ] at K4⊢
   clear K3 HB3
   have hF1:=hv4_7 rfl
   have hF1n:=hF1.nl
   obtain⟨bf,rfl,fa,fb,fc⟩:=hF1
   have hT4:Bw w u4:=Z4 hTw HB4
   have nl_4:NL u4 (.slice (some ⟨bo,0,none⟩) i co) out:=nl_0.up HB4
   have n1_4:NL u4 (.slice (some ⟨bf,0,none⟩) (fac OQ t out vs).length (fac OQ t out vs).length) (fac OQ t out vs):=hF1n
   have HBz4:Bw u4 u4:=Below.refl _ _
   have K4_2:Bk u4.heap.size u4 [(false,w.heap.size,LN t)]:=⟨.c (K4.lt 0) (K4.cv 0)<|trivial,by simp⟩
   go_upto_region 10 with fail
   refine rgP K4_2 HBz4 HBz4.size [] [(6,14,L0s,some (7,LN 1))] [(0,51,NV 581039633),(1,52,.slice (some ⟨bf,0,none⟩) (fac OQ t out vs).length (fac OQ t out vs).length),(2,53,.tuple #[NV 1,.int .i64 0]),(3,50,.tuple #[NV 1,.int .i64 0]),(4,54,NV 1),(5,55,.int .i64 0),(8,15,.int .i64 0)] [(7,6)] [] [] ?_ ?_
   ·exact oc (g_cl Za (fun uZ=>cOrder uZ))<|oc g_mv<|oc (g_cb Yc (fun uZ bZ=>by have h:=xSumL OQ (fac OQ t out vs) _ uZ (by rw[Ys];omega) In_OQ (by decide) (fac_In In_OQ (by decide)) (n1_4.up bZ);rw[hone.out] at h;exact h))<|oc g_mv<|oc g_ex<|oc g_ex<|oc (g_al 0 aN)<|oc (g_sn 0 iN)<|oc g_as on
   intro u5 b5_6 HB5 sz5 K5
   simp only[sQ] at K5⊢
   go_upto_region 11 with fail
   refine rgP K5 HB5 HB5.size [] [] [(0,56,.int .i64 wh),(1,57,.slice (some ⟨bo,0,none⟩) i co),(2,58,.int .i64 (i:Int)),(3,59,.int .i64 (kk:Int)),(4,16,.int .i64 (kk:Int))] [] [] [] ?_ ?_
   ·exact oc g_mv<|oc g_mv<|oc (g_ln Tryz.underlying25)<|oc (g_cl Zm (fun uZ=>hA2.out uZ))<|oc g_as on
   intro u6 HB6 sz6 K6
   simp only[sQ] at K6⊢
   clear K5 HB5
   have hX:=ixS bo 0 i co kk (by have:=hio.out;omega)
   have hX:Hid _:=hX
   obtain⟨hRk,hbo⟩:=nl_at nl_4 hkk
   have hRk:Hid _:=hRk
   have hZin:In (out.getD kk 0):=getD_mem hOn kk hkk
   obtain⟨zk,ezk⟩: ∃z,out.getD kk 0=z:=⟨_,rfl⟩
   rw[ezk] at hRk hZin
   go_upto_region 12 with fail
   refine rgE K6 HB6 HB6.size [] [] [(0,61,NV 581039633),(1,62,.slice (some ⟨bo,0,none⟩) i co),(2,63,.int .i64 (kk:Int)),(3,64,.pointer (some ⟨bo,0+4*kk,none⟩)),(4,65,NV zk),(5,66,.slice (some ⟨bo,0,none⟩) i co),(9,69,.int .i64 0),(11,18,.int .i64 0)] [] [] [⟨6,67,none,PRt u6.heap.size (fac OQ zk out vs)⟩,⟨7,60,none,PRt u6.heap.size (fac OQ zk out vs)⟩,⟨8,68,some 10,PRw u6.heap.size (fac OQ zk out vs)⟩,⟨10,17,none,PRw u6.heap.size (fac OQ zk out vs)⟩] [] (.cons (fun _ _ _ h1 h2=>h2.stab h1)<| .cons (fun _ _ _ h1 h2=>h2.stab h1)<| .cons (fun _ _ _ h1 h2=>h2.stab h1)<| .cons (fun _ _ _ h1 h2=>h2.stab h1)<|Stab.nil) ?_ ?_
   ·exact oc (g_cl Za (fun uZ=>cOrder uZ))<|oc g_mv<|oc g_mv<|oc (g_ix (fun uZ=>hX.out uZ))<|oc (g_lf hRk.out hbo uN iN)<|oc g_mv<|oc (g_cM 0 (PRt u6.heap.size (fac OQ zk out vs)) Ya (fun f u kZ hs bZ=>(cFactors OQ zk out vs _ u ((hG.below hT4).below bZ) In_OQ (by decide) hZin (nl_4.up bZ) hOn hNo1 (by omega) hvs).mono fun e u2 ⟨v,e1,h1,h2⟩=>⟨_,e1,⟨v,rfl,h1.lo hs⟩,h2⟩))<|oc (g_mE 0 1 (PRt u6.heap.size (fac OQ zk out vs)))<|oc (g_xE 1 2 (PRt u6.heap.size (fac OQ zk out vs)) (PRw u6.heap.size (fac OQ zk out vs)) PRt.fst)<|oc (g_xV 1 (PRt u6.heap.size (fac OQ zk out vs)) PRt.snd)<|oc (g_sE 2 3 (PRw u6.heap.size (fac OQ zk out vs)))<|oc g_as on
   intro u7 v7_6 hv7_6 v7_7 hv7_7 v7_8 hv7_8 v7_10 hv7_10 HB7 sz7 K7
   simp only[sQ] at K7⊢
   clear K6 HB6
   have hF2:=hv7_10 rfl
   have hF2n:=hF2.nl
   obtain⟨bg,rfl,ga,gb,gc⟩:=hF2
   have hfl1:(fac OQ t out vs).length=out.length:=Ys _ _ _ _
   have hfl2:(fac OQ zk out vs).length=out.length:=Ys _ _ _ _
   have hnK7:=K7.n
   simp at hnK7
   have hT7:Bw w u7:=Z4 hT4 HB7
   have nl_7:NL u7 (.slice (some ⟨bo,0,none⟩) i co) out:=nl_4.up HB7
   have n1_7:NL u7 (.slice (some ⟨bf,0,none⟩) (fac OQ t out vs).length (fac OQ t out vs).length) (fac OQ t out vs):=n1_4.up HB7
   have n2_7:NL u7 (.slice (some ⟨bg,0,none⟩) (fac OQ zk out vs).length (fac OQ zk out vs).length) (fac OQ zk out vs):=hF2n
   have HBz7:Bw u7 u7:=Below.refl _ _
   obtain⟨l1,el1⟩: ∃l,(fac OQ t out vs).length=l:=⟨_,rfl⟩
   obtain⟨l2,el2⟩: ∃l,(fac OQ zk out vs).length=l:=⟨_,rfl⟩
   have hc1:(((l1:Nat):Int) !=((i:Nat):Int))=false:=by have:=hio.out;simp;omega
   have hc2:(((l2:Nat):Int) !=((i:Nat):Int))=false:=by have:=hio.out;simp;omega
   rw[el1,el2]
   have hl2i:l2=out.length:=by omega
   replace hl2i:Hid _:=hl2i
   replace el2:Hid _:=el2
   clear hfl1 hfl2 el1
   have K7_3:Bk u7.heap.size u7 [(false,w.heap.size,LN t),(false,b5_6,LN 1)]:=⟨.c (K7.lt 0) (K7.cv 0)<| .c (K7.lt 1) (K7.cv 1)<|trivial,by simp<;>omega⟩
   go_upto_region 13 with fail
   refine rgD K7_3 HBz7 HBz7.size [] [] [(0,70,.int .i64 0),(1,71,.bool false),(2,72,.bool false),(3,73,.int .i64 0),(4,74,.bool false),(5,75,.bool false),(6,76,.bool false),(7,77,.slice (some ⟨bf,0,none⟩) l1 l1),(8,78,.int .i64 ((l1:Nat):Int)),(9,79,.slice (some ⟨bo,0,none⟩) i co),(10,80,.int .i64 ((i:Nat):Int)),(11,81,.bool false),(12,82,.bool false),(13,83,.bool false),(14,84,.slice (some ⟨bg,0,none⟩) l2 l2),(15,85,.int .i64 ((l2:Nat):Int)),(16,86,.slice (some ⟨bo,0,none⟩) i co),(17,87,.int .i64 ((i:Nat):Int)),(18,88,.bool false),(19,89,.bool false),(20,90,.bool false),(21,91,NV 1),(22,92,NV 1),(23,93,.bool false),(24,94,.bool false)] [] [] [] ?_ ?_
   ·exact oc g_mv<|oc (g_bn (fun uZ=>neq_i _ _ _ 0 0 _ uZ rfl))<|oc g_mv<|oc g_mv<|oc (g_bn (fun uZ=>neq_i _ _ _ 0 0 _ uZ rfl))<|oc g_pk<|oc g_mv<|oc g_mv<|oc (g_ln Tryz.underlying25)<|oc g_mv<|oc (g_ln Tryz.underlying25)<|oc (g_bn (fun uZ=>neq_i _ _ _ ((l1:Nat):Int) ((i:Nat):Int) _ uZ hc1))<|oc g_pk<|oc g_mv<|oc g_mv<|oc (g_ln Tryz.underlying25)<|oc g_mv<|oc (g_ln Tryz.underlying25)<|oc (g_bn (fun uZ=>neq_i _ _ _ ((l2:Nat):Int) ((i:Nat):Int) _ uZ hc2))<|oc g_pk<|oc g_mv<|oc (g_ld 1 uN iN)<|oc (g_cl Z5 (fun uZ=>Zq 1 uZ (by omega) (by omega)))<|oc (g_bn (fun uZ=>neq_n _ _ In_1 In_1 false (by decide) uZ))<|oc g_pk on
   intro u8 HB8 sz8 K8
   simp only[sQ] at K8⊢
   go_upto_region 15 with fail
   refine rgP K8 HB8 HB8.size [] [] [(0,19,(Go.Value.int Go.IntKind.i64 0))] [] [] [] ?_ ?_
   ·exact oc g_as on
   intro u9 HB9 sz9 K9
   simp only[sQ] at K9⊢
   clear K8 HB8
   have hEnd:Hid (Bw w u7):=hT7
   go_wp2_with fail
   go_loopw [19] (fun s19 wr=> ∃j:Nat,j<=l2/\s19= .int .i64 (j:Int)/\Bw u7 wr) (fun s19 _=>l2 -(intOf s19).toNat)
   case atStart=>exact⟨0,by omega,rfl,HB9⟩
   case round=>
    obtain⟨j,hjl,rfl,HBs⟩:=hrel
    by_cases hj2:j<l2
    ·have hl:decide ((j:Int)<((l2:Nat):Int))=true:=by simp;omega
     have hjo:j<out.length:=by have:=hl2i.out;omega
     obtain⟨hRj,hbg⟩:=nl_at n2_7 (by rw[el2.out];exact hj2)
     have hXj:=ixS bg 0 l2 l2 j hj2
     have hXj:Hid _:=hXj
     have hv:(fac OQ (out.getD kk 0) out vs).getD j 0=if j=kk then 1 else 0:=atN 581039633 (by decide) hvs hjo hkk
     rw[ezk] at hv
     have hRj:Hid (u7.rangeAt bg (0+4*j) (LN (if j=kk then 1 else 0))):=by rw[<-hv];exact hRj
     have e1:IntKind.i64.wrap ((j:Int)+1)=((j+1:Nat):Int):=by rw[IntKind.wrap_i64];omega
     clear hv
     by_cases hjk:j=kk
     ·rw[if_pos hjk] at hRj
      have hqe:(((j:Nat):Int)==((kk:Nat):Int))=true:=by simp;omega
      clear hjk
      have K9_4:=Bk.nil (u7.heap.size) wr
      go_upto_region 16 with fail
      refine rgP K9_4 HBs HBs.size [] [] [(0,95,.int .i64 (j:Int)),(1,96,.slice (some ⟨bg,0,none⟩) l2 l2),(2,97,.int .i64 ((l2:Nat):Int)),(3,98,.bool true)] [] [] [] ?_ ?_
      ·exact oc g_mv<|oc g_mv<|oc (g_ln Tryz.underlying25)<|oc (g_bn (fun uZ=>Zp _ _ (j:Int) ((l2:Nat):Int) _ uZ hl)) on
      intro u10 HB10 sz10 K10
      simp only[sQ] at K10⊢
      go_upto_region 18 with fail
      refine rgP K10 HB10 HB10.size [] [(1,20,L0s,some (2,[.int .u64 (0),.int .u64 (0),.int .u64 (0),.int .u64 (0)]))] [(0,101,A4 (0) (0) (0) (0))] [(2,1)] [] [] ?_ ?_
      ·exact oc (g_bd zN)<|oc (g_al 0 aN)<|oc (g_sn 0 iN) on
      intro u11 b11_1 HB11 sz11 K11
      simp only[sQ] at K11⊢
      clear K10 HB10
      go_upto_region 19 with fail
      refine rgP K11 HB11 HB11.size [] [] [(0,102,.int .i64 (j:Int)),(1,103,.int .i64 (kk:Int)),(2,104,.bool true)] [] [] [] ?_ ?_
      ·exact oc g_mv<|oc g_mv<|oc (g_bn (fun uZ=>eql_i _ _ _ ((j:Nat):Int) ((kk:Nat):Int) _ uZ hqe)) on
      intro u12 HB12 sz12 K12
      simp only[sQ] at K12⊢
      clear K11 HB11
      go_upto_region 20 with fail
      refine rgP K12 HB12 HB12.size [.all 1 (LN 1)] [] [(0,105,NV 1)] [] [] [] ?_ ?_
      ·exact oc (g_cl Z5 (fun uZ=>Zq 1 uZ (by omega) (by omega)))<|oc (g_st 0 iN) on
      intro u13 HB13 sz13 K13
      simp only[sQ] at K13⊢
      clear K12 HB12
      go_upto_region 21 with fail
      refine rgD K13 HB13 HB13.size [] [] [(0,106,.slice (some ⟨bg,0,none⟩) l2 l2),(1,107,.int .i64 (j:Int)),(2,108,.pointer (some ⟨bg,0+4*j,none⟩)),(3,109,NV 1),(4,110,NV 1),(5,111,.bool false)] [] [] [] ?_ ?_
      ·exact oc g_mv<|oc g_mv<|oc (g_ix (fun uZ=>hXj.out uZ))<|oc (g_lf hRj.out hbg uN iN)<|oc (g_ld 0 uN iN)<|oc (g_bn (fun uZ=>neq_n _ _ In_1 In_1 false (by decide) uZ)) on
      intro u14 HB14 sz14 K14
      simp only[sQ] at K14⊢
      clear K13 HB13
      go_upto_region 17 with fail
      refine rgP K14 HB14 HB14.size [] [] [(0,99,.int .i64 (j:Int)),(1,100,.int .i64 ((j+1:Nat):Int)),(2,19,.int .i64 ((j+1:Nat):Int))] [(2,0)] [(2,19)] [] ?_ ?_
      ·exact oc g_mv<|oc (g_bn (fun uZ=>X9 _ _ (j:Int) 1 ((j+1:Nat):Int) uZ (by omega) (by omega) (by omega)))<|oc g_as on
      intro u15 HB15 sz15 K15
      simp only[sQ] at K15⊢
      clear K14 HB14
      go_wp2
      refine⟨⟨j+1,by omega,rfl,HB15⟩,?_⟩
      simp[intOf]<;>omega
     ·rw[if_neg hjk] at hRj
      have hqe:(((j:Nat):Int)==((kk:Nat):Int))=false:=by simp;omega
      clear hjk
      have K9_4:=Bk.nil (u7.heap.size) wr
      go_upto_region 16 with fail
      refine rgP K9_4 HBs HBs.size [] [] [(0,95,.int .i64 (j:Int)),(1,96,.slice (some ⟨bg,0,none⟩) l2 l2),(2,97,.int .i64 ((l2:Nat):Int)),(3,98,.bool true)] [] [] [] ?_ ?_
      ·exact oc g_mv<|oc g_mv<|oc (g_ln Tryz.underlying25)<|oc (g_bn (fun uZ=>Zp _ _ (j:Int) ((l2:Nat):Int) _ uZ hl)) on
      intro u10 HB10 sz10 K10
      simp only[sQ] at K10⊢
      go_upto_region 18 with fail
      refine rgP K10 HB10 HB10.size [] [(1,20,L0s,some (2,[.int .u64 (0),.int .u64 (0),.int .u64 (0),.int .u64 (0)]))] [(0,101,A4 (0) (0) (0) (0))] [(2,1)] [] [] ?_ ?_
      ·exact oc (g_bd zN)<|oc (g_al 0 aN)<|oc (g_sn 0 iN) on
      intro u11 b11_1 HB11 sz11 K11
      simp only[sQ] at K11⊢
      clear K10 HB10
      go_upto_region 19 with fail
      refine rgP K11 HB11 HB11.size [] [] [(0,102,.int .i64 (j:Int)),(1,103,.int .i64 (kk:Int)),(2,104,.bool false)] [] [] [] ?_ ?_
      ·exact oc g_mv<|oc g_mv<|oc (g_bn (fun uZ=>eql_i _ _ _ ((j:Nat):Int) ((kk:Nat):Int) _ uZ hqe)) on
      intro u12 HB12 sz12 K12
      simp only[sQ] at K12⊢
      clear K11 HB11
      go_upto_region 21 with fail
      refine rgD K12 HB12 HB12.size [] [] [(0,106,.slice (some ⟨bg,0,none⟩) l2 l2),(1,107,.int .i64 (j:Int)),(2,108,.pointer (some ⟨bg,0+4*j,none⟩)),(3,109,NV 0),(4,110,.agg #[.int .u64 (0),.int .u64 (0),.int .u64 (0),.int .u64 (0)]),(5,111,.bool false)] [] [] [] ?_ ?_
      ·exact oc g_mv<|oc g_mv<|oc (g_ix (fun uZ=>hXj.out uZ))<|oc (g_lf hRj.out hbg uN iN)<|oc (g_ld 0 uN iN)<|oc (g_bn (fun uZ=>neq_z _ _ uZ)) on
      intro u13 HB13 sz13 K13
      simp only[sQ] at K13⊢
      clear K12 HB12
      go_upto_region 17 with fail
      refine rgP K13 HB13 HB13.size [] [] [(0,99,.int .i64 (j:Int)),(1,100,.int .i64 ((j+1:Nat):Int)),(2,19,.int .i64 ((j+1:Nat):Int))] [(2,0)] [(2,19)] [] ?_ ?_
      ·exact oc g_mv<|oc (g_bn (fun uZ=>X9 _ _ (j:Int) 1 ((j+1:Nat):Int) uZ (by omega) (by omega) (by omega)))<|oc g_as on
      intro u14 HB14 sz14 K14
      simp only[sQ] at K14⊢
      clear K13 HB13
      go_wp2
      refine⟨⟨j+1,by omega,rfl,HB14⟩,?_⟩
      simp[intOf]<;>omega
    ·have hl:decide ((j:Int)<((l2:Nat):Int))=false:=by simp;omega
     have K9_4:=Bk.nil (u7.heap.size) wr
     go_upto_region 16 with fail
     refine rgP K9_4 HBs HBs.size [] [] [(0,95,.int .i64 (j:Int)),(1,96,.slice (some ⟨bg,0,none⟩) l2 l2),(2,97,.int .i64 ((l2:Nat):Int)),(3,98,.bool false)] [] [] [] ?_ ?_
     ·exact oc g_mv<|oc g_mv<|oc (g_ln Tryz.underlying25)<|oc (g_bn (fun uZ=>Zp _ _ (j:Int) ((l2:Nat):Int) _ uZ hl)) on
     intro u10 HB10 sz10 K10
     simp only[sQ] at K10⊢
     go_upto_region 23 with fail
     refine rgP K10 HB10 HB10.size [] [] [(0,8,(Go.Value.bool Bool.true))] [] [] [] ?_ ?_
     ·exact oc g_as on
     intro u11 HB11 sz11 K11
     simp only[sQ] at K11⊢
     clear K10 HB10
     go_wp2
     exact bodyPost_ret (v:= .bool true) (by simp[results,Tryz.results4,go_sem]) rfl ⟨rfl,Z4 hEnd.out HB11⟩
theorem polyFactors_any(t nn wh:Int)(sl:Option Addr)(L cap gl ol:Nat)(f:Nat->Int)(w:World)(hG:GP w)(ht:In t)(hnn: -9223372036854775808<=nn/\nn<9223372036854775808)(hwh: -9223372036854775808<=wh/\wh<9223372036854775808)(hL:L<=9223372036854775807)(hsl:0<L->sl=some ⟨gl,ol,none⟩/\gl<w.heap.size)(hc: ∀j,j<L->w.cell? ⟨gl,ol+j,none⟩=some (.int .i64 (f j)))(hf: ∀j,j<L-> -9223372036854775808<=f j/\f j<9223372036854775808):
 CC 4 #[.slice sl L cap,.int .i64 nn,NV t,.int .i64 wh] w (.bool true):=by
 obtain⟨k9,hk9,hA⟩:=among_any nn 9 (by omega) (by omega) hnn
 obtain⟨kk,hkk,hA2⟩:=among_any wh ((1+k9:Nat):Int) (by omega) (by omega) hwh
 exact Xh t nn wh sl L cap (1+k9) k9 kk w hG ht rfl (by omega) (by omega) (fun u hB=>cWorks u (hG.below hB)) hA hA2 (cApart sl L cap gl ol (1+k9) f w (by omega) hL hsl hc hf)
end
section
open Go.ChangeShapes Go.WideShapes Go.ChangeAt Go.RowKit
theorem Tryz.cells24:Tryz.prog.cellsOf 24=4:=by kernel_rfl
theorem Tryz.cells22:Tryz.prog.cellsOf 22=1:=by kernel_rfl
theorem Yl{x:Int}(h:(Lit.int .u64 x).wf=true):W64 x:=by
 simp[Lit.wf,IntKind.min,IntKind.max,IntKind.signed,IntKind.bits] at h
 exact⟨by omega,by omega⟩
abbrev N4{H:Type}(a b c d:Int):DataW H:= .agg [.lit (.int .u64 a),.lit (.int .u64 b),.lit (.int .u64 c),.lit (.int .u64 d)]
theorem open_nat{H:Type}{enc:TypeId×Value->H}{W:World}{bs base:Nat}{sp:Nat->Bool}{held:Bool}{v:Value}{x:DataW H}{p:List MemPlace}
 (hv:Value.okWide Tryz.prog W .any base 24 v)(h:DataW.Trod enc Tryz.prog W bs sp held 24 v x p):
 ∃a b c d:Int,v=A4 a b c d/\x=N4 a b c d/\p=[]/\W64 a/\W64 b/\W64 c/\W64 d:=by
 obtain⟨cs,rfl,hsz,_⟩: ∃cs,v= .agg cs/\cs.size=Tryz.prog.cellsOf 24/\Row.okWide Tryz.prog W .any base 24 cs:=by
  simpa [Value.okWide,Tryz.underlying24] using hv
 rw[Tryz.cells24] at hsz
 obtain⟨c0,c1,c2,c3,rfl⟩:=Go.Joins.array4 hsz
 obtain⟨fuel,hf⟩:=h
 obtain⟨y0,y1,y2,y3,m,hx,hy0,hy1,hy2,hy3⟩:=trod_array4 Tryz.underlying24 Tryz.cells22 hf
 obtain⟨x0,e0,rfl,w0⟩:=DataW.trod_int Tryz.underlying22 hy0
 obtain⟨x1,e1,rfl,w1⟩:=DataW.trod_int Tryz.underlying22 hy1
 obtain⟨x2,e2,rfl,w2⟩:=DataW.trod_int Tryz.underlying22 hy2
 obtain⟨x3,e3,rfl,w3⟩:=DataW.trod_int Tryz.underlying22 hy3
 simp at e0 e1 e2 e3
 subst e0 e1 e2 e3
 simp only[Prod.mk.injEq] at hx
 obtain⟨rfl,rfl⟩:=hx
 exact⟨x0,x1,x2,x3,rfl,rfl,rfl,Yl w0,Yl w1,Yl w2,Yl w3⟩
section
section
variable {H:Type} {enc:TypeId×Value->H} {P:Program} {w:World} {base:Nat} {spare:Nat->Bool} {held:Bool}
end
end
end
end Go.Proofs.YtgieoghechekpaaGreatDoor
