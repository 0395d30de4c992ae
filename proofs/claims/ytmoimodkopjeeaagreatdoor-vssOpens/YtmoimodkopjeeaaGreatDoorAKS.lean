import Derived.Test.YtmoimodkopjeeaaGreatDoorAK6
namespace Go.Proofs.YtmoimodkopjeeaaGreatDoor
set_option linter.unusedVariables false
set_option linter.unusedSimpArgs false
set_option maxRecDepth 100000
set_option maxHeartbeats 4000000
section
open Go.RowKit
theorem GP.gt{w:World}(h:GP w):GT w:=⟨by have:=h.sz;omega,h.tab⟩
theorem vOK{w:World}(hG:GP w):VOK w where
 share:=fun u hB p q g h nd ss ts v v2 hp hq _ _ _ hv hv2 hs ht _ _=>vShare p q g h nd ss ts v v2 u (hG.below hB) hp hq hv hv2 hs ht
 deal:=fun u hB p q g h d ss ts v v2 hp hq hg hh _ hv hv2 hs ht _ _=>vDeal p q g h d ss ts v v2 u (hG.below hB).gt hp hq hg hh hv hv2 hs ht
 check:=fun u hB p q g h d ns v hp hq _ _ _ hv hns hl=>vCheck p q g h d ns v u (hG.below hB).gt hp hq hv hns (by omega)
 verify:=fun u hB p q g h d nd s t ns v hp hq hg hh _ _ hs ht hv hns hl=>vVerify p q g h d nd s t ns v u (hG.below hB).gt hp hq hg hh hs ht hv hns hl
theorem op_len{l:List (Int×Int×Int)}:(opS l).length=l.length/\(opT l).length=l.length:=⟨by simp[opS],by simp[opT]⟩
theorem op_fst{l:List (Int×Int×Int)}:(opS l).map Prod.fst=l.map (·.1)/\(opT l).map Prod.fst=l.map (·.1):=⟨by simp[opS,Function.comp_def],by simp[opT,Function.comp_def]⟩
theorem op_In{l:List (Int×Int×Int)}(h: ∀x∈l,(1<=x.1/\x.1<=16)/\In x.2.1/\In x.2.2):(∀p∈opS l,In p.1/\In p.2)/\ ∀p∈opT l,In p.1/\In p.2:=by
 constructor<;>intro p hp
 ·obtain⟨x,hx,rfl⟩:=List.mem_map.1 hp
  exact⟨⟨by have:=(h x hx).1;omega,by have:=(h x hx).1;show x.1<_;omega⟩,(h x hx).2.1⟩
 ·obtain⟨x,hx,rfl⟩:=List.mem_map.1 hp
  exact⟨⟨by have:=(h x hx).1;omega,by have:=(h x hx).1;show x.1<_;omega⟩,(h x hx).2.2⟩
end
section
open Go.ChangeShapes Go.WideShapes Go.ChangeAt Go.RowKit
theorem Tryz.cells35:Tryz.prog.cellsOf 35=9:=by kernel_rfl
theorem int_of{x:Int}(h:(Lit.int .i64 x).wf=true): -9223372036854775808<=x/\x<9223372036854775808:=by
 simp[Lit.wf,IntKind.min,IntKind.max,IntKind.signed,IntKind.bits] at h;omega
end
section
section
def tpN(q t:Int)(ns:List Int)(i:Nat):Nat->Int
 | 0=>1
 | j+1=>if j=i then tpN q t ns i j else (tpN q t ns i j*((t -ns.getD j 0)%q))%q
theorem tpN_In{q t:Int}{ns:List Int}{i:Nat}(hq:In q)(hq0:q≠0): ∀j,In (tpN q t ns i j)
 | 0=>In_1
 | j+1=>by rw[tpN];split;exact tpN_In hq hq0 j;exact Zi hq hq0
theorem ds_tp{q:Int}{ns:List Int}{i:Nat}: ∀j,dsN q ns i j=tpN q (ns.getD i 0) ns i j
 | 0=>rfl
 | j+1=>by rw[dsN,tpN,ds_tp j]
section ring
variable {R:Type} [Lean.Grind.CommRing R] (p:Nat) [Lean.Grind.IsCharP R p]
theorem cR_tp{xs:List Int}{i:Nat}(t:Int): ∀j,(cR (tpN p t xs i j):R)=if j<=i then preR xs j (cR t) else preR xs i (cR t)*mdR xs (cR t) (i+1) (j -(i+1))
 | 0=>by rw[tpN,if_pos (Nat.zero_le _),preR,cR_1]
 | j+1=>by
  rw[tpN]
  by_cases e:j=i
  ·rw[if_pos e,cR_tp t j,if_pos (by omega),if_neg (by omega),e,Nat.sub_self,mdR];grind
  ·rw[if_neg e,W4,U3,W4,cR_sub,cR_tp t j]
   by_cases h:j<=i
   ·rw[if_pos h,if_pos (by omega),preR]
   ·rw[if_neg h,if_neg (by omega),show j+1 -(i+1)=(j -(i+1))+1 by omega,mdR,show i+1+(j -(i+1))=j by omega];grind
theorem cR_tpt{xs vs:List Int}(hl:vs.length=xs.length){i:Nat}(hi:i<xs.length)(t:Int):(cR (tpN p t xs i xs.length):R)=preR xs i (cR t)*pP (cR t) (sfx xs vs (i+1)):=by
 rw[cR_tp p,if_neg (by omega),<-mdR_sfx hl (cR t) (i+1) (xs.length -(i+1)) (by omega),show i+1+(xs.length -(i+1))=xs.length by omega,sfx_end hl,pP];grind
end ring
theorem facR(p:Nat)[NeZero p]{xs vs:List Int}(hl:vs.length=xs.length)(t:Int){i:Nat}(hi:i<xs.length):(tpN p t xs i xs.length*vs.getD i 0)%(p:Int)=(fac p t xs vs).getD i 0:=by
 have hp0:0<p:=Nat.pos_of_ne_zero (NeZero.ne p)
 have e1:=cR_fac (R:=Fin p) p hl t hi
 rw[<-cR_tpt p hl hi t,<-U3,cR_ext p] at e1
 have r1:=fac_rng (q:=p) (by omega) (t:=t) (xs:=xs) (vs:=vs) hi
 rw[Int.emod_eq_of_lt r1.1 r1.2] at e1
 rw[e1,Int.mul_comm]
def frS(q t:Int)(ns vs:List Int):List Int:=tab ns.length fun i=>(tpN q t ns i ns.length*vs.getD i 0)%q
theorem frS_fac{q t:Int}{ns vs:List Int}(hq:0<q)(hl:vs.length=ns.length):frS q t ns vs=fac q t ns vs:=by
 obtain⟨p,rfl⟩: ∃p:Nat,q=(p:Int):=⟨q.toNat,by omega⟩
 haveI:NeZero p:=⟨by omega⟩
 refine List.ext_getElem (by rw[frS,W6,fac_len]) fun i h1 h2=>?_
 rw[frS,W6] at h1
 have e:=facR p hl t h1
 have e2:(frS (p:Int) t ns vs).getD i 0=(fac p t ns vs).getD i 0:=by rw[<-e,frS,Xg h1]
 simpa [List.getElem?_eq_getElem h2,List.getElem?_eq_getElem (show i<(frS (p:Int) t ns vs).length by rw[frS,W6];exact h1)] using e2
def alG(q:Int)(ns:List Int):Bool:=decide (∀i,i<ns.length->gI q (dsN q ns i ns.length%q)=1)
theorem gd_vs{q:Int}(hq:0<q)(ns:List Int): ∃vs:List Int,vs.length=ns.length/\ ∀i,i<ns.length->gI q (dsN q ns i ns.length%q)=1->IsInv (dsN q ns i ns.length%q) q (vs.getD i 0):=
 list_of2 (p:=fun i z=>gI q (dsN q ns i ns.length%q)=1->IsInv (dsN q ns i ns.length%q) q z) ns.length fun i hi=>by
  by_cases h:gI q (dsN q ns i ns.length%q)=1
  ·obtain⟨x,hx⟩:=IsInv.ex (Int.emod_nonneg _ (by omega)) (Int.emod_lt_of_pos _ hq) h
   exact⟨x,fun _=>hx⟩
  ·exact⟨0,fun e=>absurd e h⟩
end
end
section
open Go.RowKit
theorem bsQ1(x:Int)(w:World):(Instr.buildSlice 27 1 #[(0,NV x)]).run Tryz.prog w= .ok (.slice (some ⟨w.heap.size,0,none⟩) 1 1) (w.alloc (.cells (LN x:List Value).toArray 24)):=by kernel_rfl
theorem app_nq{u:World}{bo m co:Nat}{ns:List Int}{zs:List Value}{x:Int}{ty:TypeId}(hc:CV u bo (flN ns++zs))(hb:bo<u.heap.size)(hm:ns.length=m)(hmc:m<=co)(hz:zs.length=4*(co -m))(hl:m<=1000000):
 ∃v u',(Builtin.append_ #[27,27] ty #[.slice (some ⟨bo,0,none⟩) m co,.slice (some ⟨u.heap.size,0,none⟩) 1 1]).run Tryz.prog (u.alloc (.cells (LN x:List Value).toArray 24))= .ok v u'/\(u.alloc (.cells (LN x:List Value).toArray 24)).grownBy u' (some bo)/\PH (u.alloc (.cells (LN x:List Value).toArray 24)).heap.size bo 4 (m+1) (flN (ns++[x])) u' v:=by
 obtain⟨ti,hti,htm⟩:=Option.map_eq_some_iff.1 infoNt
 simp only[Prod.mk.injEq] at htm
 obtain⟨hzv,hsz,hby⟩:=htm
 have hss:u.heap.size<=(u.alloc (.cells (LN x:List Value).toArray 24)).heap.size:=by simp
 obtain⟨v',u',hr,hg,hp⟩:=Vh (P:=Tryz.prog) (u.alloc (.cells (LN x:List Value).toArray 24)) (ty:=ty) Tryz.underlying27 hti hzv (by rw[hsz];rfl) (base:=(u.alloc (.cells (LN x:List Value).toArray 24)).heap.size) (n:=m) (cap:=co) (m:=1) (news:=LN x) (y:= .slice (some ⟨u.heap.size,0,none⟩) 1 1) (hc.below (Z1 (Z5 u) _) hb) (Nat.lt_of_lt_of_le hb hss) (by rw[hsz,Wb];omega) (by rw[hsz];omega) hmc (Nat.le_refl _) ⟨_,1,rfl,.inr ⟨_,rfl,fun j v hj=>by
  have:=(CV.new u (LN x) 24 j v hj).1
  rw[Addr.add0];exact this⟩⟩ (by rw[hsz];rfl) (fun v hv=>by simp at hv;rcases hv with h | h | h | h<;>(subst h;rfl)) (by rw[hby];omega) (by omega)
 rw[hsz] at hp
 rw[show flN ns++LN x=flN (ns++[x]) by rw[Wc];simp[flN]] at hp
 exact⟨v',u',hr,hg,hp⟩
theorem nl_rq{u:World}{b m c:Nat}{ns:List Int}{zs:List Value}(hb:b<u.heap.size)(h:CV u b (flN ns++zs))(hm:ns.length=m)(hc:m<=c):NL u (.slice (some ⟨b,0,none⟩) m c) ns:=by
 subst hm
 refine⟨_,b,0,c,rfl,hc,(by simp),.inr rfl,.inr hb,fun j v hj=>?_⟩
 rw[Nat.zero_add]
 exact(h j v (by rw[List.getElem?_append_left (List.getElem?_eq_some_iff.1 hj).1];exact hj)).1
theorem bsQ0(w:World):(Instr.buildSlice 27 0 #[]).run Tryz.prog w= .ok (.slice (some ⟨w.heap.size,0,none⟩) 0 0) (w.alloc (.cells #[] 24)):=by kernel_rfl
def FRw(lo:Nat)(r:Int)(fs:List Int)(u:World)(y:Value):Prop:=(∃s n c,y= .slice s n c)/\(r=0-> ∃b co zs,y= .slice (some ⟨b,0,none⟩) fs.length co/\lo<=b/\b<u.heap.size/\fs.length<=co/\CV u b (flN fs++zs))
theorem ent_W1:EnT 70:=fun _ _=>by kernel_rfl
theorem ent_W2:EnT 71:=fun _ _=>by kernel_rfl
theorem ent_W3:EnT 109:=fun _ _=>by kernel_rfl
theorem ent_W4:EnT 49:=fun _ _=>by kernel_rfl
theorem ent_W5:EnT 110:=fun _ _=>by kernel_rfl
theorem xfac_n(q t:Int)(sl:Option Addr)(cap:Nat)(ns:List Int)(w:World)(hRi:Hid (∀u,CC 70 #[NV q] u (.bool true)))(hMa:Hid (∀u,CC 71 #[iI (ns.length:Int)] u (.bool false))):
 CC 80 #[NV q,NV t,.slice sl ns.length cap] w (.tuple #[.slice none 0 0,iI 2]):=by
 go_enter Tryz.func80,Tryz.ntmps80
 go_upto_region 1 with fail
 obtain⟨v0,hC,HB0,K0⟩:=bx2 w (LN q) 24 (LN t) 24
 rw[hC]
 clear hC
 apply Rn K0 HB0 [(0,21,_),(1,22,_),(2,23,_),(3,24,_),(4,25,_),(5,26,_),(6,27,_),(7,28,_),(8,29,_)]
 ·exact oc (g_ld 0 uN iN)<|oc (g_cl ent_W1 hRi.out)<|oc (g_un Vj)<|oc g_mv<|oc g_mv<|oc (g_ln Tryz.underlying27)<|oc (g_cl ent_W2 hMa.out)<|oc (g_un Ue)<|oc g_pk on
 intro u1 HB1 sz1 K1
 simp only[sQ] at K1⊢
 go_upto_region 2 with fail
 apply Rn K1 HB1 [(0,6,_),(1,7,_)]
 ·exact oc g_as<|oc g_as on
 intro u2 HB2 sz2 K2
 simp only[sQ] at K2⊢
 go_wp2
 refine bodyPost_ret (v:= .tuple #[.slice none 0 0,iI 2]) (by simp[results,Tryz.results80,go_sem,]) rfl ⟨rfl,HB2⟩
theorem xfac_core(q t r:Int)(sl:Option Addr)(gb go cap:Nat)(ns vs fs:List Int)(w:World)(hq:In q)(hq0:q≠0)(ht:In t)(hRi:Hid (∀u,CC 70 #[NV q] u (.bool true)))(hMa:Hid (∀u,CC 71 #[iI (ns.length:Int)] u (.bool true)))(hix:Hid (∀j,j<ns.length-> ∀W,(Instr.indexAt 27 (.slice sl ns.length cap) (iI j)).run Tryz.prog W= .ok (.pointer (some ⟨gb,go+4*j,none⟩)) W))(hg:ns.length=0\/gb<w.heap.size)(hS:Hid (SN w gb go ns))(hn:Hid (∀k,k<ns.length->In (ns.getD k 0)))(hns:ns.length<=1000)(hfl:Hid (fs.length=ns.length))(hfs:Hid (∀i,i<ns.length->fs.getD i 0=(tpN q t ns i ns.length*vs.getD i 0)%q))(hvs:Hid (∀i,i<ns.length->gI q (dsN q ns i ns.length%q)=1->IsInv (dsN q ns i ns.length%q) q (vs.getD i 0)))(hno:Hid (∀i,i<ns.length-> ¬gI q (dsN q ns i ns.length%q)=1->r=100))(hyes:Hid ((∀i,i<ns.length->gI q (dsN q ns i ns.length%q)=1)->r=0)):
 Calls Tryz.prog 80 #[NV q,NV t,.slice sl ns.length cap] w fun e' w'=> ∃y,e'= .returned (.tuple #[y,iI r])/\FRw w.heap.size r fs w' y/\Bw w w':=by
 go_enter Tryz.func80,Tryz.ntmps80
 go_upto_region 1 with fail
 obtain⟨v0,hC,HB0,K0⟩:=bx2 w (LN q) 24 (LN t) 24
 rw[hC]
 clear hC
 apply Rn K0 HB0 [(0,21,_),(1,22,_),(2,23,_),(3,24,_),(4,25,_),(5,26,_),(6,27,_),(7,28,_),(8,29,_)]
 ·exact oc (g_ld 0 uN iN)<|oc (g_cl ent_W1 hRi.out)<|oc (g_un Vj)<|oc g_mv<|oc g_mv<|oc (g_ln Tryz.underlying27)<|oc (g_cl ent_W2 hMa.out)<|oc (g_un Vj)<|oc g_pk on
 intro u1 HB1 sz1 K1
 simp only[sQ] at K1⊢
 have hnK1:=K1.n
 simp at hnK1
 have hT1:Bw w u1:=Zg (Below.refl w.heap.size w) HB1
 have HBz1:Bw u1 u1:=Below.refl _ _
 have hbs:=bsQ0
 have hb1:=bsQ1
 go_wp2_with fail
 go_loopw [9,8] (fun s9 s8 wr=> ∃(i bo co:Nat) (zs:List Value),i<=ns.length/\s9=iI (i:Int)/\s8= .slice (some ⟨bo,0,none⟩) i co/\i<=co/\zs.length=4*(co -i)/\u1.heap.size<=bo/\bo<wr.heap.size/\Hid (CV wr bo (flN (fs.take i)++zs))/\Bw u1 wr/\Hid (∀j,j<i->gI q (dsN q ns j ns.length%q)=1)) (fun s9 _ _=>ns.length -(intOf s9).toNat)
 case atStart=>exact⟨0,u1.heap.size,0,[],by omega,rfl,rfl,by omega,rfl,Nat.le_refl _,by simp,(fun j v h=>by simp[flN] at h),Z1 (Z5 u1) _,fun j hj=>by omega⟩
 case round=>
  obtain⟨i,bo,co,zs,hi,rfl,rfl,hic,hzl,hlo,hlt,KV,HBr,hpo⟩:=hrel
  obtain⟨wo,rfl⟩: ∃x,x=wr:=⟨_,rfl⟩
  have Kq:CV wo w.heap.size (LN q):=CV.below (K1.cv 0) HBr (K1.lt 0)
  have lq_:w.heap.size<wo.heap.size:=Nat.lt_of_lt_of_le (K1.lt 0) HBr.size
  have Kt:CV wo (w.heap.size+1) (LN t):=CV.below (K1.cv 1) HBr (K1.lt 1)
  have lt_:w.heap.size+1<wo.heap.size:=Nat.lt_of_lt_of_le (K1.lt 1) HBr.size
  have hTw:Bw w wo:=Zg hT1 HBr
  have HBw:Bw wo wo:=Below.refl _ _
  have hSo:Hid (SN wo gb go ns):=SN.below2 hS.out hTw hg
  have hgo:ns.length=0\/gb<wo.heap.size:=hg.imp id fun e=>Nat.lt_of_lt_of_le e hTw.size
  by_cases hj:i<ns.length
  ·have hl:decide ((i:Int)<(ns.length:Int))=true:=by simp;omega
   have hXi:=hix.out _ hj
   have hXi:Hid _:=hXi
   have hRi':=hSo.out.at _ hj
   have hRi':Hid _:=hRi'
   have hg':=hgo.resolve_left (by omega)
   have ixi:=hn.out i hj
   have hds:=ds_tp (q:=q) (ns:=ns) (i:=i) ns.length
   have hfk:=hfs.out i hj
   have hvk:=hvs.out i hj
   have hnk:=hno.out i hj
   have hp1:Hid (gI q (dsN q ns i ns.length%q)=1-> ∀j,j<i+1->gI q (dsN q ns j ns.length%q)=1):=fun e j hjk=>by
    by_cases ej:j=i
    ·subst ej;exact e
    ·exact hpo.out j (by omega)
   rw[hds] at hvk hnk hp1
   clear hds
   obtain⟨x,ex⟩: ∃x,ns.getD i 0=x:=⟨_,rfl⟩
   rw[ex] at hRi' ixi hvk hnk hp1
   clear ex
   have hvk:Hid _:=hvk
   have hnk:Hid _:=hnk
   have hfk:Hid _:=hfk
   have K1_1:Bk wo.heap.size wo [(false,w.heap.size,LN q),(false,w.heap.size+1,LN t)]:=⟨.c lq_ Kq<| .c lt_ Kt<|trivial,by simp<;>omega⟩
   go_upto_region 5 with fail
   apply Rn K1_1 HBw [(0,31,_),(1,32,_),(2,33,_),(3,34,_)]
   ·exact oc g_mv<|oc g_mv<|oc (g_ln Tryz.underlying27)<|oc (g_bn (fun uZ=>Z6 _ _ (i:Int) (ns.length:Int) _ uZ hl)) on
   intro u2 HB2 sz2 K2
   simp only[sQ] at K2⊢
   go_upto_region 7 with fail
   apply Rp K2 HB2 [] [(2,10,L0s,some (4,LN 1)),(3,11,L0s,some (5,LN 1))] [(0,37,_),(1,38,_)] [(4,2),(5,3)] [] []
   ·exact oc (g_bd (fun uZ=>bdNk 1 (by omega) (by omega) uZ))<|oc (g_bd (fun uZ=>bdNk 1 (by omega) (by omega) uZ))<|oc (g_al 0 aN)<|oc (g_al 1 aN)<|oc (g_sn 0 iN)<|oc (g_sn 1 iN) on
   intro u3 b3_2 b3_3 HB3 sz3 K3
   simp only[sQ] at K3⊢
   go_upto_region 8 with fail
   apply Rn K3 HB3 [(0,12,_)]
   ·exact oc g_as on
   intro u4 HB4 sz4 K4
   simp only[sQ] at K4⊢
   go_wp2_with fail
   go_loopw [12] (fun s12 wr=> ∃(m:Nat),m<=ns.length/\s12=iI (m:Int)/\Bw wo wr/\CV wr (w.heap.size) (LN q)/\w.heap.size<wr.heap.size/\CV wr (w.heap.size+1) (LN t)/\w.heap.size+1<wr.heap.size/\CV wr b3_2 (LN (tpN q t ns i m))/\b3_2<wr.heap.size/\CV wr b3_3 (LN (tpN q x ns i m))/\b3_3<wr.heap.size) (fun s12 _=>ns.length -(intOf s12).toNat)
   case atStart=>exact⟨0,by omega,rfl,HB4,(K4.cv 0),(K4.lt 0),(K4.cv 1),(K4.lt 1),(K4.cv 2),(K4.lt 2),(K4.cv 3),(K4.lt 3)⟩
   case round=>
    obtain⟨m,hm,rfl,HBs,D0,lD0,D1,lD1,D2,lD2,D3,lD3⟩:=hrel
    have hnK:=K4.n
    simp at hnK
    have hoK2:=K4.lo 2
    have hoK3:=K4.lo 3
    by_cases hjm:m<ns.length
    ·have hl2:decide ((m:Int)<(ns.length:Int))=true:=by simp;omega
     by_cases emi:m=i
     ·have he:((m:Int)==(i:Int))=true:=by rw[beq_iff_eq];omega
      have ha:Hid (tpN q t ns i (m+1)=tpN q t ns i m):=if_pos emi
      have hb:Hid (tpN q x ns i (m+1)=tpN q x ns i m):=if_pos emi
      clear emi
      have K4_2:Bk wo.heap.size wr [(false,w.heap.size,LN q),(false,w.heap.size+1,LN t),(true,b3_2,LN (tpN q t ns i m)),(true,b3_3,LN (tpN q x ns i m))]:=⟨.c lD0 D0<| .c lD1 D1<| .o lD2 (K4.lo 2) D2<| .o lD3 (K4.lo 3) D3<|trivial,by simp<;>omega⟩
      go_upto_region 9 with fail
      apply Rn K4_2 HBs [(0,39,_),(1,40,_),(2,41,_),(3,42,_)]
      ·exact oc g_mv<|oc g_mv<|oc (g_ln Tryz.underlying27)<|oc (g_bn (fun uZ=>Z6 _ _ (m:Int) (ns.length:Int) _ uZ hl2)) on
      intro u5 HB5 sz5 K5
      simp only[sQ] at K5⊢
      go_upto_region 11 with fail
      apply Rn K5 HB5 [(0,45,_),(1,46,_),(2,47,_)]
      ·exact oc g_mv<|oc g_mv<|oc (g_bn (fun uZ=>T4 _ _ _ (m:Int) (i:Int) _ uZ he)) on
      intro u6 HB6 sz6 K6
      simp only[sQ] at K6⊢
      go_upto_region 10 with fail
      apply Rp K6 HB6 [] [] [(0,43,_),(1,44,_),(2,12,_)] [(2,0)] [(2,12)] []
      ·exact oc g_mv<|oc (g_bn (fun uZ=>Zm _ _ (m:Int) 1 ((m+1:Nat):Int) uZ (by omega) (by omega) (by omega)))<|oc g_as on
      intro u7 HB7 sz7 K7
      simp only[sQ] at K7⊢
      go_wp2
      refine⟨⟨m+1,by omega,rfl,HB7,(K7.cv 0),(K7.lt 0),(K7.cv 1),(K7.lt 1),by rw[ha.out];exact(K7.cv 2),(K7.lt 2),by rw[hb.out];exact(K7.cv 3),(K7.lt 3)⟩,?_⟩
      simp[intOf]<;>omega
     ·have he:((m:Int)==(i:Int))=false:=by rw[beq_eq_false_iff_ne];omega
      have ha:Hid (tpN q t ns i (m+1)=(tpN q t ns i m*((t -ns.getD m 0)%q))%q):=if_neg emi
      have hb:Hid (tpN q x ns i (m+1)=(tpN q x ns i m*((x -ns.getD m 0)%q))%q):=if_neg emi
      have hXm:=hix.out _ hjm
      have hXm:Hid _:=hXm
      have hRm:=hSo.out.at _ hjm
      have hRm:Hid _:=hRm
      have iym:=hn.out m hjm
      have ia:=tpN_In (t:=t) (ns:=ns) (i:=i) hq hq0 m
      have ib:=tpN_In (t:=x) (ns:=ns) (i:=i) hq hq0 m
      obtain⟨y,ey⟩: ∃y,ns.getD m 0=y:=⟨_,rfl⟩
      rw[ey] at hRm iym ha hb
      clear ey emi
      obtain⟨a,ea⟩: ∃a,tpN q t ns i m=a:=⟨_,rfl⟩
      rw[ea] at ia ha D2
      clear ea
      obtain⟨b,eb⟩: ∃b,tpN q x ns i m=b:=⟨_,rfl⟩
      rw[eb] at ib hb D3
      clear eb
      have hS1:Hid (∀u,CC 109 #[NV t,NV y,NV q] u (.tuple #[NV ((t -y)%q),iI 0])):=fun u=>xSub t y q u ht iym hq hq0
      have hS2:Hid (∀u,CC 109 #[NV x,NV y,NV q] u (.tuple #[NV ((x -y)%q),iI 0])):=fun u=>xSub x y q u ixi iym hq hq0
      have i1:In ((t -y)%q):=Zi hq hq0
      have i2:In ((x -y)%q):=Zi hq hq0
      obtain⟨z1,e1⟩: ∃z,(t -y)%q=z:=⟨_,rfl⟩
      rw[e1] at hS1 i1 ha
      clear e1
      obtain⟨z2,e2⟩: ∃z,(x -y)%q=z:=⟨_,rfl⟩
      rw[e2] at hS2 i2 hb
      clear e2
      have K4_2:Bk wo.heap.size wr [(false,w.heap.size,LN q),(false,w.heap.size+1,LN t),(true,b3_2,LN a),(true,b3_3,LN b)]:=⟨.c lD0 D0<| .c lD1 D1<| .o lD2 (K4.lo 2) D2<| .o lD3 (K4.lo 3) D3<|trivial,by simp<;>omega⟩
      go_upto_region 9 with fail
      apply Rn K4_2 HBs [(0,39,_),(1,40,_),(2,41,_),(3,42,_)]
      ·exact oc g_mv<|oc g_mv<|oc (g_ln Tryz.underlying27)<|oc (g_bn (fun uZ=>Z6 _ _ (m:Int) (ns.length:Int) _ uZ hl2)) on
      intro u5 HB5 sz5 K5
      simp only[sQ] at K5⊢
      go_upto_region 11 with fail
      apply Rn K5 HB5 [(0,45,_),(1,46,_),(2,47,_)]
      ·exact oc g_mv<|oc g_mv<|oc (g_bn (fun uZ=>T4 _ _ _ (m:Int) (i:Int) _ uZ he)) on
      intro u6 HB6 sz6 K6
      simp only[sQ] at K6⊢
      go_upto_region 12 with fail
      apply Rd K6 HB6 [] [(10,13,L0s,some (11,LN z1))] [(0,49,_),(1,50,_),(2,51,_),(3,52,_),(4,53,_),(5,54,_),(6,55,_),(7,48,_),(8,56,_),(9,57,_),(12,14,_)] [(11,10)] [] []
      ·exact oc (g_ld 1 uN iN)<|oc g_mv<|oc g_mv<|oc (g_ix hXm.out)<|oc (g_lf hRm.out hg' uN iN)<|oc (g_ld 0 uN iN)<|oc (g_cl ent_W3 hS1.out)<|oc g_mv<|oc g_ex<|oc g_ex<|oc (g_al 0 aN)<|oc (g_sn 0 iN)<|oc g_as on
      intro u7 b7_10 HB7 sz7 K7
      simp only[sQ] at K7⊢
      go_upto_region 13 with fail
      apply Rd K7 HB7 [] [(13,15,L0s,some (14,LN z2))] [(0,59,_),(1,60,_),(2,61,_),(3,62,_),(4,63,_),(5,64,_),(6,65,_),(7,66,_),(8,67,_),(9,68,_),(10,58,_),(11,69,_),(12,70,_),(15,16,_)] [(14,13)] [] []
      ·exact oc g_mv<|oc g_mv<|oc (g_ix hXi.out)<|oc (g_lf hRi'.out hg' uN iN)<|oc g_mv<|oc g_mv<|oc (g_ix hXm.out)<|oc (g_lf hRm.out hg' uN iN)<|oc (g_ld 0 uN iN)<|oc (g_cl ent_W3 hS2.out)<|oc g_mv<|oc g_ex<|oc g_ex<|oc (g_al 0 aN)<|oc (g_sn 0 iN)<|oc g_as on
      intro u8 b8_13 HB8 sz8 K8
      simp only[sQ] at K8⊢
      go_upto_region 14 with fail
      apply Rp K8 HB8 [.no,.no,.all 7 (LN (a*z1%q))] [] [(0,72,_),(1,73,_),(2,74,_),(3,75,_),(4,71,_),(5,76,_),(6,77,_)] [(7,0)] [] []
      ·exact oc (g_ld 2 uN iN)<|oc (g_ld 4 uN iN)<|oc (g_ld 0 uN iN)<|oc (g_cl ent_W4 (fun uZ=>xMul a z1 q uZ ia i1 hq hq0))<|oc g_mv<|oc g_ex<|oc g_ex<|oc (g_st 2 iN) on
      intro u9 HB9 sz9 K9
      simp only[sQ] at K9⊢
      go_upto_region 15 with fail
      apply Rp K9 HB9 [.no,.no,.no,.all 7 (LN (b*z2%q))] [] [(0,79,_),(1,80,_),(2,81,_),(3,82,_),(4,78,_),(5,83,_),(6,84,_)] [(7,0)] [] []
      ·exact oc (g_ld 3 uN iN)<|oc (g_ld 5 uN iN)<|oc (g_ld 0 uN iN)<|oc (g_cl ent_W4 (fun uZ=>xMul b z2 q uZ ib i2 hq hq0))<|oc g_mv<|oc g_ex<|oc g_ex<|oc (g_st 3 iN) on
      intro u10 HB10 sz10 K10
      simp only[sQ] at K10⊢
      go_upto_region 10 with fail
      apply Rp K10 HB10 [] [] [(0,43,_),(1,44,_),(2,12,_)] [(2,0)] [(2,12)] []
      ·exact oc g_mv<|oc (g_bn (fun uZ=>Zm _ _ (m:Int) 1 ((m+1:Nat):Int) uZ (by omega) (by omega) (by omega)))<|oc g_as on
      intro u11 HB11 sz11 K11
      simp only[sQ] at K11⊢
      go_wp2
      refine⟨⟨m+1,by omega,rfl,HB11,(K11.cv 0),(K11.lt 0),(K11.cv 1),(K11.lt 1),by rw[ha.out];exact(K11.cv 2),(K11.lt 2),by rw[hb.out];exact(K11.cv 3),(K11.lt 3)⟩,?_⟩
      simp[intOf]<;>omega
    ·have hl2:decide ((m:Int)<(ns.length:Int))=false:=by simp;omega
     have hmn:m=ns.length:=by omega
     rw[hmn] at D2 D3
     clear hmn
     have ia:=tpN_In (t:=t) (ns:=ns) (i:=i) hq hq0 ns.length
     have id_:=tpN_In (t:=x) (ns:=ns) (i:=i) hq hq0 ns.length
     obtain⟨a,ea⟩: ∃a,tpN q t ns i ns.length=a:=⟨_,rfl⟩
     rw[ea] at ia D2 hfk
     clear ea
     obtain⟨d,ed⟩: ∃d,tpN q x ns i ns.length=d:=⟨_,rfl⟩
     rw[ed] at id_ D3 hvk hnk hp1
     clear ed
     by_cases hgd:gI q (d%q)=1
     ·have hvi:=hvk.out hgd
      have hp2:=hp1.out hgd
      obtain⟨v,ev⟩: ∃v,vs.getD i 0=v:=⟨_,rfl⟩
      rw[ev] at hvi hfk
      clear ev
      have iv:In v:=⟨hvi.1,by have:=hvi.2.1;have:=hq.2;omega⟩
      have K4_2:Bk wo.heap.size wr [(false,w.heap.size,LN q),(false,w.heap.size+1,LN t),(true,b3_2,LN a),(true,b3_3,LN d)]:=⟨.c lD0 D0<| .c lD1 D1<| .o lD2 (K4.lo 2) D2<| .o lD3 (K4.lo 3) D3<|trivial,by simp<;>omega⟩
      go_upto_region 9 with fail
      apply Rn K4_2 HBs [(0,39,_),(1,40,_),(2,41,_),(3,42,_)]
      ·exact oc g_mv<|oc g_mv<|oc (g_ln Tryz.underlying27)<|oc (g_bn (fun uZ=>Z6 _ _ (m:Int) (ns.length:Int) _ uZ hl2)) on
      intro u5 HB5 sz5 K5
      simp only[sQ] at K5⊢
      go_upto_region 16 with fail
      apply Rp K5 HB5 [] [(6,17,L0s,some (7,LN v))] [(0,86,_),(1,87,_),(2,88,_),(3,85,_),(4,89,_),(5,90,_),(8,18,_)] [(7,6)] [] []
      ·exact oc (g_ld 3 uN iN)<|oc (g_ld 0 uN iN)<|oc (g_cl ent_W5 (fun uZ=>xInverse d q v uZ id_ hq hq0 hgd hvi))<|oc g_mv<|oc g_ex<|oc g_ex<|oc (g_al 0 aN)<|oc (g_sn 0 iN)<|oc g_as on
      intro u6 b6_6 HB6 sz6 K6
      simp only[sQ] at K6⊢
      go_upto_region 17 with fail
      apply Rn K6 HB6 [(0,91,_),(1,92,_)]
      ·exact oc g_mv<|oc (g_bn (fun uZ=>Zw _ _ _ 0 0 _ uZ rfl)) on
      intro u7 HB7 sz7 K7
      simp only[sQ] at K7⊢
      go_upto_region 19 with fail
      apply Rp K7 HB7 [] [(7,19,L0s,some (8,LN (a*v%q)))] [(0,94,_),(1,95,_),(2,96,_),(3,97,_),(4,93,_),(5,98,_),(6,99,_),(9,20,_)] [(8,7)] [] []
      ·exact oc (g_ld 2 uN iN)<|oc (g_ld 4 uN iN)<|oc (g_ld 0 uN iN)<|oc (g_cl ent_W4 (fun uZ=>xMul a v q uZ ia iv hq hq0))<|oc g_mv<|oc g_ex<|oc g_ex<|oc (g_al 0 aN)<|oc (g_sn 0 iN)<|oc g_as on
      intro u8 b8_7 HB8 sz8 K8
      simp only[sQ] at K8⊢
      have HBu:=HB8
      have KY:CV u8 b8_7 (LN (a*v%q)):=(K8.cv 5)
      obtain⟨y,ey⟩: ∃y,a*v%q=y:=⟨_,rfl⟩
      rw[ey] at KY hfk
      clear ey
      have y0:=(KY 0 _ rfl).1
      have y1:=(KY 1 _ rfl).1
      have y2:=(KY 2 _ rfl).1
      have y3:=(KY 3 _ rfl).1
      replace KV:Hid (CV u8 bo (flN (fs.take i)++zs)):=CV.below KV.out HBu hlt
      have hsb:=HBu.size
      replace HBr:=Zg HBr HBu
      clear KY
      have hip:i<fs.length:=by rw[hfl.out];exact hj
      have hnx:Hid (fs.take (i+1)=fs.take i++[y]):=by
       show fs.take (i+1)=fs.take i++[y]
       rw[List.take_add_one,List.getElem?_eq_getElem hip]
       have hfk:=hfk.out
       simp[List.getElem?_eq_getElem hip] at hfk
       simp[hfk]
      have htl:(fs.take i).length=i:=by rw[List.length_take,hfl.out];omega
      obtain⟨v2,uc,r2,rg2,b5,c5,z5,rfl,f1,f2,f3,f4,f5⟩:=app_nq (ty:=27) (x:=y) KV.out (by omega) htl hic hzl (by omega)
      have f5:Hid _:=f5
      have rg2:Hid _:=rg2
      have e1:IntKind.i64.wrap ((i:Int)+1)=((i+1:Nat):Int):=by rw[IntKind.wrap_i64];omega
      go_wp2_with (at_builtin;refine Zz rfl _ _ 27 rfl _ _ _ rfl rfl r2 ?_;clear r2)
      have hBa2:Bw u1 (u8.alloc (.cells (LN y:List Value).toArray 24)):=Z1 HBr _
      have hBc:Bw u1 uc:=hBa2.grown rg2.out hBa2.size (fun k e=>by cases e;exact hlo)
      refine⟨⟨i+1,b5,c5,z5,by omega,by simp,rfl,f3,by rw[f4];omega,by have:=hBa2.size;rcases f1 with h | h<;>omega,f2,by rw[hnx.out];exact f5,hBc,fun j h=>?_⟩,?_⟩
      ·exact hp2 j h
      ·simp[intOf];omega
     ·obtain rfl:=hnk.out hgd
      have hI:Hid (∀u,CC 110 #[NV d,NV q] u (.tuple #[NV 0,iI 20])):=fun u=>by
       have h:=xInverse_no d q u id_ hq hq0 hgd
       rw[<-NV_0] at h;exact h
      have K4_2:Bk wo.heap.size wr [(false,w.heap.size,LN q),(false,w.heap.size+1,LN t),(true,b3_2,LN a),(true,b3_3,LN d)]:=⟨.c lD0 D0<| .c lD1 D1<| .o lD2 (K4.lo 2) D2<| .o lD3 (K4.lo 3) D3<|trivial,by simp<;>omega⟩
      go_upto_region 9 with fail
      apply Rn K4_2 HBs [(0,39,_),(1,40,_),(2,41,_),(3,42,_)]
      ·exact oc g_mv<|oc g_mv<|oc (g_ln Tryz.underlying27)<|oc (g_bn (fun uZ=>Z6 _ _ (m:Int) (ns.length:Int) _ uZ hl2)) on
      intro u5 HB5 sz5 K5
      simp only[sQ] at K5⊢
      go_upto_region 16 with fail
      apply Rp K5 HB5 [] [(6,17,L0s,some (7,LN 0))] [(0,86,_),(1,87,_),(2,88,_),(3,85,_),(4,89,_),(5,90,_),(8,18,_)] [(7,6)] [] []
      ·exact oc (g_ld 3 uN iN)<|oc (g_ld 0 uN iN)<|oc (g_cl ent_W5 hI.out)<|oc g_mv<|oc g_ex<|oc g_ex<|oc (g_al 0 aN)<|oc (g_sn 0 iN)<|oc g_as on
      intro u6 b6_6 HB6 sz6 K6
      simp only[sQ] at K6⊢
      go_upto_region 17 with fail
      apply Rn K6 HB6 [(0,91,_),(1,92,_)]
      ·exact oc g_mv<|oc (g_bn (fun uZ=>Zw _ _ _ 20 0 _ uZ rfl)) on
      intro u7 HB7 sz7 K7
      simp only[sQ] at K7⊢
      go_upto_region 18 with fail
      apply Rn K7 HB7 [(0,6,_),(1,7,_)]
      ·exact oc g_as<|oc g_as on
      intro u8 HB8 sz8 K8
      simp only[sQ] at K8⊢
      go_wp2
      exact bodyPost_ret (v:= .tuple #[.slice none 0 0,iI 100]) (by simp[results,Tryz.results80,go_sem]) rfl ⟨_,rfl,⟨⟨_,_,_,rfl⟩,fun h=>absurd h (by decide)⟩,Zg hTw HB8⟩
  ·have hl:decide ((i:Int)<(ns.length:Int))=false:=by simp;omega
   have hio:Hid (i=ns.length):=(show i=ns.length by omega)
   obtain rfl:=hyes.out fun j hj2=>hpo.out j (by omega)
   have K1_1:Bk wo.heap.size wo [(false,w.heap.size,LN q),(false,w.heap.size+1,LN t)]:=⟨.c lq_ Kq<| .c lt_ Kt<|trivial,by simp<;>omega⟩
   go_upto_region 5 with fail
   apply Rn K1_1 HBw [(0,31,_),(1,32,_),(2,33,_),(3,34,_)]
   ·exact oc g_mv<|oc g_mv<|oc (g_ln Tryz.underlying27)<|oc (g_bn (fun uZ=>Z6 _ _ (i:Int) (ns.length:Int) _ uZ hl)) on
   intro u2 HB2 sz2 K2
   simp only[sQ] at K2⊢
   go_upto_region 21 with fail
   apply Rn K2 HB2 [(0,104,_),(1,6,_),(2,7,_)]
   ·exact oc g_mv<|oc g_as<|oc g_as on
   intro u3 HB3 sz3 K3
   simp only[sQ] at K3⊢
   go_wp2
   refine bodyPost_ret (v:= .tuple #[.slice (some ⟨bo,0,none⟩) i co,iI 0]) (by simp[results,Tryz.results80,go_sem]) rfl ⟨_,rfl,⟨⟨_,_,_,rfl⟩,fun _=>⟨bo,co,zs,by rw[hfl.out,hio.out],Nat.le_trans hT1.size hlo,Nat.lt_of_lt_of_le hlt HB3.size,by rw[hfl.out];omega,?_⟩⟩,Zg hTw HB3⟩
   have:=CV.below KV.out HB3 hlt
   rwa [List.take_of_length_le (by rw[hfl.out];omega)] at this
theorem ixR(g o n cap j:Nat)(h:j<n)(w:World):(Instr.indexAt 77 (.slice (some ⟨g,o,none⟩) n cap) (iI j)).run Tryz.prog w= .ok (.pointer (some ⟨g,o+8*j,none⟩)) w:=by
 have hj:(j:Int)<n:=by omega
 go_simp
 all_goals first | omega | (simp[Addr.add];omega) | simp[Addr.add,Nat.mul_comm]
theorem fdR0(b o:Nat)(w:World):(Instr.fieldAt 79 (.pointer (some ⟨b,o,none⟩)) 0).run Tryz.prog w= .ok (.pointer (some ⟨b,o,none⟩)) w:=by go_simp
theorem fdR1(b o:Nat)(w:World):(Instr.fieldAt 79 (.pointer (some ⟨b,o,none⟩)) 1).run Tryz.prog w= .ok (.pointer (some ⟨b,o+4,none⟩)) w:=by go_simp
theorem SN.ptX{w:World}{g o:Nat}{ps:List (Int×Int)}(h:SN w g o (flt ps))(j:Nat)(hj:j<ps.length):w.rangeAt g (o+8*j) (LN (ps.getD j (0,0)).1):=fun c v hc=>h.pt j hj c v (by
 match c,hc with
 | 0,hc=>exact hc
 | 1,hc=>exact hc
 | 2,hc=>exact hc
 | 3,hc=>exact hc)
theorem fl_cut{fs:List Int}{zs:List Value}{k:Nat}(h:k<fs.length):flN fs++zs=flN (fs.take k)++LN (fs.getD k 0)++(flN (fs.drop (k+1))++zs)/\(flN (fs.take k)).length=4*k:=by
 refine⟨?_,by rw[Wb,List.length_take];omega⟩
 have e:fs=fs.take k++fs.getD k 0::fs.drop (k+1):=by
  have h1:fs.getD k 0=fs[k]:=by simp[List.getElem?_eq_getElem h]
  rw[h1,List.getElem_cons_drop,List.take_append_drop]
 have:flN fs=flN (fs.take k)++LN (fs.getD k 0)++flN (fs.drop (k+1)):=by
  conv=>lhs;rw[e]
  rw[Wc,flN,List.append_assoc]
 rw[this];simp[List.append_assoc]
theorem ent_X1:EnT 30:=fun _ _=>by kernel_rfl
theorem xcmb(q t r ra:Int)(sp:Option Addr)(gp op cp:Nat)(ps:List (Int×Int))(xs fs:List Int)(w:World)(hE1:Hid ((r !=0)=true->ra=0))(hE0:Hid ((r !=0)=false->ra=smN q fs ps ps.length))(hfl:Hid (fs.length=ps.length))(hnf:Hid (∀k,k<fs.length->In (fs.getD k 0)))(hnp:Hid (∀k,k<ps.length->In (ps.getD k (0,0)).2))(hq:In q)(hq0:q≠0)(hix:Hid (∀j,j<ps.length-> ∀W,(Instr.indexAt 77 (.slice sp ps.length cp) (iI j)).run Tryz.prog W= .ok (.pointer (some ⟨gp,op+8*j,none⟩)) W))(hg:ps.length=0\/gp<w.heap.size)(hS:Hid (SN w gp op (flt ps)))(hns:ps.length<=1000)(hxl:Hid (xs.length=ps.length))(hxs:Hid (∀i,i<ps.length->xs.getD i 0=(ps.getD i (0,0)).1))(hFa:Hid (∀u v,Bw w u->NL u v xs->Calls Tryz.prog 80 #[NV q,NV t,v] u fun e u'=> ∃y,e= .returned (.tuple #[y,iI r])/\FRw u.heap.size r fs u' y/\Bw u u')):
 CC 56 #[NV q,NV t,.slice sp ps.length cp] w (.tuple #[NV ra,iI r]):=by
 go_enter Tryz.func56,Tryz.ntmps56
 go_upto_region 1 with fail
 obtain⟨v0,hC,HB0,K0⟩:=bx3 w (LN q) 24 (LN t) 24 L0s 24
 rw[hC]
 clear hC
 have hbs:=bsQ0
 have hb1:=bsQ1
 have J0:CV v0 (w.heap.size) (LN q):=(K0.cv 0)
 have J1:CV v0 (w.heap.size+1) (LN t):=(K0.cv 1)
 have J6:CV v0 (w.heap.size+1+1) L0s:=(K0.cv 2)
 have j6:w.heap.size+1+1<v0.heap.size:=(K0.lt 2)
 have J0:Hid _:=J0
 have J1:Hid _:=J1
 have J6:Hid _:=J6
 go_wp2_with fail
 go_loopw [9,8] (fun s9 s8 wr=> ∃(i bo co:Nat) (zs:List Value),i<=ps.length/\s9=iI (i:Int)/\s8= .slice (some ⟨bo,0,none⟩) i co/\i<=co/\zs.length=4*(co -i)/\v0.heap.size<=bo/\bo<wr.heap.size/\Hid (CV wr bo (flN (xs.take i)++zs))/\Bw v0 wr) (fun s9 _ _=>ps.length -(intOf s9).toNat)
 case atStart=>exact⟨0,v0.heap.size,0,[],by omega,rfl,rfl,by omega,rfl,Nat.le_refl _,by simp,(fun j v h=>by simp[flN] at h),Z1 (Z5 v0) _⟩
 case round=>
  obtain⟨i,bo,co,zs,hi,rfl,rfl,hic,hzl,hlo,hlt,KV,HBr⟩:=hrel
  obtain⟨wo,rfl⟩: ∃x,x=wr:=⟨_,rfl⟩
  have hTw:Bw w wo:=Zg HB0 HBr
  have hSo:Hid (SN wo gp op (flt ps)):=(show SN wo gp op (flt ps) from SN.below2 hS.out hTw (hg.imp (fun e=>by rw[Vl,e]) id))
  by_cases hj:i<ps.length
  ·have hl2:(i:Int)<(ps.length:Int):=by omega
   have hX:=hix.out _ hj
   have hF0:=fdR0 gp (op+8*i)
   have hxi:=hxs.out i hj
   have hrx:=hSo.out.ptX i hj
   rw[<-hxi] at hrx
   have hip:i<xs.length:=by rw[hxl.out];exact hj
   have hnx:Hid (xs.take (i+1)=xs.take i++[xs.getD i 0]):=by
    show xs.take (i+1)=_
    rw[List.take_add_one];simp[List.getElem?_eq_getElem hip]
   have htl:(xs.take i).length=i:=by rw[List.length_take,hxl.out];omega
   obtain⟨x,ex⟩: ∃x,xs.getD i 0=x:=⟨_,rfl⟩
   rw[ex] at hrx hnx
   clear ex hxi hip
   have x0:=hrx 0 _ rfl
   rw[Nat.add_zero] at x0
   have x1:=hrx 1 _ rfl
   have x2:=hrx 2 _ rfl
   have x3:=hrx 3 _ rfl
   clear hrx
   obtain⟨v2,uc,r2,rg2,b5,c5,z5,rfl,f1,f2,f3,f4,f5⟩:=app_nq (ty:=27) (x:=x) KV.out hlt htl hic hzl (by omega)
   have f5:Hid _:=f5
   have rg2:Hid _:=rg2
   have e1:IntKind.i64.wrap ((i:Int)+1)=((i+1:Nat):Int):=by rw[IntKind.wrap_i64];omega
   clear htl
   go_wp2_with (at_builtin;refine Zz rfl _ _ 27 rfl _ _ _ rfl rfl r2 ?_;clear r2)
   have hBa2:Bw v0 (wo.alloc (.cells (LN x:List Value).toArray 24)):=Z1 HBr _
   have hBc:Bw v0 uc:=hBa2.grown rg2.out hBa2.size (fun k e=>by cases e;exact hlo)
   refine⟨⟨i+1,b5,c5,z5,by omega,by simp,rfl,f3,by rw[f4];omega,by have:=hBa2.size;rcases f1 with h | h<;>omega,f2,by rw[hnx.out];exact f5,hBc⟩,?_⟩
   simp[intOf];omega
  ·have hl2: ¬((i:Int)<(ps.length:Int)):=by omega
   have hio:Hid (i=ps.length):=(show i=ps.length by omega)
   have hNL:Hid (NL wo (.slice (some ⟨bo,0,none⟩) i co) xs):=(show NL wo _ xs from nl_rq (zs:=zs) hlt (by have:=KV.out;rwa [List.take_of_length_le (by rw[hxl.out];omega)] at this) (by rw[hxl.out,hio.out]) hic)
   have HBr':Hid _:=HBr
   have q0:=(CV.below J0.out HBr (by omega) 0 _ rfl).1
   have q1:=(CV.below J0.out HBr (by omega) 1 _ rfl).1
   have q2:=(CV.below J0.out HBr (by omega) 2 _ rfl).1
   have q3:=(CV.below J0.out HBr (by omega) 3 _ rfl).1
   have t0:=(CV.below J1.out HBr (by omega) 0 _ rfl).1
   have t1:=(CV.below J1.out HBr (by omega) 1 _ rfl).1
   have t2:=(CV.below J1.out HBr (by omega) 2 _ rfl).1
   have t3:=(CV.below J1.out HBr (by omega) 3 _ rfl).1
   go_upto_region 6 with fail
   go_cut [10,11] (fun s10 s11 wx=> ∃sf nf cf,s10= .slice sf nf cf/\s11=iI r/\FRw wo.heap.size r fs wx (.slice sf nf cf)/\Bw wo wx)
   case first=>
    go_wp2_with (go_at_call 80;refine(hFa.out wo _ hTw hNL.out).mono ?_;rintro e ub ⟨y,rfl,hy,hBb⟩;obtain⟨sf,nf,cf,rfl⟩:=hy.1;have hy:Hid _:=hy)
    go_meet
    exact⟨_,_,_,rfl,rfl,hy.out,hBb⟩
   case rest=>
    obtain⟨sf,nf,cf,rfl,rfl,hy,gB⟩:=hcut
    have hTc:Bw w wc:=Zg hTw gB
    have hBv:=Zg HBr'.out gB
    have R0:=CV.below J0.out hBv (by omega)
    have R1:=CV.below J1.out hBv (by omega)
    have R6:=CV.below J6.out hBv j6
    have gsz:=hBv.size
    have i0:w.heap.size<wc.heap.size:=by omega
    have i1:w.heap.size+1<wc.heap.size:=by omega
    have i6:w.heap.size+1+1<wc.heap.size:=by omega
    clear q0 q1 q2 q3 t0 t1 t2 t3
    cases hrn:(r !=0)
    ·skip
     have hr0:r=0:=by simpa using hrn
     obtain⟨bf,co',zf,e9,hlf,hlf2,hcf,Kf⟩:=hy.2 hr0
     have hr0:Hid _:=hr0
     obtain⟨rfl,rfl,rfl⟩:sf=some ⟨bf,0,none⟩/\nf=fs.length/\cf=co':=by cases e9;exact⟨rfl,rfl,rfl⟩
     clear hy e9
     have hsv:=HBr'.out.size
     have K0_1:Bk w.heap.size wc [(false,w.heap.size,LN q),(false,w.heap.size+1,LN t),(true,w.heap.size+1+1,L0s),(false,bf,flN fs++zf)]:=⟨.c i0 R0<| .c i1 R1<| .o i6 (by omega) R6<| .c hlf2 Kf<|trivial,by simp<;>omega⟩
     go_upto_region 7 with fail
     refine Rn K0_1 hTc [(0,38,_),(1,39,_)] (oc g_mv<|oc (g_bn (fun uZ=>Zw _ _ _ r 0 _ uZ hrn)) on) fun u1 HB1 sz1 K1=>?_
     simp only[sQ] at K1⊢
     go_upto_region 9 with fail
     refine Rp K1 HB1 [] [(1,12,L0s,some (2,[iU (0),iU (0),iU (0),iU (0)]))] [(0,42,_)] [(2,1)] [] [] (oc (g_bd zN)<|oc (g_al 0 aN)<|oc (g_sn 0 iN) on) fun u2 b2_1 HB2 sz2 K2=>?_
     simp only[sQ] at K2⊢
     go_upto_region 10 with fail
     refine Rn K2 HB2 [(0,13,_)] (oc g_as on) fun u3 HB3 _ K3=>?_
     simp only[sQ] at K3⊢
     go_wp2_with fail
     go_loopw [13] (fun s13 wr=> ∃(k:Nat),k<=ps.length/\s13=iI (k:Int)/\Bw w wr/\CV wr (w.heap.size) (LN q)/\w.heap.size<wr.heap.size/\CV wr (w.heap.size+1) (LN t)/\w.heap.size+1<wr.heap.size/\CV wr (w.heap.size+1+1) (L0s)/\w.heap.size+1+1<wr.heap.size/\CV wr bf (flN fs++zf)/\bf<wr.heap.size/\CV wr b2_1 (LN (smN q fs ps k))/\b2_1<wr.heap.size) (fun s13 _=>ps.length -(intOf s13).toNat)
     case atStart=>exact⟨0,by omega,rfl,HB3,(K3.cv 0),(K3.lt 0),(K3.cv 1),(K3.lt 1),(K3.cv 2),(K3.lt 2),(K3.cv 3),(K3.lt 3),(K3.cv 4),(K3.lt 4)⟩
     case round=>
      obtain⟨k,hk,rfl,HBr,C0,lC0,C1,lC1,C2,lC2,C3,lC3,C4,lC4⟩:=hrel
      have hnK:=K3.n
      simp at hnK
      have hoK4:=K3.lo 4
      by_cases hj2:k<ps.length
      ·have hl3:decide ((k:Int)<(ps.length:Int))=true:=by simp;omega
       have hkf:k<fs.length:=by rw[hfl.out];exact hj2
       obtain⟨ecut,hXL⟩:=fl_cut (zs:=zf) hkf
       rw[ecut] at C3
       have hXr:=hix.out _ hj2
       have hXr:Hid _:=hXr
       have hY:=hS.out.ptY _ hj2
       have hY:Hid _:=hY
       have hg':=hg.resolve_left (by omega)
       have iy:=hnp.out k hj2
       have iff_:=hnf.out k hkf
       have ism:=smN_In (fs:=fs) (ps:=ps) hq hq0 k
       have hA:Hid (smN q fs ps (k+1)=(smN q fs ps k+(fs.getD k 0*(ps.getD k (0,0)).2)%q)%q):=rfl
       have hC3:Hid (flN fs++zf=flN (fs.take k)++LN (fs.getD k 0)++(flN (fs.drop (k+1))++zf)):=ecut
       clear ecut
       obtain⟨X,eX⟩: ∃X,flN (fs.take k)=X:=⟨_,rfl⟩
       obtain⟨Z,eZ⟩: ∃Z,flN (fs.drop (k+1))++zf=Z:=⟨_,rfl⟩
       rw[eX] at hXL C3 hC3
       rw[eZ] at C3 hC3
       clear eX eZ
       obtain⟨f,ef⟩: ∃f,fs.getD k 0=f:=⟨_,rfl⟩
       rw[ef] at C3 iff_ hA hC3
       clear ef
       obtain⟨y,ey⟩: ∃y,(ps.getD k (0,0)).2=y:=⟨_,rfl⟩
       rw[ey] at hY iy hA
       clear ey
       obtain⟨s,es⟩: ∃s,smN q fs ps k=s:=⟨_,rfl⟩
       rw[es] at ism hA C4
       clear es
       have hXL:Hid _:=hXL
       have im:In (f*y%q):=Zi hq hq0
       have hMl:Hid (∀u,CC 49 #[NV f,NV y,NV q] u (.tuple #[NV (f*y%q),iI 0])):=fun u=>xMul f y q u iff_ iy hq hq0
       obtain⟨z,ez⟩: ∃z,f*y%q=z:=⟨_,rfl⟩
       rw[ez] at im hMl hA
       clear ez
       have K3_2:Bk w.heap.size wr [(false,w.heap.size,LN q),(false,w.heap.size+1,LN t),(true,w.heap.size+1+1,L0s),(false,bf,X++LN f++Z),(true,b2_1,LN s)]:=⟨.c lC0 C0<| .c lC1 C1<| .o lC2 (K3.lo 2) C2<| .c lC3 C3<| .o lC4 (K3.lo 4) C4<|trivial,by simp<;>omega⟩
       go_upto_region 11 with fail
       refine Rn K3_2 HBr (cG 0 43 [_,_,_,_] []) (oc g_mv<|oc g_mv<|oc (g_ln Tryz.underlying77)<|oc (g_bn (fun uZ=>Z6 _ _ (k:Int) (ps.length:Int) _ uZ hl3)) on) fun u4 HB4 sz4 K4=>?_
       simp only[sQ] at K4⊢
       go_upto_region 13 with fail
       refine Rd K4 HB4 [] [(14,14,L0s,some (15,LN z))] (cG 0 50 [_,_,_,_,_,_,_,_,_,_,_] [(11,49,_),(12,61,_),(13,62,_),(16,15,_)]) [(15,14)] [] [] (oc g_mv<|oc g_mv<|oc (g_ix (ixZ _ _ _ k hkf))<|oc (g_lR 3 (4*k) (cs:=LN f) (mid_at hXL.out) uN iN)<|oc g_mv<|oc g_mv<|oc (g_ix hXr.out)<|oc (g_fd (fdR1 _ _))<|oc (g_lf hY.out hg' uN iN)<|oc (g_ld 0 uN iN)<|oc (g_cl ent_W4 hMl.out)<|oc g_mv<|oc g_ex<|oc g_ex<|oc (g_al 0 aN)<|oc (g_sn 0 iN)<|oc g_as on) fun u5 b5_14 HB5 sz5 K5=>?_
       simp only[sQ] at K5⊢
       go_upto_region 14 with fail
       refine Rp K5 HB5 [.no,.no,.no,.no,.all 7 (LN ((s+z)%q))] [] (cG 0 64 [_,_,_,_] [(4,63,_),(5,68,_),(6,69,_)]) [(7,0)] [] [] (oc (g_ld 4 uN iN)<|oc (g_ld 5 uN iN)<|oc (g_ld 0 uN iN)<|oc (g_cl ent_X1 (fun uZ=>xAdd s z q uZ ism im hq hq0))<|oc g_mv<|oc g_ex<|oc g_ex<|oc (g_st 4 iN) on) fun u6 HB6 _ K6=>?_
       simp only[sQ] at K6⊢
       go_upto_region 12 with fail
       refine Rp K6 HB6 [] [] [(0,47,_),(1,48,_),(2,13,_)] [(2,0)] [(2,13)] [] (oc g_mv<|oc (g_bn (fun uZ=>Zm _ _ (k:Int) 1 ((k+1:Nat):Int) uZ (by omega) (by omega) (by omega)))<|oc g_as on) fun u7 HB7 _ K7=>?_
       simp only[sQ] at K7⊢
       go_wp2
       refine⟨⟨k+1,by omega,rfl,HB7,(K7.cv 0),(K7.lt 0),(K7.cv 1),(K7.lt 1),(K7.cv 2),(K7.lt 2),by rw[hC3.out];exact(K7.cv 3),(K7.lt 3),by rw[hA.out];exact(K7.cv 4),(K7.lt 4)⟩,?_⟩
       simp[intOf]<;>omega
      ·have hl3:decide ((k:Int)<(ps.length:Int))=false:=by simp;omega
       have hkn:k=ps.length:=by omega
       rw[hkn] at C4
       clear hkn
       have K3_2:Bk w.heap.size wr [(false,w.heap.size,LN q),(false,w.heap.size+1,LN t),(true,w.heap.size+1+1,L0s),(false,bf,flN fs++zf),(true,b2_1,LN (smN q fs ps ps.length))]:=⟨.c lC0 C0<| .c lC1 C1<| .o lC2 (K3.lo 2) C2<| .c lC3 C3<| .o lC4 (K3.lo 4) C4<|trivial,by simp<;>omega⟩
       go_upto_region 11 with fail
       refine Rn K3_2 HBr (cG 0 43 [_,_,_,_] []) (oc g_mv<|oc g_mv<|oc (g_ln Tryz.underlying77)<|oc (g_bn (fun uZ=>Z6 _ _ (k:Int) (ps.length:Int) _ uZ hl3)) on) fun u4 HB4 sz4 K4=>?_
       simp only[sQ] at K4⊢
       go_upto_region 15 with fail
       refine Rp K4 HB4 [.no,.no,.all 1 (LN (smN q fs ps ps.length))] [] [(0,70,_),(2,7,_)] [] [] [] (oc (g_ld 4 uN iN)<|oc (g_st 2 iN)<|oc g_as on) fun u5 HB5 sz5 K5=>?_
       simp only[sQ] at K5⊢
       have c6:=(K5.cv 2).n4
       go_wp2
       refine bodyPost_ret (v:= .tuple #[NV (smN q fs ps ps.length),iI 0]) (by simp[results,Tryz.results56,go_sem,c6]) rfl ⟨by rw[hE0.out hrn,hr0.out],HB5⟩
    ·skip
     have K0_1:Bk w.heap.size wc [(false,w.heap.size,LN q),(false,w.heap.size+1,LN t),(true,w.heap.size+1+1,L0s)]:=⟨.c i0 R0<| .c i1 R1<| .o i6 (by omega) R6<|trivial,by simp<;>omega⟩
     go_upto_region 7 with fail
     refine Rn K0_1 hTc [(0,38,_),(1,39,_)] (oc g_mv<|oc (g_bn (fun uZ=>Zw _ _ _ r 0 _ uZ hrn)) on) fun u1 HB1 sz1 K1=>?_
     simp only[sQ] at K1⊢
     go_upto_region 8 with fail
     refine Rp K1 HB1 [.no,.no,.all 2 ([iU (0),iU (0),iU (0),iU (0)])] [] [(0,40,_),(1,41,_),(3,7,_)] [] [] [] (oc (g_bd zN)<|oc g_mv<|oc (g_st 2 iN)<|oc g_as on) fun u2 HB2 sz2 K2=>?_
     simp only[sQ] at K2⊢
     have c6:=(K2.cv 2).n4
     go_wp2
     refine bodyPost_ret (v:= .tuple #[A4 0 0 0 0,iI r]) (by simp[results,Tryz.results56,go_sem,c6]) rfl ⟨by rw[hE1.out hrn,NV_0],HB2⟩
theorem infoRq:(Tryz.prog.info? 79).map (fun i=>(i.zero,i.size,i.bytes))=some (some (.agg #[iU 0,iU 0,iU 0,iU 0,iU 0,iU 0,iU 0,iU 0]),8,64):=by kernel_rfl
theorem bsRq0(w:World):(Instr.buildSlice 77 0 #[]).run Tryz.prog w= .ok (.slice (some ⟨w.heap.size,0,none⟩) 0 0) (w.alloc (.cells #[] 79)):=by kernel_rfl
theorem bsRq1(x y:Int)(w:World):(Instr.buildSlice 77 1 #[(0,PtX x y)]).run Tryz.prog w= .ok (.slice (some ⟨w.heap.size,0,none⟩) 1 1) (w.alloc (.cells (LN x++LN y:List Value).toArray 79)):=by kernel_rfl
theorem bsRz(x y:Int)(w:World):(Instr.buildSlice 77 1 ([0].zip [PtX x y]).toArray).run Tryz.prog w= .ok (.slice (some ⟨w.heap.size,0,none⟩) 1 1) (w.alloc (.cells (LN x++LN y:List Value).toArray 79)):=by kernel_rfl
theorem bdRp(x y:Int)(w:World):(Instr.build 79 [(0,NV x),(1,NV y)].toArray).run Tryz.prog w= .ok (PtX x y) w:=by kernel_rfl
def P1q(x y:Int)(u:World)(v:Value):Prop:= ∃b,v= .slice (some ⟨b,0,none⟩) 1 1/\b<u.heap.size/\CV u b (LN x++LN y)
theorem P1q.stab{x y:Int}{u u2:World}{v:Value}(hB:Bw u u2)(h:P1q x y u v):P1q x y u2 v:=by
 obtain⟨b,e,h1,h2⟩:=h
 exact⟨b,e,Nat.lt_of_lt_of_le h1 hB.size,h2.below hB h1⟩
theorem P1q.new(x y:Int){T:TypeId}(u:World):P1q x y (u.alloc (.cells (LN x++LN y:List Value).toArray T)) (.slice (some ⟨u.heap.size,0,none⟩) 1 1):=⟨_,rfl,by simp,CV.new u _ _⟩
theorem P1q.nw{x y:Int}(u:World)(v:Value)(h:P1q x y u v):NW 1 (LN x++LN y) u v:=by
 obtain⟨b,rfl,h1,h2⟩:=h
 exact⟨_,1,rfl,.inr ⟨_,rfl,fun j v hj=>by rw[Addr.add0];exact(h2 j v hj).1⟩⟩
theorem one_P(x y:Int): ∀v∈LN x++LN y,v.oneCell'=true:=fun v hv=>by simp at hv;rcases hv with h | h | h | h | h | h | h | h<;>(subst h;rfl)
theorem fdS1o(b o:Nat)(w:World):(Instr.fieldAt 35 (.pointer (some ⟨b,o,none⟩)) 1).run Tryz.prog w= .ok (.pointer (some ⟨b,o+1,none⟩)) w:=by go_simp
theorem fdS2o(b o:Nat)(w:World):(Instr.fieldAt 35 (.pointer (some ⟨b,o,none⟩)) 2).run Tryz.prog w= .ok (.pointer (some ⟨b,o+5,none⟩)) w:=by go_simp
theorem sh_S{w:World}{g o:Nat}{n s t:Int}(h:w.rangeAt g o (SE n s t)):w.rangeAt g (o+1) (LN s)/\w.rangeAt g (o+5) (LN t):=by
 constructor<;>intro c v hc
 ·have:=h (1+c) v (by
   match c,hc with
   | 0,hc=>exact hc
   | 1,hc=>exact hc
   | 2,hc=>exact hc
   | 3,hc=>exact hc)
  rwa [<-Nat.add_assoc] at this
 ·have:=h (5+c) v (by
   match c,hc with
   | 0,hc=>exact hc
   | 1,hc=>exact hc
   | 2,hc=>exact hc
   | 3,hc=>exact hc)
  rwa [<-Nat.add_assoc] at this
theorem fdS0o(b o:Nat)(w:World):(Instr.fieldAt 35 (.pointer (some ⟨b,o,none⟩)) 0).run Tryz.prog w= .ok (.pointer (some ⟨b,o,none⟩)) w:=by go_simp
theorem ent_Y1:EnT 56:=fun _ _=>by kernel_rfl
theorem xopn_c(p q g h:Int)(sl:Option Addr)(cap:Nat)(l:List (Int×Int×Int))(w:World)(hC:Hid (∀u,CC 37 #[GX p q g h] u (iI 90))):
 CC 26 #[GX p q g h,.slice sl l.length cap] w (.tuple #[A4 0 0 0 0,A4 0 0 0 0,iI 90]):=by
 go_enter Tryz.func26,Tryz.ntmps26
 go_upto_region 1 with fail
 obtain⟨v0,hC,HB0,K0⟩:=bx3 w (GE p q g h) 26 L0s 24 L0s 24
 rw[hC]
 clear hC
 refine Rn K0 HB0 (cG 0 15 [_,_,_] []) (oc (g_ld 0 Tryz.underlying26 Z0)<|oc (g_cl ent_K1 hC.out)<|oc (g_bn (fun uZ=>Zw _ _ _ 90 0 _ uZ rfl)) on) fun u1 HB1 _ K1=>?_
 simp only[sQ] at K1⊢
 go_upto_region 2 with fail
 refine Rp K1 HB1 [.no,.all 2 ([iU (0),iU (0),iU (0),iU (0)]),.all 3 ([iU (0),iU (0),iU (0),iU (0)])] [] [(0,18,_),(1,19,_),(4,6,_)] [] [] [] (oc (g_bd zN)<|oc (g_bd zN)<|oc (g_st 1 iN)<|oc (g_st 2 iN)<|oc g_as on) fun u2 HB2 _ K2=>?_
 simp only[sQ] at K2⊢
 have c4:=(K2.cv 1).n4
 have c5:=(K2.cv 2).n4
 go_wp2
 refine bodyPost_ret (v:= .tuple #[A4 0 0 0 0,A4 0 0 0 0,iI 90]) (by simp[results,Tryz.results26,go_sem,c4,c5]) rfl ⟨rfl,HB2⟩
theorem xopn_k(p q g h a b er f ra rb re:Int)(sl:Option Addr)(gb go cap:Nat)(l:List (Int×Int×Int))(w:World)(hC:Hid (∀u,CC 37 #[GX p q g h] u (iI 0)))(hix:Hid (∀j,j<l.length-> ∀W,(Instr.indexAt 48 (.slice sl l.length cap) (iI j)).run Tryz.prog W= .ok (.pointer (some ⟨gb,go+9*j,none⟩)) W))(hg:l.length=0\/gb<w.heap.size)(hS:Hid (∀j,j<l.length->w.rangeAt gb (go+9*j) (SE (l.getD j (0,0,0)).1 (l.getD j (0,0,0)).2.1 (l.getD j (0,0,0)).2.2)))(hl0:l.length<=256)(hC1:Hid (∀(u:World) (c o:Nat) z,Bw w u->c<u.heap.size->l.length<=o->CV u c (flN (flt (opS l))++z)->(∀k,k<l.length->ndB (l.getD k (0,0,0)).1=true)->CC 56 #[NV q,A4 0 0 0 0,.slice (some ⟨c,0,none⟩) l.length o] u (.tuple #[NV a,iI er])))(hC2:Hid (∀(u:World) (c o:Nat) z,Bw w u->c<u.heap.size->l.length<=o->CV u c (flN (flt (opT l))++z)->(∀k,k<l.length->ndB (l.getD k (0,0,0)).1=true)->CC 56 #[NV q,A4 0 0 0 0,.slice (some ⟨c,0,none⟩) l.length o] u (.tuple #[NV b,iI f])))(hno:Hid (∀k,k<l.length->ndB (l.getD k (0,0,0)).1=false->ra=0/\rb=0/\re=2))(hE1:Hid ((∀k,k<l.length->ndB (l.getD k (0,0,0)).1=true)->(er !=0)=true->ra=0/\rb=0/\re=er))(hE0:Hid ((∀k,k<l.length->ndB (l.getD k (0,0,0)).1=true)->(er !=0)=false->ra=a/\rb=b/\re=0)):
 CC 26 #[GX p q g h,.slice sl l.length cap] w (.tuple #[NV ra,NV rb,iI re]):=by
 go_enter Tryz.func26,Tryz.ntmps26
 go_upto_region 1 with fail
 obtain⟨v0,hC,HB0,K0⟩:=bx3 w (GE p q g h) 26 L0s 24 L0s 24
 rw[hC]
 clear hC
 refine Rn K0 HB0 (cG 0 15 [_,_,_] []) (oc (g_ld 0 Tryz.underlying26 Z0)<|oc (g_cl ent_K1 hC.out)<|oc (g_bn (fun uZ=>Zw _ _ _ 0 0 _ uZ rfl)) on) fun u1 HB1 _ K1=>?_
 simp only[sQ] at K1⊢
 have hTu:=HB1
 have J0:Hid (CV u1 (w.heap.size) (GE p q g h)):=(K1.cv 0)
 have J4:Hid (CV u1 (w.heap.size+1) L0s):=(K1.cv 1)
 have J5:Hid (CV u1 (w.heap.size+1+1) L0s):=(K1.cv 2)
 have j5:w.heap.size+1+1<u1.heap.size:=(K1.lt 2)
 have hbs:=bsRq0
 have hb1:=bsRq1
 have h256: ¬(256<(l.length:Int)):=by omega
 go_wp2_with fail
 go_loopw [9,7,8] (fun s9 s7 s8 wr=> ∃(i b2 b3 c2 c3:Nat) (z2 z3:List Value),i<=l.length/\s9=iI (i:Int)/\s7= .slice (some ⟨b2,0,none⟩) i c2/\s8= .slice (some ⟨b3,0,none⟩) i c3/\i<=c2/\i<=c3/\z2.length=8*(c2 -i)/\z3.length=8*(c3 -i)/\u1.heap.size<=b2/\u1.heap.size<=b3/\b2≠b3/\b2<wr.heap.size/\b3<wr.heap.size/\Hid (CV wr b2 (flN (flt ((opS l).take i))++z2))/\Hid (CV wr b3 (flN (flt ((opT l).take i))++z3))/\u1.heap.size<=wr.heap.size/\Bw w wr/\Hid (CV wr (w.heap.size) (GE p q g h))/\Hid (CV wr (w.heap.size+1) L0s)/\Hid (CV wr (w.heap.size+1+1) L0s)/\Hid (∀j,j<i->ndB (l.getD j (0,0,0)).1=true)) (fun s9 _ _ _=>l.length -(intOf s9).toNat)
 case atStart=>exact⟨0,u1.heap.size,u1.heap.size+1,0,0,[],[],by omega,rfl,rfl,by simp,by omega,by omega,rfl,rfl,Nat.le_refl _,by omega,by omega,by simp<;>omega,by simp<;>omega,(fun j v h=>by simp[flN,flt] at h),(fun j v h=>by simp[flN,flt] at h),by simp<;>omega,Z1 (Z1 hTu _) _,CV.below (CV.below J0.out (Z1 (Z5 u1) _) (by omega)) (Z1 (Z5 _) _) (by simp<;>omega),CV.below (CV.below J4.out (Z1 (Z5 u1) _) (by omega)) (Z1 (Z5 _) _) (by simp<;>omega),CV.below (CV.below J5.out (Z1 (Z5 u1) _) j5) (Z1 (Z5 _) _) (by simp<;>omega),fun j hj=>by omega⟩
 case round=>
  obtain⟨i,b2,b3,c2,c3,z2,z3,hi,rfl,rfl,rfl,hc2,hc3,hz2,hz3,hlo2,hlo3,hne,hlt2,hlt3,KV2,KV3,gsz,hTw,Q0,Q4,Q5,hall⟩:=hrel
  obtain⟨wo,rfl⟩: ∃x,x=wr:=⟨_,rfl⟩
  have hTu':=hTu.size
  have R0:=Q0.out
  have R4:=Q4.out
  have R5:=Q5.out
  have i0:w.heap.size<wo.heap.size:=by omega
  have i4:w.heap.size+1<wo.heap.size:=by omega
  have i5:w.heap.size+1+1<wo.heap.size:=by omega
  have KV2':=KV2.out
  have KV3':=KV3.out
  by_cases hj:i<l.length
  ·have hl:decide ((i:Int)<(l.length:Int))=true:=by simp;omega
   have hX:=hix.out _ hj
   have hX:Hid _:=hX
   have hg':=hg.resolve_left (by omega)
   have hR0:=hS.out _ hj
   have hN:Hid (∀u,CC 38 #[iI (l.getD i (0,0,0)).1] u (.bool (ndB (l.getD i (0,0,0)).1))):=fun u=>xNode _ u
   have t2:Hid ((opS l).take (i+1)=(opS l).take i++[((l.getD i (0,0,0)).1,(l.getD i (0,0,0)).2.1)]):=by
    show (opS l).take (i+1)=_
    rw[List.take_add_one];simp[opS,List.getElem?_eq_getElem hj]
   have t3:Hid ((opT l).take (i+1)=(opT l).take i++[((l.getD i (0,0,0)).1,(l.getD i (0,0,0)).2.2)]):=by
    show (opT l).take (i+1)=_
    rw[List.take_add_one];simp[opT,List.getElem?_eq_getElem hj]
   have hbad:=hno.out i hj
   have hok:Hid (ndB (l.getD i (0,0,0)).1=true-> ∀j,j<i+1->ndB (l.getD j (0,0,0)).1=true):=fun e j hjk=>by
    by_cases ej:j=i
    ·subst ej;exact e
    ·exact hall.out j (by omega)
   obtain⟨n,en⟩: ∃n,(l.getD i (0,0,0)).1=n:=⟨_,rfl⟩
   obtain⟨s,es⟩: ∃n,(l.getD i (0,0,0)).2.1=n:=⟨_,rfl⟩
   obtain⟨t,et⟩: ∃n,(l.getD i (0,0,0)).2.2=n:=⟨_,rfl⟩
   rw[en,es,et] at hR0
   rw[en] at hN t2 t3 hbad hok
   rw[es] at t2
   rw[et] at t3
   clear en es et
   have hcn:=hR0 0 _ rfl
   rw[Nat.add_zero] at hcn
   have hcn:Hid _:=hcn
   by_cases hb:ndB n=true
   ·rw[hb] at hN
    have K1_1:Bk w.heap.size wo [(false,w.heap.size,GE p q g h),(true,w.heap.size+1,L0s),(true,w.heap.size+1+1,L0s),(true,b2,flN (flt ((opS l).take i))++z2),(true,b3,flN (flt ((opT l).take i))++z3)]:=⟨.c i0 R0<| .o i4 (by omega) R4<| .o i5 (by omega) R5<| .o hlt2 (by omega) KV2'<| .o hlt3 (by omega) KV3'<|trivial,by simp<;>omega⟩
    go_upto_region 7 with fail
    refine Rn K1_1 hTw (cG 0 27 [_,_,_,_] []) (oc g_mv<|oc g_mv<|oc (g_ln Tryz.underlying48)<|oc (g_bn (fun uZ=>Z6 _ _ (i:Int) (l.length:Int) _ uZ hl)) on) fun u2 HB2 sz2 K2=>?_
    simp only[sQ] at K2⊢
    go_upto_region 9 with fail
    refine Rn K2 HB2 (cG 0 33 [_,_,_,_,_,_,_] []) (oc g_mv<|oc g_mv<|oc (g_ix hX.out)<|oc (g_fd (fdS0o _ _))<|oc (g_lgp gb (go+9*i) lI hcn.out hg')<|oc (g_cl Yo hN.out)<|oc (g_un Vj) on) fun u3 HB3 sz3 K3=>?_
    simp only[sQ] at K3⊢
    have hnb:=ndB_iff.1 hb
    have hok':=hok.out hb
    go_upto_region 11 with fail
    refine Rp K3 HB3 [] [(7,10,L0s,some (8,LN n))] (cG 0 42 [_,_,_,_,_,_,_] []) [(8,7)] [] [] (oc g_mv<|oc g_mv<|oc (g_ix hX.out)<|oc (g_fd (fdS0o _ _))<|oc (g_lgp gb (go+9*i) lI hcn.out hg')<|oc (g_op (fun ev uZ he=>cviP uZ (by omega) (by omega) rfl (he _ _ rfl)))<|oc (g_bd (fun uZ=>bdNk n (by omega) (by omega) uZ))<|oc (g_al 0 aN)<|oc (g_sn 0 iN) on) fun u4 b4_7 HB4 sz4 K4=>?_
    simp only[sQ] at K4⊢
    obtain⟨hRs,hRt⟩:=sh_S hR0
    have hRs:Hid _:=hRs
    have hRt:Hid _:=hRt
    obtain⟨ti,hti,htm⟩:=Option.map_eq_some_iff.1 infoRq
    simp only[Prod.mk.injEq] at htm
    obtain⟨hzv,hsz,hby⟩:=htm
    have L2:((opS l).take i).length=i:=by simp[opS];omega
    have L3:((opT l).take i).length=i:=by simp[opT];omega
    have hnd12:=K4.n
    simp at hnd12
    have lt12_0:=K4.lt 0
    have lt12_1:=K4.lt 1
    have lt12_2:=K4.lt 2
    have lt12_3:=K4.lt 3
    have lt12_4:=K4.lt 4
    have lt12_5:=K4.lt 5
    go_upto_region 12 with fail
    refine Re K4 HB4 [.no,.no,.no,.all 9 ([])] [] (cG 0 49 [_,_,_,_,_,_,_,_] []) [(10,0),(10,9)] [(10,7)] [⟨8,57,some 9,P1q n s⟩,⟨9,58,some 10,PH u4.heap.size b2 ti.size (i+1) (flN (flt ((opS l).take i))++(LN n++LN s))⟩,⟨10,7,none,PH u4.heap.size b2 ti.size (i+1) (flN (flt ((opS l).take i))++(LN n++LN s))⟩] [true,true,true,false] (oc g_mv<|oc (g_ld 5 uN iN)<|oc g_mv<|oc g_mv<|oc (g_ix hX.out)<|oc (g_fd (fdS1o _ _))<|oc (g_lf hRs.out hg' uN iN)<|oc (g_bd (bdRp n s))<|oc (g_bR 0 (P1q n s) [0] [PtX n s] (LN n++LN s) (bsRz n s) (fun u hu=>P1q.new n s u))<|oc (g_pE 3 0 1 (P1q n s) (flN (flt ((opS l).take i))) z2 (LN n++LN s) Tryz.underlying77 hti hzv (by rw[hsz];rfl) rfl P1q.nw (one_P n s) (by rw[hsz];rfl) (by rw[hsz,Wb,Vl,L2];omega) (by rw[hsz];omega) hc2 (by rw[hby];omega) (by omega))<|oc (g_sE 1 2 (PH u4.heap.size b2 ti.size (i+1) (flN (flt ((opS l).take i))++(LN n++LN s)))) on) fun u5 v5_8 hv5_8 v5_9 hv5_9 v5_10 hv5_10 HB5 sz5 K5=>?_
    simp only[sQ] at K5⊢
    obtain⟨d2,e2,y2,rfl,f1,f2,f3,f4,f5⟩:=hv5_10 rfl
    rw[hsz] at f4
    have K5_2:Bk w.heap.size u5 [(false,w.heap.size,GE p q g h),(true,w.heap.size+1,L0s),(true,w.heap.size+1+1,L0s),(true,b3,flN (flt ((opT l).take i))++z3),(false,b4_7,LN n),(true,d2,(flN (flt ((opS l).take i))++(LN n++LN s))++y2)]:=⟨.c (K5.lt 0) (K5.cv 0)<| .o (K5.lt 1) (by omega) (K5.cv 1)<| .o (K5.lt 2) (by omega) (K5.cv 2)<| .o (K5.lt 3) (by omega) (K5.cv 3)<| .c (K5.lt 4) (K5.cv 4)<| .o f2 (by omega) f5<|trivial,by simp<;>omega⟩
    have hnd13:=K5_2.n
    simp at hnd13
    have lt13_0:=K5_2.lt 0
    have lt13_1:=K5_2.lt 1
    have lt13_2:=K5_2.lt 2
    have lt13_3:=K5_2.lt 3
    have lt13_4:=K5_2.lt 4
    have lt13_5:=K5_2.lt 5
    go_upto_region 13 with fail
    refine Re K5_2 HB5 [.no,.no,.no,.all 9 ([])] [] (cG 0 59 [_,_,_,_,_,_,_,_] []) [(10,0),(10,9)] [(10,8)] [⟨8,67,some 9,P1q n t⟩,⟨9,68,some 10,PH u5.heap.size b3 ti.size (i+1) (flN (flt ((opT l).take i))++(LN n++LN t))⟩,⟨10,8,none,PH u5.heap.size b3 ti.size (i+1) (flN (flt ((opT l).take i))++(LN n++LN t))⟩] [true,true,true,false] (oc g_mv<|oc (g_ld 4 uN iN)<|oc g_mv<|oc g_mv<|oc (g_ix hX.out)<|oc (g_fd (fdS2o _ _))<|oc (g_lf hRt.out hg' uN iN)<|oc (g_bd (bdRp n t))<|oc (g_bR 0 (P1q n t) [0] [PtX n t] (LN n++LN t) (bsRz n t) (fun u hu=>P1q.new n t u))<|oc (g_pE 3 0 1 (P1q n t) (flN (flt ((opT l).take i))) z3 (LN n++LN t) Tryz.underlying77 hti hzv (by rw[hsz];rfl) rfl P1q.nw (one_P n t) (by rw[hsz];rfl) (by rw[hsz,Wb,Vl,L3];omega) (by rw[hsz];omega) hc3 (by rw[hby];omega) (by omega))<|oc (g_sE 1 2 (PH u5.heap.size b3 ti.size (i+1) (flN (flt ((opT l).take i))++(LN n++LN t)))) on) fun u6 v6_8 hv6_8 v6_9 hv6_9 v6_10 hv6_10 HB6 sz6 K6=>?_
    simp only[sQ] at K6⊢
    obtain⟨d3,e3,y3,rfl,g1,g2,g3,g4,g5⟩:=hv6_10 rfl
    rw[hsz] at g4
    have K6_3:Bk w.heap.size u6 [(false,w.heap.size,GE p q g h),(true,w.heap.size+1,L0s),(true,w.heap.size+1+1,L0s),(false,b4_7,LN n),(true,d2,(flN (flt ((opS l).take i))++(LN n++LN s))++y2),(false,d3,(flN (flt ((opT l).take i))++(LN n++LN t))++y3)]:=⟨.c (K6.lt 0) (K6.cv 0)<| .o (K6.lt 1) (by omega) (K6.cv 1)<| .o (K6.lt 2) (by omega) (K6.cv 2)<| .c (K6.lt 3) (K6.cv 3)<| .o (K6.lt 4) (by omega) (K6.cv 4)<| .c g2 g5<|trivial,by simp<;>omega⟩
    go_upto_region 8 with fail
    refine Rp K6_3 HB6 [] [] [(0,31,_),(1,32,_),(2,9,_)] [(2,0)] [(2,9)] [] (oc g_mv<|oc (g_bn (fun uZ=>Zm _ _ (i:Int) 1 ((i+1:Nat):Int) uZ (by omega) (by omega) (by omega)))<|oc g_as on) fun u7 HB7 _ K7=>?_
    simp only[sQ] at K7⊢
    go_wp2
    refine⟨⟨i+1,d2,d3,e2,e3,y2,y3,by omega,rfl,rfl,rfl,f3,g3,by rw[f4];omega,by rw[g4];omega,by rcases f1 with e | e<;>omega,by rcases g1 with e | e<;>omega,by rcases f1 with e | e<;>rcases g1 with e9 | e9<;>omega,(K7.lt 4),(K7.lt 5),by rw[t2.out,flt_sn];exact(K7.cv 4),by rw[t3.out,flt_sn];exact(K7.cv 5),by have:=(K7.lt 2);omega,HB7,(K7.cv 0),(K7.cv 1),(K7.cv 2),hok'⟩,?_⟩
    simp[intOf]<;>omega
   ·rw[Bool.not_eq_true] at hb
    rw[hb] at hN
    have K1_1:Bk w.heap.size wo [(false,w.heap.size,GE p q g h),(true,w.heap.size+1,L0s),(true,w.heap.size+1+1,L0s),(true,b2,flN (flt ((opS l).take i))++z2),(true,b3,flN (flt ((opT l).take i))++z3)]:=⟨.c i0 R0<| .o i4 (by omega) R4<| .o i5 (by omega) R5<| .o hlt2 (by omega) KV2'<| .o hlt3 (by omega) KV3'<|trivial,by simp<;>omega⟩
    go_upto_region 7 with fail
    refine Rn K1_1 hTw (cG 0 27 [_,_,_,_] []) (oc g_mv<|oc g_mv<|oc (g_ln Tryz.underlying48)<|oc (g_bn (fun uZ=>Z6 _ _ (i:Int) (l.length:Int) _ uZ hl)) on) fun u2 HB2 sz2 K2=>?_
    simp only[sQ] at K2⊢
    go_upto_region 9 with fail
    refine Rn K2 HB2 (cG 0 33 [_,_,_,_,_,_,_] []) (oc g_mv<|oc g_mv<|oc (g_ix hX.out)<|oc (g_fd (fdS0o _ _))<|oc (g_lgp gb (go+9*i) lI hcn.out hg')<|oc (g_cl Yo hN.out)<|oc (g_un Ue) on) fun u3 HB3 sz3 K3=>?_
    simp only[sQ] at K3⊢
    go_upto_region 10 with fail
    refine Rp K3 HB3 [.no,.all 2 ([iU (0),iU (0),iU (0),iU (0)]),.all 3 ([iU (0),iU (0),iU (0),iU (0)])] [] [(0,40,_),(1,41,_),(4,6,_)] [] [] [] (oc (g_bd zN)<|oc (g_bd zN)<|oc (g_st 1 iN)<|oc (g_st 2 iN)<|oc g_as on) fun u4 HB4 sz4 K4=>?_
    simp only[sQ] at K4⊢
    have c4:=(K4.cv 1).n4
    have c5:=(K4.cv 2).n4
    go_wp2
    refine bodyPost_ret (v:= .tuple #[A4 0 0 0 0,A4 0 0 0 0,iI 2]) (by simp[results,Tryz.results26,go_sem,c4,c5]) rfl ⟨by obtain⟨ea,eb,ee⟩:=hbad hb;rw[ea,eb,ee,NV_0],HB4⟩
  ·have hl:decide ((i:Int)<(l.length:Int))=false:=by simp;omega
   have hio:i=l.length:=by omega
   rw[hio,List.take_of_length_le (by simp[opS])] at KV2'
   rw[hio,List.take_of_length_le (by simp[opT])] at KV3'
   have hall':Hid (∀j,j<l.length->ndB (l.getD j (0,0,0)).1=true):=fun j hj2=>hall.out j (by omega)
   have hco2:l.length<=c2:=by omega
   have hco3:l.length<=c3:=by omega
   clear KV2 KV3 hall
   subst hio
   have K1_1:Bk w.heap.size wo [(false,w.heap.size,GE p q g h),(true,w.heap.size+1,L0s),(true,w.heap.size+1+1,L0s),(true,b2,flN (flt (opS l))++z2),(true,b3,flN (flt (opT l))++z3)]:=⟨.c i0 R0<| .o i4 (by omega) R4<| .o i5 (by omega) R5<| .o hlt2 (by omega) KV2'<| .o hlt3 (by omega) KV3'<|trivial,by simp<;>omega⟩
   go_upto_region 7 with fail
   refine Rn K1_1 hTw (cG 0 27 [_,_,_,_] []) (oc g_mv<|oc g_mv<|oc (g_ln Tryz.underlying48)<|oc (g_bn (fun uZ=>Z6 _ _ (l.length:Int) (l.length:Int) _ uZ hl)) on) fun u2 HB2 sz2 K2=>?_
   simp only[sQ] at K2⊢
   go_upto_region 14 with fail
   refine Rp K2 HB2 [] [(8,11,L0s,some (9,LN a))] (cG 0 70 [_,_,_,_,_] [(5,69,_),(6,75,_),(7,76,_),(10,12,_)]) [(9,8)] [] [] (oc (g_fd (fdG1 _))<|oc (g_lo 0 4 uN iN)<|oc (g_bd zN)<|oc g_mv<|oc (g_cK ent_Y1 (fun fZ uZ kZ sZ bZ=>hC1.out uZ b2 c2 z2 bZ (kZ.lb sZ 3) hco2 (kZ.cv 3) hall'.out))<|oc g_mv<|oc g_ex<|oc g_ex<|oc (g_al 0 aN)<|oc (g_sn 0 iN)<|oc g_as on) fun u3 b3_8 HB3 sz3 K3=>?_
   simp only[sQ] at K3⊢
   cases hne0:(er !=0)
   ·skip
    go_upto_region 15 with fail
    refine Rn K3 HB3 [(0,77,_),(1,78,_)] (oc g_mv<|oc (g_bn (fun uZ=>Zw _ _ _ er 0 _ uZ hne0)) on) fun u4 HB4 sz4 K4=>?_
    simp only[sQ] at K4⊢
    go_upto_region 17 with fail
    refine Rp K4 HB4 [] [(8,13,L0s,some (9,LN b))] (cG 0 83 [_,_,_,_,_] [(5,82,_),(6,88,_),(7,89,_),(10,14,_)]) [(9,8)] [] [] (oc (g_fd (fdG1 _))<|oc (g_lo 0 4 uN iN)<|oc (g_bd zN)<|oc g_mv<|oc (g_cK ent_Y1 (fun fZ uZ kZ sZ bZ=>hC2.out uZ b3 c3 z3 bZ (kZ.lb sZ 4) hco3 (kZ.cv 4) hall'.out))<|oc g_mv<|oc g_ex<|oc g_ex<|oc (g_al 0 aN)<|oc (g_sn 0 iN)<|oc g_as on) fun u5 b5_8 HB5 sz5 K5=>?_
    simp only[sQ] at K5⊢
    go_upto_region 18 with fail
    refine Rd K5 HB5 [.no,.all 2 (LN a),.all 3 (LN b)] [] [(0,90,_),(1,91,_),(4,6,_)] [] [] [] (oc (g_ld 5 uN iN)<|oc (g_ld 6 uN iN)<|oc (g_st 1 iN)<|oc (g_st 2 iN)<|oc g_as on) fun u6 HB6 sz6 K6=>?_
    simp only[sQ] at K6⊢
    have c4:=(K6.cv 1).n4
    have c5:=(K6.cv 2).n4
    go_wp2
    refine bodyPost_ret (v:= .tuple #[NV a,NV b,iI 0]) (by simp[results,Tryz.results26,go_sem,c4,c5]) rfl ⟨by obtain⟨ea,eb,ee⟩:=hE0.out hall'.out hne0;rw[ea,eb,ee],HB6⟩
   ·skip
    go_upto_region 15 with fail
    refine Rn K3 HB3 [(0,77,_),(1,78,_)] (oc g_mv<|oc (g_bn (fun uZ=>Zw _ _ _ er 0 _ uZ hne0)) on) fun u4 HB4 sz4 K4=>?_
    simp only[sQ] at K4⊢
    go_upto_region 16 with fail
    refine Rp K4 HB4 [.no,.all 3 ([iU (0),iU (0),iU (0),iU (0)]),.all 4 ([iU (0),iU (0),iU (0),iU (0)])] [] (cG 0 79 [_,_,_] [(5,6,_)]) [] [] [] (oc (g_bd zN)<|oc (g_bd zN)<|oc g_mv<|oc (g_st 1 iN)<|oc (g_st 2 iN)<|oc g_as on) fun u5 HB5 sz5 K5=>?_
    simp only[sQ] at K5⊢
    have c4:=(K5.cv 1).n4
    have c5:=(K5.cv 2).n4
    go_wp2
    refine bodyPost_ret (v:= .tuple #[A4 0 0 0 0,A4 0 0 0 0,iI er]) (by simp[results,Tryz.results26,go_sem,c4,c5]) rfl ⟨by obtain⟨ea,eb,ee⟩:=hE1.out hall'.out hne0;rw[ea,eb,ee,NV_0],HB5⟩
theorem ent_Z1:EnT 106:=fun _ _=>by kernel_rfl
theorem ent_Z2:EnT 105:=fun _ _=>by kernel_rfl
theorem ent_Z3:EnT 104:=fun _ _=>by kernel_rfl
theorem ent_Z4:EnT 77:=fun _ _=>by kernel_rfl
theorem ent_Z5:EnT 78:=fun _ _=>by kernel_rfl
theorem ent_Z6:EnT 68:=fun _ _=>by kernel_rfl
theorem ent_Z7:EnT 76:=fun _ _=>by kernel_rfl
theorem pToldN(n:Int)(D:Nat)(v:Value)(w:World)(hG:GP w)(hv:AV n w D v):CC 68 #[v] w (iI n):=by
 obtain⟨w1,ew1⟩: ∃x,w.alloc (.cells #[iI 0] 31)=x:=⟨_,rfl⟩
 have hB1:Bw w w1:=by rw[<-ew1];exact Z1 (Z5 w) _
 have hs1:w1.heap.size=w.heap.size+1:=by rw[<-ew1];simp
 have ht:w1.cell? ⟨w.heap.size,0,none⟩=some (iI 0):=by rw[<-ew1];simp
 have hf:w1.frozen? ⟨w.heap.size,0,none⟩=false:=by rw[<-ew1];simp
 have hA:=cAs n ⟨w.heap.size,0,none⟩ (iI 0) v D w1 (hG.below hB1) (hv.up hB1) ht hf (by simp[hs1])
 clear ht hf
 obtain⟨T,x,rfl⟩:=hv.some
 clear hv
 go_enter Tryz.func68,Tryz.ntmps68
 go_wp2_with (go_at_call 96;refine hA.mono ?_;clear hA;rintro e ua ⟨rfl,hca,hBa⟩)
 exact bodyPost_ret (v:=iI n) (by simp[results,Tryz.results68,go_sem]) rfl ⟨rfl,hB1.trans hBa⟩
abbrev BZ:Value:= .agg L0b.toArray
theorem zB(w:World):(Instr.build 105 [].toArray).run Tryz.prog w= .ok BZ w:=by kernel_rfl
def sXb:ByteArray:=⟨#[88,32]⟩
def sDb:ByteArray:=⟨#[105,116,115,32,100,105,115,116,97,110,99,101,32,102,114,111,109,32,116,104,101,32,111,116,104,101,114,115,32,104,97,115,32,110,111,32,105,110,118,101,114,115,101]⟩
def noI(x:Int):Value:= .iface 143 (.agg #[.string (sXb++tx x),.iface 143 (.agg #[.string sDb,.iface 31 (iI 100)])])
def NLq(ns:List Int)(u:World)(v:Value):Prop:=NL u v ns
theorem NLq.stab{ns:List Int}{u u2:World}{x:Value}(hB:Bw u u2)(h:NLq ns u x):NLq ns u2 x:=NL.up h hB
theorem first_bad{P:Nat->Prop}: ∀n,(∃i,i<n/\ ¬P i)-> ∃j,j<n/\ ¬P j/\ ∀k,k<j->P k
 | 0,h=>by obtain⟨i,hi,_⟩:=h;omega
 | n+1,h=>by
  by_cases c: ∃i,i<n/\ ¬P i
  ·obtain⟨j,h1,h2,h3⟩:=first_bad n c
   exact⟨j,by omega,h2,h3⟩
  ·obtain⟨i,hi,hP⟩:=h
   have e:i=n:=Nat.le_antisymm (by omega) (Nat.le_of_not_lt fun hlt=>c ⟨i,hlt,hP⟩)
   subst e
   exact⟨i,hi,hP,fun k hk=>Classical.byContradiction fun hn=>c ⟨k,hk,hn⟩⟩
theorem baseOf_no(q x0:Int)(sl:Option Addr)(gb go cap j0:Nat)(ns vs:List Int)(w:World)(hq:In q)(hq0:q≠0)(hj0:j0<ns.length)(hx0:Hid (ns.getD j0 0=x0))(hbad:Hid (¬gI q (dsN q ns j0 ns.length%q)=1))(hgd:Hid (∀i,i<j0->gI q (dsN q ns i ns.length%q)=1))(hvl:Hid (vs.length=ns.length))(hvs:Hid (∀i,i<ns.length->gI q (dsN q ns i ns.length%q)=1->IsInv (dsN q ns i ns.length%q) q (vs.getD i 0)))(hix:Hid (∀j,j<ns.length-> ∀W,(Instr.indexAt 27 (.slice sl ns.length cap) (iI j)).run Tryz.prog W= .ok (.pointer (some ⟨gb,go+4*j,none⟩)) W))(hg:ns.length=0\/gb<w.heap.size)(hS:Hid (SN w gb go ns))(hn:Hid (∀k,k<ns.length->In (ns.getD k 0)))(hns:ns.length<=1000):
 CC 77 #[NV q,.slice sl ns.length cap] w (.tuple #[BZ,noI x0]):=by
 have hmk:=mkNt ns.length hns
 go_enter Tryz.func77,Tryz.ntmps77
 go_wp2_with fail
 go_loopw [16] (fun s16 wr=> ∃(k:Nat),k<=j0/\s16=iI (k:Int)/\Bw w wr/\CV wr (w.heap.size) (LN q)/\w.heap.size<wr.heap.size/\CV wr (w.heap.size+1) (L0b)/\w.heap.size+1<wr.heap.size/\CV wr (w.heap.size+1+1) (flN (rowN vs k))/\w.heap.size+1+1<wr.heap.size) (fun s16 _=>j0 -(intOf s16).toNat)
 case atStart=>exact⟨0,by omega,rfl,Z1 (Z1 (Z1 (Z5 w) _) _) _,((CV.new w (LN q) 24).below (Z1 (Z5 (w.alloc (.cells (LN q:List Value).toArray 24))) _) (by simp)).below (Z1 (Z5 ((w.alloc (.cells (LN q:List Value).toArray 24)).alloc (.cells (L0b:List Value).toArray 105))) _) (by simp<;>omega),by (simp<;>omega),(CV.newAt (w.alloc (.cells (LN q:List Value).toArray 24)) L0b 105 _ (by simp)).below (Z1 (Z5 ((w.alloc (.cells (LN q:List Value).toArray 24)).alloc (.cells (L0b:List Value).toArray 105))) _) (by simp<;>omega),by (simp<;>omega),by rw[rowN_0,hvl.out];exact CV.newAt ((w.alloc (.cells (LN q:List Value).toArray 24)).alloc (.cells (L0b:List Value).toArray 105)) _ _ _ (by simp),by (simp<;>omega)⟩
 case round=>
  obtain⟨k,hk,rfl,HBr,C0,lC0,C1,lC1,C2,lC2⟩:=hrel
  have hj:k<ns.length:=by omega
  have hl:decide ((k:Int)<(ns.length:Int))=true:=by simp;omega
  have hX:=hix.out _ hj
  have hX:Hid _:=hX
  have hR:=hS.out.at _ hj
  have hR:Hid _:=hR
  have iz:In (dsN q ns k ns.length):=dsN_In hq hq0 _
  have hD:Hid (∀u,Bw w u->CC 106 #[NV q,iI (k:Int),.slice sl ns.length cap] u (NV (dsN q ns k ns.length))):=fun u bZ=>Va q k sl gb go cap ns u hq hq0 hj hix (hg.imp id (fun h=>Nat.lt_of_lt_of_le h bZ.size)) (hS.out.below2 bZ hg) hn hns
  by_cases hk0:k=j0
  ·obtain⟨x,ex⟩: ∃x,ns.getD k 0=x:=⟨_,rfl⟩
   rw[hk0] at ex
   have hex:=hx0.out
   rw[ex] at hex
   rw[hk0,ex] at hR
   rw[<-hk0] at hR
   clear ex
   have hbd:=hbad.out
   rw[<-hk0] at hbd
   have hI:Hid (∀u,CC 105 #[NV (dsN q ns k ns.length),NV q] u (.tuple #[NV 0,iI 20])):=fun u=>by
    have h:=mInverse_no (dsN q ns k ns.length) q u iz hq hq0 hbd
    rw[<-NV_0] at h;exact h
   obtain⟨z,ez⟩: ∃z,dsN q ns k ns.length=z:=⟨_,rfl⟩
   rw[ez] at iz hD hI
   clear ez hbd hk0
   have K0_1:Bk w.heap.size wr [(false,w.heap.size,LN q),(true,w.heap.size+1,L0b),(true,w.heap.size+1+1,flN (rowN vs k))]:=⟨.c lC0 C0<| .o lC1 (by omega) C1<| .o lC2 (by omega) C2<|trivial,by simp<;>omega⟩
   go_upto_region 3 with fail
   refine Rn K0_1 HBr [(0,17,_)] (oc (g_bn (fun uZ=>Z6 _ _ (k:Int) (ns.length:Int) _ uZ hl)) on) fun u1 HB1 sz1 K1=>?_
   simp only[sQ] at K1⊢
   go_upto_region 4 with fail
   refine Rp K1 HB1 [] [(3,8,L0s,some (5,LN x))] (cG 0 18 [_,_,_] [(4,7,_)]) [(5,3)] [] [] (oc g_mv<|oc (g_ix hX.out)<|oc (g_lf hR.out (hg.resolve_left (by omega)) uN iN)<|oc (g_al 0 aN)<|oc g_as<|oc (g_sn 0 iN) on) fun u2 b2_3 HB2 sz2 K2=>?_
   simp only[sQ] at K2⊢
   go_upto_region 5 with fail
   refine Rd K2 HB2 [] [(9,9,L0s,some (10,LN 0))] (cG 0 22 [_,_,_,_,_,_] [(6,21,_),(7,28,_),(8,29,_),(11,10,_)]) [(10,9)] [] [true,true,true,true,false] (oc (g_ld 0 uN iN)<|oc g_mv<|oc g_mv<|oc (g_cb ent_Z1 hD.out)<|oc (g_ld 0 uN iN)<|oc (g_cl ent_Z2 hI.out)<|oc g_mv<|oc g_ex<|oc g_ex<|oc (g_al 0 aN)<|oc (g_sn 0 iN)<|oc g_as on) fun u3 b3_9 HB3 sz3 K3=>?_
   simp only[sQ] at K3⊢
   go_upto_region 6 with fail
   refine Rn K3 HB3 [(0,30,_),(1,31,_)] (oc g_mv<|oc (g_bn (fun uZ=>Zw _ _ _ 20 0 _ uZ rfl)) on) fun u4 HB4 sz4 K4=>?_
   simp only[sQ] at K4⊢
   go_upto_region 7 with fail
   refine Rp K4 HB4 [.no,.all 9 L0b] [] (cG 0 32 [_,_,_,_,_,_,_,_,_] [(10,5,_)]) [] [] [true,true,true,false] (oc (g_bd zB)<|oc (g_ld 3 uN iN)<|oc (g_cl ent_Z3 (nText x))<|oc (g_bn (fun uZ=>add_st _ _ sXb (tx x) uZ (by decide) (Nat.le_trans (tx_sz x) (by decide))))<|oc (g_mi (miE 100))<|oc (g_bd (bdFl sDb _ _))<|oc (g_mi (miF sDb _ _))<|oc (g_bd (bdFl (sXb++tx x) _ _))<|oc (g_mi (miF (sXb++tx x) _ _))<|oc (g_st 1 Yw)<|oc g_as on) fun u5 HB5 sz5 K5=>?_
   simp only[sQ] at K5⊢
   have c0:=((K5.cv 1) 0 _ rfl).1
   have c1:=((K5.cv 1) 1 _ rfl).1
   have c2:=((K5.cv 1) 2 _ rfl).1
   have c3:=((K5.cv 1) 3 _ rfl).1
   have c4:=((K5.cv 1) 4 _ rfl).1
   have c5:=((K5.cv 1) 5 _ rfl).1
   go_wp2
   exact bodyPost_ret (v:= .tuple #[BZ,.iface 143 (.agg #[.string (sXb++tx x),.iface 143 (.agg #[.string sDb,.iface 31 (iI 100)])])]) (by simp[results,Tryz.results77,go_sem,c0,c1,c2,c3,c4,c5]) rfl ⟨by rw[<-hex];rfl,HB5⟩
  ·have hkx:k<vs.length:=by rw[hvl.out];exact hj
   have hgk:=hgd.out k (by omega)
   have hv:=hvs.out k hj hgk
   obtain⟨x,ex⟩: ∃x,ns.getD k 0=x:=⟨_,rfl⟩
   rw[ex] at hR
   clear ex
   obtain⟨z,ez⟩: ∃z,dsN q ns k ns.length=z:=⟨_,rfl⟩
   rw[ez] at iz hv hgk hD
   clear ez
   have hXL:=V4 (vs:=vs) (k:=k) (by omega)
   have hNx:=Xy (vs:=vs) (k:=k) (by omega)
   rw[Xd (vs:=vs) (k:=k) (by omega)] at C2
   obtain⟨X,eX⟩: ∃X,flN (List.take k vs)=X:=⟨_,rfl⟩
   obtain⟨Z,eZ⟩: ∃Z,flN (List.replicate (List.length vs -(k+1)) 0)=Z:=⟨_,rfl⟩
   rw[eX] at hXL hNx C2
   rw[eZ] at hNx C2
   clear eX eZ
   obtain⟨y,ey⟩: ∃y,vs.getD k 0=y:=⟨_,rfl⟩
   rw[ey] at hv hNx
   clear ey hkx
   have hXL:Hid _:=hXL
   have hNx:Hid _:=hNx
   have K0_1:Bk w.heap.size wr [(false,w.heap.size,LN q),(true,w.heap.size+1,L0b),(true,w.heap.size+1+1,X++LN 0++Z)]:=⟨.c lC0 C0<| .o lC1 (by omega) C1<| .o lC2 (by omega) C2<|trivial,by simp<;>omega⟩
   go_upto_region 3 with fail
   refine Rn K0_1 HBr [(0,17,_)] (oc (g_bn (fun uZ=>Z6 _ _ (k:Int) (ns.length:Int) _ uZ hl)) on) fun u1 HB1 sz1 K1=>?_
   simp only[sQ] at K1⊢
   go_upto_region 4 with fail
   refine Rp K1 HB1 [] [(3,8,L0s,some (5,LN x))] (cG 0 18 [_,_,_] [(4,7,_)]) [(5,3)] [] [true,true,true,false] (oc g_mv<|oc (g_ix hX.out)<|oc (g_lf hR.out (hg.resolve_left (by omega)) uN iN)<|oc (g_al 0 aN)<|oc g_as<|oc (g_sn 0 iN) on) fun u2 b2_3 HB2 sz2 K2=>?_
   simp only[sQ] at K2⊢
   go_upto_region 5 with fail
   refine Rd K2 HB2 [] [(9,9,L0s,some (10,LN y))] (cG 0 22 [_,_,_,_,_,_] [(6,21,_),(7,28,_),(8,29,_),(11,10,_)]) [(10,9)] [] [] (oc (g_ld 0 uN iN)<|oc g_mv<|oc g_mv<|oc (g_cb ent_Z1 hD.out)<|oc (g_ld 0 uN iN)<|oc (g_cl ent_Z2 (fun uZ=>mInverse z q y uZ iz hq hq0 hgk hv))<|oc g_mv<|oc g_ex<|oc g_ex<|oc (g_al 0 aN)<|oc (g_sn 0 iN)<|oc g_as on) fun u3 b3_9 HB3 sz3 K3=>?_
   simp only[sQ] at K3⊢
   go_upto_region 6 with fail
   refine Rn K3 HB3 [(0,30,_),(1,31,_)] (oc g_mv<|oc (g_bn (fun uZ=>Zw _ _ _ 0 0 _ uZ rfl)) on) fun u4 HB4 sz4 K4=>?_
   simp only[sQ] at K4⊢
   go_upto_region 8 with fail
   refine Rp K4 HB4 [.no,.no,.all 4 (X++LN y++Z)] [] (cG 0 41 [_,_,_,_] []) [] [] [true,true,true,false] (oc g_mv<|oc g_mv<|oc (g_ld 3 uN iN)<|oc (g_ix (ixZ _ _ _ k hj))<|oc (g_sm 2 (4*k) X (LN 0) Z (post:=LN y) (hxc:=hXL.out) iN) on) fun u5 HB5 sz5 K5=>?_
   simp only[sQ] at K5⊢
   go_upto_region 9 with fail
   refine Rp K5 HB5 [] [] [(0,45,_),(1,16,_)] [(1,0)] [(1,16)] [] (oc (g_bn (fun uZ=>Zm _ _ (k:Int) 1 ((k+1:Nat):Int) uZ (by omega) (by omega) (by omega)))<|oc g_mv on) fun u6 HB6 _ K6=>?_
   simp only[sQ] at K6⊢
   go_wp2
   refine⟨⟨k+1,by omega,rfl,HB6,(K6.cv 0),(K6.lt 0),(K6.cv 1),(K6.lt 1),by rw[hNx.out];exact(K6.cv 2),(K6.lt 2)⟩,?_⟩
   simp[intOf]<;>omega
theorem combine_no(q t:Int)(sl:Option Addr)(n cap:Nat)(xs:List Int)(ET:TypeId)(ex:Value)(w:World)(hP:Hid (∀u,Bw w u->CC 76 #[NV q,iI (n:Int)] u (.nilIface)))(hA:Hid (∀u,Bw w u->Calls Tryz.prog 78 #[.slice sl n cap] u fun e u'=> ∃y,e= .returned y/\NLq xs u' y/\Bw u u'))(hO:Hid (∀u y,Bw w u->NLq xs u y->CC 77 #[NV q,y] u (.tuple #[BZ,.iface ET ex])))(hT:Hid (∀u,Bw w u->CC 68 #[.iface ET ex] u (iI 100))):
 CC 55 #[NV q,NV t,.slice sl n cap] w (.tuple #[A4 0 0 0 0,iI 100]):=by
 go_enter Tryz.func55,Tryz.ntmps55
 go_upto_region 1 with fail
 obtain⟨v0,hC,HB0,K0⟩:=bx3 w (LN q) 24 (LN t) 24 L0s 24
 rw[hC]
 clear hC
 refine Rn K0 HB0 (cG 0 11 [_,_,_,_] [(4,8,_)]) (oc (g_ld 0 uN iN)<|oc g_mv<|oc (g_ln Tryz.underlying73)<|oc (g_cb ent_Z7 hP.out)<|oc g_as on) fun u1 HB1 _ K1=>?_
 simp only[sQ] at K1⊢
 go_upto_region 2 with fail
 refine Rn K1 HB1 [(0,15,_),(1,16,_)] (oc g_mv<|oc (g_bn (neq_no _ _)) on) fun u2 HB2 _ K2=>?_
 simp only[sQ] at K2⊢
 go_upto_region 4 with fail
 refine Re K2 HB2 [] [(7,9,L0b,some (8,L0b))] [(0,21,_),(1,22,_),(3,24,_),(4,20,_),(5,25,_),(6,26,_),(9,10,_)] [(8,7)] [] [⟨2,23,some 3,NLq xs⟩] [] (oc (g_ld 0 uN iN)<|oc g_mv<|oc (g_cE 0 (NLq xs) ent_Z5 (fun u hB hs=>hA.out u hB))<|oc (g_c2 0 (NLq xs) ent_Z4 (fun uZ yZ bZ hZ=>hO.out uZ yZ bZ hZ))<|oc g_mv<|oc g_ex<|oc g_ex<|oc (g_al 0 al_poly_base)<|oc (g_sn 0 Yw)<|oc g_as on) fun u3 b3_7 v3_2 hv3_2 HB3 _ K3=>?_
 simp only[sQ] at K3⊢
 go_upto_region 5 with fail
 refine Rn K3 HB3 [(0,27,_),(1,28,_)] (oc g_mv<|oc (g_bn (neq_er _ _ _ _)) on) fun u4 HB4 _ K4=>?_
 simp only[sQ] at K4⊢
 go_upto_region 6 with fail
 refine Rp K4 HB4 [.no,.no,.all 3 ([iU (0),iU (0),iU (0),iU (0)])] [] (cG 0 29 [_,_,_] [(4,7,_)]) [] [] [] (oc (g_bd zN)<|oc g_mv<|oc (g_cb ent_Z6 hT.out)<|oc (g_st 2 iN)<|oc g_as on) fun u5 HB5 _ K5=>?_
 simp only[sQ] at K5⊢
 have c6:=(K5.cv 2).n4
 go_wp2
 refine bodyPost_ret (v:= .tuple #[A4 0 0 0 0,iI 100]) (by simp[results,Tryz.results55,go_sem,c6]) rfl ⟨rfl,HB5⟩
def faE(q:Int)(ns:List Int):Int:=if ns.length=0 then 2 else if alG q ns then 0 else 100
theorem alG_iff{q:Int}{ns:List Int}:alG q ns=true↔ ∀i,i<ns.length->gI q (dsN q ns i ns.length%q)=1:=decide_eq_true_iff
def GdV(q:Int)(ns vs:List Int):Prop:=vs.length=ns.length/\ ∀i,i<ns.length->gI q (dsN q ns i ns.length%q)=1->IsInv (dsN q ns i ns.length%q) q (vs.getD i 0)
theorem GdV.invs{q:Int}{ns vs:List Int}(h:GdV q ns vs)(ha:alG q ns=true):Invs q ns vs:=⟨h.1,fun i hi=>h.2 i hi (alG_iff.1 ha i hi)⟩
theorem frS_len(q t:Int)(ns vs:List Int):(frS q t ns vs).length=ns.length:=W6 _ _
theorem xFac(q t:Int)(ns vs:List Int)(v:Value)(w:World)(hq:In q)(hq2:2<=q)(ht:In t)(hv:NL w v ns)(hns: ∀z∈ns,In z)(hl:ns.length<=256)(hg:GdV q ns vs):Calls Tryz.prog 80 #[NV q,NV t,v] w fun e u=> ∃y,e= .returned (.tuple #[y,iI (faE q ns)])/\FRw w.heap.size (faE q ns) (frS q t ns vs) u y/\Bw w u:=by
 obtain⟨sl,gb,go,cap,rfl,h2,h3,h4,h5,h6⟩:=hv
 have hR:=fun u=>xRight q u hq
 rw[decide_eq_true hq2] at hR
 have hM:=fun u=>xMany ns.length u hl
 unfold faE
 by_cases c:ns.length=0
 ·rw[if_pos c]
  rw[decide_eq_false (by omega)] at hM
  exact(xfac_n q t sl cap ns w hR hM).mono fun e u h=>⟨_,h.1,⟨⟨_,_,_,rfl⟩,fun e=>absurd e (by decide)⟩,h.2⟩
 ·rw[if_neg c]
  rw[decide_eq_true (by omega)] at hM
  refine xfac_core q t _ sl gb go cap ns vs (frS q t ns vs) w hq (by omega) ht hR hM (NL.ix (u:=w) h4) h5 h6 (Yc hns) (by omega) (frS_len _ _ _ _) (fun i hi=>by rw[frS,Xg hi]) hg.2 (fun i hi hb=>?_) (fun h=>?_)
  ·rw[if_neg (fun e=>hb (alG_iff.1 e i hi))]
  ·rw[if_pos (alG_iff.2 h)]
def cbX(q t:Int)(vs:List Int)(ps:List (Int×Int)):Int:=if faE q (ps.map Prod.fst)=0 then smN q (fac q t (ps.map Prod.fst) vs) ps ps.length else 0
theorem ixR'{ps:List (Int×Int)}{sl:Option Addr}{gb go cap:Nat}(h:ps=[]\/sl=some ⟨gb,go,none⟩): ∀j,j<ps.length-> ∀W,(Instr.indexAt 77 (.slice sl ps.length cap) (iI j)).run Tryz.prog W= .ok (.pointer (some ⟨gb,go+8*j,none⟩)) W:=fun j hj W=>by
 have e:=h.resolve_left (fun e=>by subst e;simp at hj)
 subst e
 exact ixR gb go ps.length cap j hj W
theorem getP{ps:List (Int×Int)}{k:Nat}(h:k<ps.length):ps.getD k (0,0)∈ps:=by simp[List.getElem?_eq_getElem h]
theorem xCmb(q t:Int)(vs:List Int)(ps:List (Int×Int))(v:Value)(w:World)(hq:In q)(hq2:2<=q)(ht:In t)(hv:PtL w v ps)(hps: ∀p∈ps,In p.1/\In p.2)(hl:ps.length<=256)(hg:GdV q (ps.map Prod.fst) vs):CC 56 #[NV q,NV t,v] w (.tuple #[NV (cbX q t vs ps),iI (faE q (ps.map Prod.fst))]):=by
 obtain⟨sl,gb,go,cap,rfl,h2,h3,h4,h5,h6⟩:=hv
 have hxl:(ps.map Prod.fst).length=ps.length:=by simp
 have hxs: ∀z∈ps.map Prod.fst,In z:=fun z hz=>by
  obtain⟨p,hp,rfl⟩:=List.mem_map.1 hz
  exact(hps p hp).1
 have hF:=fun u v (_:Bw w u) (hv:NL u v (ps.map Prod.fst))=>xFac q t _ vs v u hq hq2 ht hv hxs (by omega) hg
 have hget: ∀i,i<ps.length->(ps.map Prod.fst).getD i 0=(ps.getD i (0,0)).1:=fun i hi=>by simp[List.getElem?_map,List.getElem?_eq_getElem hi]
 have hfe:frS q t (ps.map Prod.fst) vs=fac q t (ps.map Prod.fst) vs:=frS_fac (by omega) hg.1
 rw[hfe] at hF
 have hfl:(fac q t (ps.map Prod.fst) vs).length=ps.length:=by rw[fac_len,hxl]
 exact xcmb q t _ _ sl gb go cap ps (ps.map Prod.fst) (fac q t (ps.map Prod.fst) vs) w (fun e=>if_neg (by simpa using e)) (fun e=>if_pos (by simpa using e)) hfl (fun k hk=>by rw[hfl] at hk;have:=fac_rng (q:=q) (by omega) (t:=t) (xs:=ps.map Prod.fst) (vs:=vs) (i:=k) (by omega);exact⟨this.1,by have:=hq.2;omega⟩) (fun k hk=>(hps _ (getP hk)).2) hq (by omega) (ixR' h4) h5 h6 (by omega) hxl hget hF
theorem cCmb(q t:Int)(vs:List Int)(ps:List (Int×Int))(v:Value)(w:World)(hG:GP w)(hq:In q)(hq2:2<=q)(ht:In t)(hv:PtL w v ps)(hps: ∀p∈ps,In p.1/\In p.2)(h1:1<=ps.length)(hl:ps.length<=256)(hg:GdV q (ps.map Prod.fst) vs):CC 55 #[NV q,NV t,v] w (.tuple #[NV (cbX q t vs ps),iI (faE q (ps.map Prod.fst))]):=by
 have hxl:(ps.map Prod.fst).length=ps.length:=by simp
 have hxs: ∀z∈ps.map Prod.fst,In z:=fun z hz=>by
  obtain⟨p,hp,rfl⟩:=List.mem_map.1 hz
  exact(hps p hp).1
 have hfe:faE q (ps.map Prod.fst)=if alG q (ps.map Prod.fst) then 0 else 100:=by unfold faE;rw[if_neg (by omega)]
 by_cases c:alG q (ps.map Prod.fst)=true
 ·rw[cbX,hfe,if_pos c,if_pos rfl]
  exact cCombine q t vs ps v w hG hq hq2 ht hv hps h1 hl (hg.invs c)
 ·rw[cbX,hfe,if_neg c,if_neg (by decide),NV_0]
  have hv':=hv
  obtain⟨sl,gb,go,cap,rfl,_⟩:=hv
  obtain⟨j0,hj0,hbad,hgd⟩:=first_bad (P:=fun i=>gI q (dsN q (ps.map Prod.fst) i (ps.map Prod.fst).length%q)=1) (ps.map Prod.fst).length (Classical.byContradiction fun hn=>c (alG_iff.2 fun i hi=>Classical.byContradiction fun h=>hn ⟨i,hi,h⟩))
  refine combine_no q t sl _ cap (ps.map Prod.fst) 143 (.agg #[.string (sXb++tx ((ps.map Prod.fst).getD j0 0)),.iface 143 (.agg #[.string sDb,.iface 31 (iI 100)])]) w (cPtsOf hG hq hq2 hl h1) (fun u hB=>?_) (fun u y hB hy=>?_) (fun u hB=>pToldN 100 2 _ u (hG.below hB) ?_)
  ·obtain⟨sl',gb',go',cap',e,h2,h3,h4,h5,h6⟩:=hv'.up hB
   cases e
   exact(allX_core sl gb' go' cap ps (ps.map Prod.fst) u hxl (fun k hk=>by simp[List.getElem?_map,List.getElem?_eq_getElem hk]) (PtL.ix h4) h5 h6 (by omega)).mono fun e u ⟨y,h1,h2,h3⟩=>⟨y,h1,h2.nl,h3⟩
  ·obtain⟨sx,gx,ox,cx,rfl,k2,k3,k4,k5,k6⟩:=(show NL u y (ps.map Prod.fst) from hy)
   exact baseOf_no q _ sx gx ox cx j0 (ps.map Prod.fst) vs u hq (by omega) hj0 rfl hbad hgd hg.1 hg.2 (NL.ix (u:=u) k4) k5 k6 (Yc hxs) (by omega)
  ·exact .flt 1 _ _ (.flt 0 _ _ (.leaf 0))
def oE(p q:Int)(l:List (Int×Int×Int)):Int:=if gOk p q then (if ndsB l then faE q (l.map (·.1)) else 2) else 90
def oX(p q:Int)(vs:List Int)(l:List (Int×Int×Int))(ps:List (Int×Int)):Int:=if oE p q l=0 then cbX q 0 vs ps else 0
theorem nd_In{l:List (Int×Int×Int)}(hn:ndsB l=true)(hl: ∀x∈l,In x.2.1/\In x.2.2): ∀x∈l,(1<=x.1/\x.1<=16)/\In x.2.1/\In x.2.2:=fun x hx=>⟨ndB_iff.1 (List.all_eq_true.1 hn x hx),hl x hx⟩
theorem vOpen(p q g h:Int)(vs:List Int)(l:List (Int×Int×Int))(v:Value)(w:World)(hG:GP w)(hp:In p)(hq:In q)(hv:ShL w v l)(hl: ∀x∈l,In x.2.1/\In x.2.2)(hn:l.length<=16)(hg:GdV q (l.map (·.1)) vs):CC 25 #[GX p q g h,v] w (.tuple #[NV (oX p q vs l (opS l)),NV (oX p q vs l (opT l)),iI (oE p q l)]):=by
 have a':=hv
 obtain⟨sl,gb,go,cap,rfl,_⟩:=hv
 have hC:=fun u=>cCheckG p q g h u hp hq
 unfold oX
 by_cases c1:gOk p q
 ·simp only[chE,if_pos c1] at hC
  have hq3:=c1.q3
  have e1:oE p q l=if ndsB l then faE q (l.map (·.1)) else 2:=by rw[oE,if_pos c1]
  by_cases c2:l.length=0
  ·have e0:oE p q l=2:=by
    rw[e1];unfold faE;rw[List.length_map,if_pos c2];split<;>rfl
   rw[e0,if_neg (by decide),if_neg (by decide),NV_0]
   exact vopn_0 p q g h sl cap l w (by rw[beq_iff_eq];omega) hC
  ·have hH:=fun u (hB:Bw w u)=>vHave l _ u (a'.up hB) (by omega)
   by_cases c3:ndsB l=true
   ·rw[c3] at hH
    rw[c3,if_pos rfl] at e1
    have hin:=op_In (nd_In c3 hl)
    have k1:=fun u (c o:Nat) z (hB:Bw w u) (hc:c<u.heap.size) (ho:l.length<=o) (hcv:CV u c (flN (flt (opS l))++z))=>(by
     have h:=cCmb q 0 vs (opS l) _ u (hG.below hB) hq (by omega) In_0 (pl_rw hc hcv op_len.1 ho) hin.1 (by rw[op_len.1];omega) (by rw[op_len.1];omega) (by rw[op_fst.1];exact hg)
     rw[NV_0,op_fst.1] at h;exact h:CC 55 #[NV q,A4 0 0 0 0,.slice (some ⟨c,0,none⟩) l.length o] u (.tuple #[NV (cbX q 0 vs (opS l)),iI (faE q (l.map (·.1)))]))
    have k2:=fun u (c o:Nat) z (hB:Bw w u) (hc:c<u.heap.size) (ho:l.length<=o) (hcv:CV u c (flN (flt (opT l))++z))=>(by
     have h:=cCmb q 0 vs (opT l) _ u (hG.below hB) hq (by omega) In_0 (pl_rw hc hcv op_len.2 ho) hin.2 (by rw[op_len.2];omega) (by rw[op_len.2];omega) (by rw[op_fst.2];exact hg)
     rw[NV_0,op_fst.2] at h;exact h:CC 55 #[NV q,A4 0 0 0 0,.slice (some ⟨c,0,none⟩) l.length o] u (.tuple #[NV (cbX q 0 vs (opT l)),iI (faE q (l.map (·.1)))]))
    have hP:=fun u (hB:Bw w u)=>vPoints sl cap l u (a'.up hB) (by omega) (by omega) c3
    rw[e1]
    exact vopn p q g h _ _ _ _ _ _ sl cap l w (by rw[beq_eq_false_iff_ne];omega) (by simp;omega) (fun e=>(fun e: ¬faE q (l.map (·.1))=0=>⟨if_neg e,if_neg e⟩) (by simpa using e)) (fun e=>(fun e:faE q (l.map (·.1))=0=>⟨if_pos e,if_pos e,e⟩) (by simpa using e)) hC hH hP k1 k2
   ·rw[Bool.not_eq_true] at c3
    rw[c3] at hH e1
    have e0:oE p q l=2:=e1
    rw[e0,if_neg (by decide),if_neg (by decide),NV_0]
    exact vopn_n p q g h sl cap l w (by rw[beq_eq_false_iff_ne];omega) (by simp;omega) hC hH
 ·simp only[chE,if_neg c1] at hC
  have e0:oE p q l=90:=by rw[oE,if_neg c1]
  rw[e0,if_neg (by decide),if_neg (by decide),NV_0]
  exact vopn_c p q g h sl cap l w hC
theorem xOpen(p q g h:Int)(vs:List Int)(l:List (Int×Int×Int))(v:Value)(w:World)(hp:In p)(hq:In q)(hv:ShL w v l)(hl: ∀x∈l,In x.2.1/\In x.2.2)(hn:l.length<=16)(hg:GdV q (l.map (·.1)) vs):CC 26 #[GX p q g h,v] w (.tuple #[NV (oX p q vs l (opS l)),NV (oX p q vs l (opT l)),iI (oE p q l)]):=by
 obtain⟨sl,gb,go,cap,rfl,h2,h3,h4,h5,h6⟩:=hv
 have hC:=fun u=>xCheckG p q g h u hp hq
 unfold oX
 by_cases c1:gOk p q
 ·simp only[chE,if_pos c1] at hC
  have hq3:=c1.q3
  have e1:oE p q l=if ndsB l then faE q (l.map (·.1)) else 2:=by rw[oE,if_pos c1]
  refine xopn_k p q g h (cbX q 0 vs (opS l)) (cbX q 0 vs (opT l)) (faE q (l.map (·.1))) (faE q (l.map (·.1))) _ _ _ sl gb go cap l w hC (sh_ix h4) h5 (sh_pt h6) (by omega) (fun u c o z hB hc ho hcv hnd=>?_) (fun u c o z hB hc ho hcv hnd=>?_) (fun k hk hb=>?_) (fun hnd he=>?_) (fun hnd he=>?_)
  ·have hin:=op_In (nd_In (nds_get.2 hnd) hl)
   have h:=xCmb q 0 vs (opS l) _ u hq (by omega) In_0 (pl_rw hc hcv op_len.1 ho) hin.1 (by rw[op_len.1];omega) (by rw[op_fst.1];exact hg)
   rw[NV_0,op_fst.1] at h;exact h
  ·have hin:=op_In (nd_In (nds_get.2 hnd) hl)
   have h:=xCmb q 0 vs (opT l) _ u hq (by omega) In_0 (pl_rw hc hcv op_len.2 ho) hin.2 (by rw[op_len.2];omega) (by rw[op_fst.2];exact hg)
   rw[NV_0,op_fst.2] at h;exact h
  ·have c3:ndsB l=false:=by
    rw[Bool.eq_false_iff];intro e
    rw[nds_get.1 e k hk] at hb;cases hb
   have e0:oE p q l=2:=by rw[e1,c3];rfl
   rw[e0,if_neg (by decide),if_neg (by decide)];exact⟨rfl,rfl,rfl⟩
  ·rw[nds_get.2 hnd,if_pos rfl] at e1
   have he: ¬faE q (l.map (·.1))=0:=by simpa using he
   rw[e1,if_neg he,if_neg he];exact⟨rfl,rfl,rfl⟩
  ·rw[nds_get.2 hnd,if_pos rfl] at e1
   have he:faE q (l.map (·.1))=0:=by simpa using he
   rw[e1,he,if_pos rfl,if_pos rfl];exact⟨rfl,rfl,rfl⟩
 ·simp only[chE,if_neg c1] at hC
  have e0:oE p q l=90:=by rw[oE,if_neg c1]
  rw[e0,if_neg (by decide),if_neg (by decide),NV_0]
  exact xopn_c p q g h sl cap l w hC
theorem bsS0z(w:World):(Instr.buildSlice 48 0 #[]).run Tryz.prog w= .ok (.slice (some ⟨w.heap.size,0,none⟩) 0 0) (w.alloc (.cells #[] 35)):=by kernel_rfl
theorem slSh(sl:Option Addr)(n cap k:Nat)(h:k<=n)(hc:n<=cap)(hn:sl=none->cap=0)(w:World):(Instr.sliceAt 48 (.slice sl n cap) none (some (iI k)) none).run Tryz.prog w= .ok (.slice sl k cap) w:=by
 cases sl with
 | none=>
  have e0:=hn rfl
  have e1:n=0:=by omega
  have e2:k=0:=by omega
  subst e0 e1 e2
  show (Instr.sliceAt 48 (.slice none 0 0) none (some (iI 0)) none).run Tryz.prog w=_
  kernel_rfl
 | some a=>
  have h3:k<=cap:=by omega
  simp[Instr.sliceAt,Instr.slice,go_sem,Tryz.underlying48,h3]
def SLq(l:List (Int×Int×Int))(u:World)(v:Value):Prop:=ShL u v l
theorem SLq.stab{l:List (Int×Int×Int)}{u u2:World}{x:Value}(hB:Bw u u2)(h:SLq l u x):SLq l u2 x:=ShL.up h hB
theorem app_s0{u:World}{lo m c:Nat}{sl:Option Addr}{gb go:Nat}{l:List (Int×Int×Int)}{ty:TypeId}{vs:Value}(hlu:lo<=u.heap.size)(h:PZ lo u vs)(hm:l.length=m)(hl:m<=100000)(hs:m=0\/sl=some ⟨gb,go,none⟩)(hS: ∀j v,(flS l)[j]?=some v->u.cell? ⟨gb,go+j,none⟩=some v):
 ∃v u',(Builtin.append_ #[48,48] ty #[vs,.slice sl m c]).run Tryz.prog u= .ok v u'/\Bw u u'/\SLq l u' v:=by
 obtain⟨b,rfl,hlo,hb⟩:=h
 obtain⟨ti,hti,htm⟩:=Option.map_eq_some_iff.1 infoSh
 simp only[Prod.mk.injEq] at htm
 obtain⟨hzv,hsz,hby⟩:=htm
 obtain⟨v',u',hr,hB,hg⟩:=run_appF (P:=Tryz.prog) u (ty:=ty) Tryz.underlying48 hti hzv (by rw[hsz];rfl) (lo:=lo) (n:=0) (m:=m) (xs:=[]) (news:=flS l) (y:= .slice sl m c) (fun j v h=>by simp at h) hlo hlu hb (by rw[hsz];rfl) ⟨sl,c,rfl,hs.imp id fun e=>⟨_,e,fun j v hj=>by
  have e1:(⟨gb,go,none⟩:Addr).add j=⟨gb,go+j,none⟩:=by unfold Addr.add;split<;>simp_all
  rw[e1];exact hS j v hj⟩⟩ (by rw[hsz,flS_len];omega) (by rw[hby];omega) (by omega)
 rw[hsz,List.nil_append,Nat.zero_add] at hg
 obtain⟨b2,c2,zs,rfl,h1,h2,h3,h4,h5⟩:=hg
 exact⟨_,u',hr,hB,sh_row h2 h5 hm h3⟩
theorem ent_OL1:EnT 25:=fun _ _=>by kernel_rfl
theorem ent_OL2:EnT 26:=fun _ _=>by kernel_rfl
theorem ent_OL3:EnT 15:=fun _ _=>by kernel_rfl
theorem vssOpens_core(p q g h a b er:Int)(sl:Option Addr)(len cap k gb go:Nat)(l:List (Int×Int×Int))(w:World)(hV:VOK w)(hmin:min ((len:Nat):Int) 10=((k:Nat):Int))(hkl:k<=len)(hlc:len<=cap)(hsn:sl=none->cap=0)(hlk:l.length=k)(hk10:k<=10)(hsl:k=0\/sl=some ⟨gb,go,none⟩)(hgb:k=0\/gb<w.heap.size)(hcs:Hid (∀j v,(flS l)[j]?=some v->w.cell? ⟨gb,go+j,none⟩=some v))(ia:In a)(ib:In b)(hOp:Hid (∀u y,Bw w u->SLq l u y->CC 25 #[GX p q g h,y] u (.tuple #[NV a,NV b,iI er])))(hRf:Hid (∀u,Bw w u->CC 26 #[GX p q g h,.slice sl k cap] u (.tuple #[NV a,NV b,iI er]))):
 CC 5 #[GX p q g h,.slice sl len cap] w (.bool true):=by
 go_enter Tryz.func5,Tryz.ntmps5
 go_upto_region 1 with fail
 obtain⟨v0,hC,HB0,K0⟩:=bx1 w (GE p q g h) 26
 rw[hC]
 clear hC
 refine Rp K0 HB0 [] [] (cG 0 11 [_,_,_,_,_] [(5,1,_)]) [(5,0),(5,1)] [(5,1)] [] (oc g_mv<|oc g_mv<|oc (g_ln Tryz.underlying48)<|oc (g_mn hmin)<|oc (g_sl (slSh sl len cap k hkl hlc hsn))<|oc g_as on) fun u1 HB1 _ K1=>?_
 simp only[sQ] at K1⊢
 have hTu:=HB1
 go_upto_region 2 with fail
 refine Re K1 HB1 [] [(9,5,L0s,some (11,LN a)),(10,6,L0s,some (12,LN b))] [(0,17,_),(2,19,_),(4,21,_),(5,16,_),(6,22,_),(7,23,_),(8,24,_),(13,7,_)] [(11,9),(12,10)] [] [⟨1,18,some 3,PZ u1.heap.size⟩,⟨3,20,some 4,SLq l⟩] [] (oc (g_ld 0 Tryz.underlying26 Z0)<|oc (g_bs 0 (PZ u1.heap.size) bsS0z (fun u hu=>PZ.new hu))<|oc g_mv<|oc (g_a1 0 1 (PZ u1.heap.size) (SLq l) (fun u vs hB hs h=>app_s0 (lo:=u1.heap.size) hs h hlk (by omega) hsl (fun j v hj=>(hB.cell (p:=⟨gb,go+j,none⟩) (hgb.resolve_left (by intro e;rw[List.eq_nil_of_length_eq_zero (by omega:l.length=0)] at hj;simp[flS] at hj))).trans (hcs.out j v hj))))<|oc (g_c2 1 (SLq l) ent_OL1 (fun uZ yZ bZ hZ=>hOp.out uZ yZ bZ hZ))<|oc g_mv<|oc g_ex<|oc g_ex<|oc g_ex<|oc (g_al 0 aN)<|oc (g_al 1 aN)<|oc (g_sn 0 iN)<|oc (g_sn 1 iN)<|oc g_as on) fun u2 b2_9 b2_10 v2_1 hv2_1 v2_3 hv2_3 HB2 _ K2=>?_
 simp only[sQ] at K2⊢
 go_upto_region 3 with fail
 refine Rp K2 HB2 [] [(7,8,L0s,some (9,LN a)),(8,9,L0s,some (10,LN b))] (cG 0 26 [_,_,_] [(3,25,_),(4,29,_),(5,30,_),(6,31,_),(11,10,_)]) [(9,7),(10,8)] [] [] (oc (g_ld 0 Tryz.underlying26 Z0)<|oc g_mv<|oc (g_cb ent_OL2 hRf.out)<|oc g_mv<|oc g_ex<|oc g_ex<|oc g_ex<|oc (g_al 0 aN)<|oc (g_al 1 aN)<|oc (g_sn 0 iN)<|oc (g_sn 1 iN)<|oc g_as on) fun u3 b3_7 b3_8 HB3 _ K3=>?_
 simp only[sQ] at K3⊢
 go_upto_region 4 with fail
 refine Rn K3 HB3 (cG 0 32 [_,_,_,_,_,_,_,_,_,_,_,_,_,_,_,_] [(16,4,_)]) (oc (g_ld 1 uN iN)<|oc (g_ld 3 uN iN)<|oc (g_bn (fun uZ=>eql_n _ _ ia ia true (by simp) uZ))<|oc g_mv<|oc (g_ld 2 uN iN)<|oc (g_ld 4 uN iN)<|oc (g_bn (fun uZ=>eql_n _ _ ib ib true (by simp) uZ))<|oc g_pk<|oc g_mv<|oc g_mv<|oc g_mv<|oc (g_bn (fun uZ=>T4 _ _ _ er er _ uZ (beq_self_eq_true er)))<|oc g_pk<|oc g_mv<|oc (g_cb ent_OL3 (fun uZ bZ=>works11 uZ (hV.up bZ)))<|oc g_pk<|oc g_as on) fun u4 HB4 _ K4=>?_
 simp only[sQ] at K4⊢
 go_wp2
 refine bodyPost_ret (v:= .bool true) (by simp[results,Tryz.results5,go_sem,]) rfl ⟨rfl,HB4⟩
end
section
open Go.ChangeShapes Go.WideShapes Go.ChangeAt Go.RowKit
abbrev gS(l:List (Int×Int×Int))(i:Nat):Int×Int×Int:=l.getD i (0,0,0)
theorem list_ofS{p:Nat->Int×Int×Int->Prop}: ∀n,(∀i,i<n-> ∃z,p i z)-> ∃l:List (Int×Int×Int),l.length=n/\ ∀i,i<n->p i (gS l i)
 | 0,_=>⟨[],rfl,fun i hi=>by omega⟩
 | n+1,h=>by
  obtain⟨ns,hl,hp⟩:=list_ofS n (fun i hi=>h i (by omega))
  obtain⟨z,hz⟩:=h n (by omega)
  refine⟨ns++[z],by simp[hl],fun i hi=>?_⟩
  by_cases e:i=n
  ·subst e
   have:gS (ns++[z]) i=z:=by rw[<-hl];simp[gS]
   rw[this];exact hz
  ·have:gS (ns++[z]) i=gS ns i:=by simp[gS,List.getElem?_append_left (show i<ns.length by omega)]
   rw[this];exact hp i (by omega)
theorem flS_atg: ∀(l:List (Int×Int×Int)) (j:Nat) (v:Value),(flS l)[j]?=some v->j/9<l.length/\(SE (gS l (j/9)).1 (gS l (j/9)).2.1 (gS l (j/9)).2.2)[j%9]?=some v
 | [],j,v,h=>by simp[flS] at h
 | n::r,j,v,h=>by
  rw[flS] at h
  by_cases hj:j<9
  ·rw[List.getElem?_append_left (by show j<9;exact hj)] at h
   rw[show j/9=0 by omega,show j%9=j by omega]
   exact⟨by simp,by simpa [gS] using h⟩
  ·rw[List.getElem?_append_right (by show 9<=j;omega)] at h
   have h:(flS r)[j -9]?=some v:=h
   have:=flS_atg r (j -9) v h
   rw[show j/9=(j -9)/9+1 by omega,show j%9=(j -9)%9 by omega]
   exact⟨by simpa using this.1,by simpa [gS] using this.2⟩
theorem shareCells{H:Type}{enc:TypeId×Value->H}{W:World}{bs fuel:Nat}{sp:Nat->Bool}{held:Bool}{l:List Value}{x:DataW H×List MemPlace}(hf:DataW.trod enc Tryz.prog W bs sp held fuel 35 l=some x):
 ∃n s t,l=SE n s t/\(-9223372036854775808<=n/\n<9223372036854775808)/\In s/\In t:=by
 obtain⟨y0,y1,y2,m,_,hl,h0,h1,h2⟩:=Go.Deep.trod_struct3 Tryz.underlying35 hf
 rw[Tryz.cells35] at hl
 have h0:DataW.trod enc Tryz.prog W bs sp held m 3 ((l.drop 0).take (Tryz.prog.cellsOf 3))=some y0:=h0
 have h1:DataW.trod enc Tryz.prog W bs sp held m 24 ((l.drop 1).take (Tryz.prog.cellsOf 24))=some y1:=h1
 have h2:DataW.trod enc Tryz.prog W bs sp held m 24 ((l.drop 5).take (Tryz.prog.cellsOf 24))=some y2:=h2
 rw[cellsI] at h0
 rw[Tryz.cells24] at h1 h2
 match l,hl,h0,h1,h2 with
 | [c0,c1,c2,c3,c4,c5,c6,c7,c8],_,h0,h1,h2=>
  obtain⟨n,e0,_,w0⟩:=DataW.trod_int Tryz.underlying3 h0
  obtain⟨s,hs,es⟩:=trodN h1
  obtain⟨t,ht,et⟩:=trodN h2
  simp at e0
  refine⟨n,s,t,?_,int_of w0,hs,ht⟩
  have e:SE n s t=iI n::(LN s++LN t):=rfl
  rw[e,<-es,<-et,e0];rfl
theorem row_share{H:Type}{enc:TypeId×Value->H}{W:World}{bs fuel base:Nat}{sp:Nat->Bool}{held:Bool}{a:Addr}{cs:List Value}{x:DataW H×List MemPlace}(h1:W.cells? base a 9=some cs)(h:DataW.trod enc Tryz.prog W bs sp held fuel 35 cs=some x):
 ∃z:Int×Int×Int,(In z.2.1/\In z.2.2)/\ ∀c v,(SE z.1 z.2.1 z.2.2)[c]?=some v->W.cell? (a.add c)=some v:=by
 obtain⟨_,hl,hc⟩:=World.cells?_some h1
 obtain⟨n,s,t,rfl,_,hs,ht⟩:=shareCells h
 refine⟨(n,s,t),⟨hs,ht⟩,fun c v hv=>?_⟩
 have hlt:c<9:=(List.getElem?_eq_some_iff.1 hv).1
 rw[hc c hlt];exact hv
theorem open_shares(L:Nat){H:Type}{enc:TypeId×Value->H}{W:World}{base:Nat}{v0:Value}{x:DataW H}{p:List MemPlace}(hv:Value.okWide Tryz.prog W .any base 48 v0)(h:DataW.Trod enc Tryz.prog W 0 (fun _=>true) true 48 v0 x p):
 ∃sl len cap gb go,∃ns:List (Int×Int×Int),v0= .slice sl len cap/\(min len L)=ns.length/\len<=cap/\(sl=none->cap=0)/\(cap=0\/sl=some ⟨gb,go,none⟩)/\(ns.length=0\/gb<W.heap.size)/\(∀j v,(flS ns)[j]?=some v->W.cell? ⟨gb,go+j,none⟩=some v)/\ ∀z∈ns,In z.2.1/\In z.2.2:=by
 obtain⟨a0,len,cap,rfl⟩:=okWide_slice Tryz.underlying48 hv
 obtain⟨fuel,hf⟩:=h
 rcases Go.Deep.open_slice Tryz.underlying48 hf with⟨hcs,hx⟩ | ⟨ad,len',cap',m,n,D,Pl,hcs,hbs,hl,hm,hmm,hx,hall⟩
 ·simp[Value.cells] at hcs
  obtain⟨rfl,rfl,rfl⟩:=hcs
  exact⟨_,_,_,0,0,[],rfl,by simp,Nat.le_refl _,fun _=>rfl,.inl rfl,.inl rfl,(fun j v hj=>by simp[flS] at hj),fun z hz=>(by cases hz)⟩
 ·simp[Value.cells] at hcs
  obtain⟨rfl,rfl,rfl⟩:=hcs
  simp only[if_true] at hmm
  by_cases h0:cap=0
  ·subst h0
   have e:len=0:=by omega
   subst e
   exact⟨_,_,_,0,0,[],rfl,by simp,Nat.le_refl _,fun _=>rfl,.inl rfl,.inl rfl,(fun j v hj=>by simp[flS] at hj),fun z hz=>(by cases hz)⟩
  ·have hrow: ∀i,i<cap-> ∃z:Int×Int×Int,(In z.2.1/\In z.2.2)/\ ∀c v,(SE z.1 z.2.1 z.2.2)[c]?=some v->W.cell? ((ad.add (i*9)).add c)=some v:=fun i hi=>by
    obtain⟨cs,k1,k2⟩:=hall i (by rw[hmm];exact hi)
    rw[Tryz.cells35] at k1
    exact row_share k1 k2
   obtain⟨gb,go,spot⟩:=ad
   have hspot:spot=none:=by
    obtain⟨z,_,hz⟩:=hrow 0 (by omega)
    have:=hz 0 _ rfl
    simpa [Addr.add] using World.cell?_spot this
   subst hspot
   have hadd: ∀i c:Nat,((⟨gb,go,none⟩:Addr).add (i*9)).add c=⟨gb,go+(i*9+c),none⟩:=fun i c=>by unfold Addr.add;(repeat' split)<;>simp_all<;>omega
   obtain⟨ns,hnl,hnp⟩:=list_ofS (min len L) (fun i hi=>hrow i (by omega))
   have hblk:gb<W.heap.size:=by
    obtain⟨z,_,hz⟩:=hrow 0 (by omega)
    have:=hz 0 _ rfl
    rw[hadd] at this
    exact World.block_lt_of_cell? W _ this
   refine⟨_,_,_,gb,go,ns,rfl,hnl.symm,hl,fun e=>(by cases e),.inr rfl,.inr hblk,fun j v hj=>?_,fun z hz=>?_⟩
   ·obtain⟨k1,k2⟩:=flS_atg ns j v hj
    have:=(hnp (j/9) (by omega)).2 (j%9) v k2
    rwa [hadd,show j/9*9+j%9=j by omega] at this
   ·obtain⟨j,hj,rfl⟩:=List.mem_iff_getElem.1 hz
    have:=(hnp j (by omega)).1
    simpa [gS,List.getElem?_eq_getElem hj] using this
theorem oX_In{p q:Int}{vs:List Int}{l:List (Int×Int×Int)}{ps:List (Int×Int)}(hq:In q):In (oX p q vs l ps):=by
 unfold oX
 split
 ·rename_i c
  have hg:gOk p q:=by
   unfold oE at c
   split at c
   ·assumption
   ·cases c
  have:=hg.q3
  unfold cbX
  split
  ·exact smN_In hq (by omega) _
  ·exact In_0
 ·exact In_0
theorem vssOpens_any(p q g h:Int)(sl:Option Addr)(len cap gb go:Nat)(l:List (Int×Int×Int))(w:World)(hG:GP w)(hp:In p)(hq:In q)(hg:In g)(hh:In h)(n1:min len 10=l.length)(n2:len<=cap)(n3:sl=none->cap=0)(n4:cap=0\/sl=some ⟨gb,go,none⟩)(n5:l.length=0\/gb<w.heap.size)(n6: ∀j v,(flS l)[j]?=some v->w.cell? ⟨gb,go+j,none⟩=some v)(n7: ∀z∈l,In z.2.1/\In z.2.2):
 CC 5 #[GX p q g h,.slice sl len cap] w (.bool true):=by
 have hS:ShL w (.slice sl l.length cap) l:=⟨sl,gb,go,cap,rfl,by omega,n3,n4.imp (fun e=>List.eq_nil_of_length_eq_zero (by omega)) id,n5,n6⟩
 have hA: ∃vs,(∀u y,Bw w u->SLq l u y->CC 25 #[GX p q g h,y] u (.tuple #[NV (oX p q vs l (opS l)),NV (oX p q vs l (opT l)),iI (oE p q l)]))/\ ∀u,Bw w u->CC 26 #[GX p q g h,.slice sl l.length cap] u (.tuple #[NV (oX p q vs l (opS l)),NV (oX p q vs l (opT l)),iI (oE p q l)]):=by
  by_cases hq0:0<q
  ·obtain⟨vs,hv⟩:=gd_vs hq0 (l.map (·.1))
   exact⟨vs,fun u y hB hy=>vOpen p q g h vs l y u (hG.below hB) hp hq hy n7 (by omega) hv,fun u hB=>xOpen p q g h vs l _ u hp hq (hS.up hB) n7 (by omega) hv⟩
  ·have hng: ¬gOk p q:=fun e=>by have:=e.q3;omega
   have e0:oE p q l=90:=by rw[oE,if_neg hng]
   refine⟨[],fun u y hB hy=>?_,fun u hB=>?_⟩
   ·obtain⟨sl',_,_,cap',rfl,_⟩:=(show ShL u y l from hy)
    have hC:=fun u=>cCheckG p q g h u hp hq
    simp only[chE,if_neg hng] at hC
    simp only[oX,e0,if_neg (show ¬(90:Int)=0 by decide),NV_0]
    exact vopn_c p q g h sl' cap' l u hC
   ·have hC:=fun u=>xCheckG p q g h u hp hq
    simp only[chE,if_neg hng] at hC
    simp only[oX,e0,if_neg (show ¬(90:Int)=0 by decide),NV_0]
    exact xopn_c p q g h sl cap l u hC
 obtain⟨vs,hO,hR⟩:=hA
 exact vssOpens_core p q g h _ _ _ sl len cap l.length gb go l w (vOK hG) (by omega) (by omega) n2 n3 rfl (by omega) (n4.imp (fun e=>by omega) id) n5 n6 (oX_In hq) (oX_In hq) hO hR
end
end Go.Proofs.YtmoimodkopjeeaaGreatDoor
