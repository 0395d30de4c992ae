import Derived.Test.YtclafkfelkmigaaGreatDoorAKR
import Derived.Deep.SlicePairs
namespace Go.Proofs.YtclafkfelkmigaaGreatDoor
set_option linter.unusedVariables false
set_option linter.unusedSimpArgs false
set_option maxRecDepth 100000
set_option maxHeartbeats 4000000
section
open Go.RowKit
theorem GP.gt{w:World}(h:GP w):GT w:=⟨by have:=h.sz;omega,h.tab⟩
theorem op_len{l:List (Int×Int×Int)}:(opS l).length=l.length/\(opT l).length=l.length:=⟨by simp[opS],by simp[opT]⟩
theorem op_fst{l:List (Int×Int×Int)}:(opS l).map Prod.fst=l.map (·.1)/\(opT l).map Prod.fst=l.map (·.1):=⟨by simp[opS,Function.comp_def],by simp[opT,Function.comp_def]⟩
theorem op_In{l:List (Int×Int×Int)}(h: ∀x∈l,(1<=x.1/\x.1<=16)/\In x.2.1/\In x.2.2):(∀p∈opS l,In p.1/\In p.2)/\ ∀p∈opT l,In p.1/\In p.2:=by
 constructor<;>intro p hp
 ·obtain⟨x,hx,rfl⟩:=List.mem_map.1 hp
  exact⟨⟨by have:=(h x hx).1;omega,by have:=(h x hx).1;show x.1<_;omega⟩,(h x hx).2.1⟩
 ·obtain⟨x,hx,rfl⟩:=List.mem_map.1 hp
  exact⟨⟨by have:=(h x hx).1;omega,by have:=(h x hx).1;show x.1<_;omega⟩,(h x hx).2.2⟩
theorem EJN.no{w:World}{v:Value}{es:List Int}(h:EJN w v es)(he:es=[]):v= .nilIface:=h.elim And.left fun⟨_,h⟩=>absurd he h.ne
theorem EJN.yes{w:World}{v:Value}{es:List Int}(h:EJN w v es)(he:es≠[]): ∃T x,v= .iface T x:=h.elim (fun h=>absurd h.2 he) fun⟨_,h⟩=>h.some
theorem EJN.wrap{w:World}{T:TypeId}{x:Value}{es:List Int}(s:ByteArray)(h:EJN w (.iface T x) es):EJN w (FJ s (.iface T x)) es:=h.elim (fun h=>by cases h.1) fun⟨d,h⟩=>.flt s h
theorem bE_ch(p q:Int):bE (chE p q !=0) (chE p q)=bE (!decide (gOk p q)) 90:=by
 unfold chE;by_cases h:gOk p q<;>simp[h,bE]
theorem jItoa(n:Int)(w:World)(hG:GP w)(h: -9223372036854775808<=n/\n<=9223372036854775807):Calls Tryz.prog 46 #[iI n] w fun e u=> ∃s:ByteArray,e= .returned (.string s)/\s.size<=21/\Bw w u:=
 (cItoa n w h.1 h.2 hG).mono fun e u ⟨h1,h2⟩=>⟨_,h1,ia_sz n h.1 h.2,h2⟩
theorem jGroup(p q g h:Int)(w:World)(hp:In p)(hq:In q):Calls Tryz.prog 25 #[GX p q g h] w fun r u=> ∃v,r= .returned v/\EJN u v (bE (!decide (gOk p q)) 90)/\Bw w u:=by
 rw[<-bE_ch]
 have hC:=fun u=>cCheckG p q g h u hp hq
 obtain⟨c,ec⟩: ∃c,chE p q=c:=⟨_,rfl⟩
 simp only[ec] at hC⊢
 have hC:Hid _:=hC
 clear ec hp hq
 go_enter Tryz.func25,Tryz.ntmps25
 go_wp2_with (first
  | (go_at_call 51;refine(hC.out _).mono ?_;clear hC;rintro e ua ⟨rfl,hBa⟩)
  | (go_at_call 50;refine(jFound _ _ _).mono ?_;rintro e ub ⟨v,rfl,hv,hBb⟩;have hv:Hid _:=hv))
 exact bodyPost_ret (v:=v) (by simp[results,Tryz.results25,go_sem]) rfl ⟨v,rfl,hv.out,Z2 (Z2 (Z1 (Z5 w) _) hBa) hBb⟩
theorem jDealing(p q g h d:Int)(ns:List Int)(v:Value)(w:World)(hG:GP w)(hp:In p)(hq:In q)(hv:NL w v ns)(hns: ∀z∈ns,In z)(hl:ns.length<=50):Calls Tryz.prog 45 #[GX p q g h,DX d v] w fun r u=> ∃v,r= .returned v/\EJN u v (bE (dcE p q d ns !=0) (dcE p q d ns))/\Bw w u:=by
 have hC:Hid (∀u,Bw w u->CC 55 #[GX p q g h,DX d v] u (iI (dcE p q d ns))):=fun u hB=>vCheck p q g h d ns v u (hG.gt.below hB) hp hq (hv.up hB) hns hl
 obtain⟨c,ec⟩: ∃c,dcE p q d ns=c:=⟨_,rfl⟩
 simp only[ec] at hC⊢
 obtain⟨sl,gb,go,cap,rfl,_⟩:=hv
 clear ec hp hq hns
 go_enter Tryz.func45,Tryz.ntmps45
 go_wp2_with (first
  | (go_at_call 55;refine(hC.out _ (Z1 (Z1 (Z5 w) _) _)).mono ?_;clear hC;rintro e ua ⟨rfl,hBa⟩)
  | (go_at_call 50;refine(jFound _ _ _).mono ?_;rintro e ub ⟨v,rfl,hv,hBb⟩;have hv:Hid _:=hv))
 exact bodyPost_ret (v:=v) (by simp[results,Tryz.results45,go_sem]) rfl ⟨v,rfl,hv.out,Z2 (Z2 (Z1 (Z1 (Z5 w) _) _) hBa) hBb⟩
theorem jAtLeast(t:ByteArray)(n l k:Int)(w:World)(hG:GP w)(hn: -9223372036854775808<=n/\n<=9223372036854775807)(ht:t.size<=100):Calls Tryz.prog 26 #[.string t,iI n,iI l,iI k] w fun r u=> ∃v,r= .returned v/\EJN u v (bE (decide (n<l)) k)/\Bw w u:=by
 have m1:=miEj
 have m2:=miFj
 by_cases h:n<l
 ·have hI:=jItoa n w hG hn
  rw[decide_eq_true h]
  have hw1: ¬9223372036854775807<t.size+7:=by omega
  go_enter Tryz.func26,Tryz.ntmps26
  go_wp2_with (go_at_call 46;refine hI.mono ?_;clear hI;rintro e ua ⟨s,rfl,hs,hBa⟩;have hw2: ¬9223372036854775807<t.size+7+s.size:=by omega)
  go_ret;exact⟨_,rfl,.one _ _ k,hBa⟩
 ·rw[decide_eq_false h]
  go_enter Tryz.func26,Tryz.ntmps26
  go_wp2
  exact bodyPost_ret (v:= .nilIface) (by simp[results,Tryz.results26,go_sem]) rfl ⟨_,rfl,.nil _,Below.refl _ _⟩
theorem jAtMost(t:ByteArray)(n:Int)(w:World)(hG:GP w)(hn: -9223372036854775808<=n/\n<=9223372036854775807)(ht:t.size<=100):Calls Tryz.prog 27 #[.string t,iI n] w fun r u=> ∃v,r= .returned v/\EJN u v (bE (!decide (0<=n/\n<=16)) 2)/\Bw w u:=by
 have hI:=jItoa n w hG hn
 have hw1: ¬9223372036854775807<t.size+13:=by omega
 go_enter Tryz.func27,Tryz.ntmps27
 go_wp2_with (first
  | (go_at_call 46;refine hI.mono ?_;clear hI;rintro e ua ⟨s,rfl,hs,hBa⟩;have hw2: ¬9223372036854775807<t.size+13+s.size:=by omega)
  | (go_at_call 52;refine(jWithin _ _ _ _ _).mono ?_;rintro e ub ⟨v,rfl,hv,hBb⟩;have hv:Hid _:=hv))
 exact bodyPost_ret (v:=v) (by simp[results,Tryz.results27,go_sem]) rfl ⟨v,rfl,hv.out,Z2 hBa hBb⟩
theorem jNode(n:Int)(w:World)(hG:GP w)(hn: -9223372036854775808<=n/\n<=9223372036854775807):Calls Tryz.prog 76 #[iI n] w fun r u=> ∃v,r= .returned v/\EJN u v (bE (!ndB n) 2)/\Bw w u:=by
 have hI:=jItoa n w hG hn
 unfold ndB
 go_enter Tryz.func76,Tryz.ntmps76
 go_wp2_with (first
  | (go_at_call 46;refine hI.mono ?_;clear hI;rintro e ua ⟨s,rfl,hs,hBa⟩;have hw2: ¬9223372036854775807<5+s.size:=by omega)
  | (go_at_call 52;refine(jWithin _ _ _ _ _).mono ?_;rintro e ub ⟨v,rfl,hv,hBb⟩;have hv:Hid _:=hv))
 exact bodyPost_ret (v:=v) (by simp[results,Tryz.results76,go_sem]) rfl ⟨v,rfl,hv.out,Z2 hBa hBb⟩
theorem jJoin(vs:List Value)(es:List (List Int))(T:TypeId)(w:World)(hl:vs.length=es.length)(hn:vs.length<=10)(h: ∀i,i<vs.length->EJN w (vs.getD i .nilIface) (es.getD i [])):Calls Tryz.prog 24 #[.slice (some ⟨w.heap.size,0,none⟩) vs.length vs.length] (w.alloc (.cells vs.toArray T)) fun r u=> ∃y,r= .returned y/\EJN u y es.flatten/\Bw w u:=by
 have hB:Bw w (w.alloc (.cells vs.toArray T)):=Z1 (Z5 w) _
 refine(cJoinJ vs.length vs.length (some ⟨w.heap.size,0,none⟩) (fun i=>vs.getD i .nilIface) (fun i=>es.getD i []) _ (by omega) (fun _=>⟨w.heap.size,0,rfl,by simp,fun i hi=>?_⟩) (fun i hi=>(h i hi).up hB)).mono fun r u ⟨y,e1,e2,e3⟩=>⟨y,e1,?_,Z2 hB e3⟩
 ·rw[Nat.zero_add];exact((CV.new w vs T) i _ (by simp[List.getElem?_eq_getElem hi])).1
 ·rwa [hl,range_getD] at e2
theorem rg_up{u w:World}{g o:Nat}{l:List Value}(hB:Bw w u)(hg:g<w.heap.size)(h:w.rangeAt g o l):u.rangeAt g o l:=fun j v hj=>(hB.cell (p:=⟨g,o+j,none⟩) hg).trans (h j v hj)
theorem nds_dr(l:List (Int×Int×Int))(i:Nat)(h:i<l.length):ndsB (l.drop i)=(ndB (l.getD i (0,0,0)).1&&ndsB (l.drop (i+1))):=by
 rw[List.drop_eq_getElem_cons h,ndsB,List.all_cons,<-ndsB,List.getD_eq_getElem?_getD,List.getElem?_eq_getElem h];rfl
abbrev R64(n:Int):Prop:= -9223372036854775808<=n/\n<=9223372036854775807
theorem ofNodes_core(sl:Option Addr)(gb go cap:Nat)(l:List (Int×Int×Int))(b:Bool)(w:World)(hG:GP w)(hix:Hid (∀j,j<l.length-> ∀W,(Instr.indexAt 26 (.slice sl l.length cap) (iI j)).run Tryz.prog W= .ok (.pointer (some ⟨gb,go+9*j,none⟩)) W))(hg:l.length=0\/gb<w.heap.size)(hS:Hid (∀j,j<l.length->w.rangeAt gb (go+9*j) (SE (l.getD j (0,0,0)).1 (l.getD j (0,0,0)).2.1 (l.getD j (0,0,0)).2.2)))(hl0:l.length<=1000)(hr:Hid (∀j,j<l.length->R64 (l.getD j (0,0,0)).1))(hb:Hid (ndsB l=b)):
 Calls Tryz.prog 53 #[.slice sl l.length cap] w fun r u=> ∃v,r= .returned v/\EJN u v (bE (!b) 2)/\Bw w u:=by
 have m2:=miFj
 have m3:=bdFj
 go_enter Tryz.func53,Tryz.ntmps53
 go_wp2_with fail
 go_loopw [8] (fun s8 wr=> ∃i:Nat,i<=l.length/\s8=iI (i:Int)/\Hid (ndsB (l.drop i)=b)/\Bw w wr) (fun s8 _=>l.length -(intOf s8).toNat)
 case atStart=>exact⟨0,by omega,rfl,by rw[List.drop_zero];exact hb,Below.refl _ _⟩
 case round=>
  obtain⟨i,hi,rfl,ht,HBr⟩:=hrel
  by_cases hj:i<l.length
  ·have hl:(i:Int)<(l.length:Int):=by omega
   have hX:=hix.out i hj
   have hR:=rg_up HBr (hg.resolve_left (by omega)) (hS.out i hj)
   have hn0:=hr.out i hj
   have ht2:=ht.out
   rw[nds_dr l i hj] at ht2
   have e1:IntKind.i64.wrap ((i:Int)+1)=((i+1:Nat):Int):=by rw[IntKind.wrap_i64];omega
   generalize l.getD i (0,0,0)=x at *
   obtain⟨n,s,t⟩:=x
   simp only at hR hn0 ht2
   have c0:wr.cell? ⟨gb,go+9*i,none⟩=some (iI n):=hR 0 _ rfl
   have c1:=hR 1 _ rfl
   have c2:=hR 2 _ rfl
   have c3:=hR 3 _ rfl
   have c4:=hR 4 _ rfl
   have c5:=hR 5 _ rfl
   have c6:=hR 6 _ rfl
   have c7:=hR 7 _ rfl
   have c8:=hR 8 _ rfl
   clear hR
   have hN:Hid (∀u,Bw w u->_):=fun u hB=>jNode n u (hG.below hB) hn0
   have hI:Hid (∀u,Bw w u->_):=fun u hB=>jItoa i u (hG.below hB) ⟨by omega,by omega⟩
   cases hn:ndB n
   ·rw[hn] at ht2
    have ht2:Hid _:=ht2
    go_wp2_with (first
     | (go_at_call 76;refine(hN.out _ (Z1 HBr _)).mono ?_;clear hN;rintro e ua ⟨v,rfl,hv,hBa⟩;replace hBa:=Z2 (Z1 HBr _) hBa;rw[hn] at hv;obtain⟨T,x,rfl⟩:=hv.yes (List.cons_ne_nil _ _);have hv:Hid _:=hv)
     | (go_at_call 46;refine(hI.out _ hBa).mono ?_;clear hI;rintro e ub ⟨s,rfl,hs,hBb⟩;have hw2: ¬9223372036854775807<6+s.size:=by omega))
    have e2:b=false:=ht2.out.symm
    subst e2
    go_ret;exact⟨_,rfl,.wrap _ (EJN.up hBb hv.out),Z2 hBa hBb⟩
   ·rw[hn,Bool.true_and] at ht2
    have ht2:Hid _:=ht2
    go_wp2_with (go_at_call 76;refine(hN.out _ (Z1 HBr _)).mono ?_;clear hN;rintro e ua ⟨v,rfl,hv,hBa⟩;rw[hn] at hv;have hv:=hv.no rfl;subst hv)
    exact⟨⟨i+1,by omega,by simp,ht2,Z2 (Z1 HBr _) hBa⟩,by simp[intOf];omega⟩
  ·have hl: ¬(i:Int)<(l.length:Int):=by omega
   go_wp2
   have ht3:=ht.out
   rw[List.drop_eq_nil_of_le (by omega)] at ht3
   subst ht3
   exact bodyPost_ret (v:= .nilIface) (by simp[results,Tryz.results53,go_sem]) rfl ⟨_,rfl,.nil _,HBr⟩
theorem jNodes(l:List (Int×Int×Int))(v:Value)(w:World)(hG:GP w)(hv:ShL w v l)(hl:l.length<=1000)(hr: ∀x∈l,R64 x.1):Calls Tryz.prog 53 #[v] w fun r u=> ∃v,r= .returned v/\EJN u v (bE (!ndsB l) 2)/\Bw w u:=by
 obtain⟨sl,gb,go,cap,rfl,h2,h3,h4,h5,h6⟩:=hv
 exact ofNodes_core sl gb go cap l _ w hG (sh_ix h4) h5 (sh_pt h6) hl (fun j hj=>hr _ (by simp[List.getElem?_eq_getElem hj])) rfl
theorem bsNj(x:Int)(w:World):(Instr.buildSlice 27 1 #[(0,NV x)]).run Tryz.prog w= .ok (.slice (some ⟨w.heap.size,0,none⟩) 1 1) (w.alloc (.cells (LN x:List Value).toArray 36)):=by kernel_rfl
structure DM(w:World)(sl:Option Addr)(gb go n cap:Nat)(dn:Nat->Int)(sy:Nat->Option Addr)(ns:Nat->List Int)(cy gy oy:Nat->Nat):Prop where
 ix: ∀j,j<n-> ∀W,(Instr.indexAt 25 (.slice sl n cap) (iI j)).run Tryz.prog W= .ok (.pointer (some ⟨gb,go+2*j,none⟩)) W
 lt:n=0\/gb<w.heap.size
 at_: ∀j,j<n->w.rangeAt gb (go+2*j) (DE (dn j) (.slice (sy j) (ns j).length (cy j)))
 ixn: ∀j,j<n-> ∀k,k<(ns j).length-> ∀W,(Instr.indexAt 27 (.slice (sy j) (ns j).length (cy j)) (iI k)).run Tryz.prog W= .ok (.pointer (some ⟨gy j,oy j+4*k,none⟩)) W
 ltn: ∀j,j<n->(ns j).length=0\/gy j<w.heap.size
 atn: ∀j,j<n->SN w (gy j) (oy j) (ns j)
 nl: ∀j,j<n->NL w (.slice (sy j) (ns j).length (cy j)) (ns j)
theorem allAt_core(sl:Option Addr)(gb go n cap k:Nat)(dn:Nat->Int)(sy:Nat->Option Addr)(ns:Nat->List Int)(cy gy oy:Nat->Nat)(aa:Nat->List Int)(w:World)(hD:DM w sl gb go n cap dn sy ns cy gy oy)(hn:n<=1000)(hk:k<=1000)(ha0:aa 0=[])(hal:Hid (∀j,(aa j).length<=j))(ha1:Hid (∀j,j<n->aa (j+1)=if k<(ns j).length then aa j++[(ns j).getD k 0] else aa j)):
 Calls Tryz.prog 49 #[iI (k:Int),.slice sl n cap] w fun r u=> ∃v,r= .returned v/\(∃b,OR w.heap.size 4 (aa n).length (flN (aa n)) b u v)/\Bw w u:=by
 have hb1:=bsNj
 have hD:Hid _:=hD
 go_enter Tryz.func49,Tryz.ntmps49
 go_wp2_with fail
 go_loopw [10,5] (fun s10 s5 wr=> ∃(i b:Nat) (v:Value),i<=n/\s10=iI (i:Int)/\v=s5/\Hid (OR w.heap.size 4 (aa i).length (flN (aa i)) b wr v)/\Bw w wr) (fun s10 _ _=>n -(intOf s10).toNat)
 case atStart=>exact⟨0,0,_,by omega,rfl,rfl,by rw[ha0];exact OR.nil _ _ _ _,Below.refl _ _⟩
 case round=>
  obtain⟨i,b,v,hi,rfl,rfl,hO,HBr⟩:=hrel
  obtain⟨so,co,eo⟩:=hO.out.sl
  subst eo
  by_cases hj:i<n
  ·have hl:(i:Int)<(n:Int):=by omega
   have hX:=hD.out.ix i hj
   have hR:=rg_up HBr (hD.out.lt.resolve_left (by omega)) (hD.out.at_ i hj)
   have c0:wr.cell? ⟨gb,go+2*i,none⟩=some (iI (dn i)):=hR 0 _ rfl
   have c1:=hR 1 _ rfl
   clear hR
   have ha:=ha1.out i hj
   have e1:IntKind.i64.wrap ((i:Int)+1)=((i+1:Nat):Int):=by rw[IntKind.wrap_i64];omega
   by_cases hc:k<(ns i).length
   ·have hc':(k:Int)<((ns i).length:Int):=by omega
    rw[if_pos hc] at ha
    have hY:=hD.out.ixn i hj k hc
    have hR0:=(hD.out.atn i hj).at k hc
    have hgy:=(hD.out.ltn i hj).resolve_left (by omega)
    generalize (ns i).getD k 0=x at *
    have hal1:=hal.out i
    have hO2:=hO.out.stab (Z1 (Z5 wr) (.cells (DE (dn i) (.slice (sy i) (ns i).length (cy i)):List Value).toArray 29))
    obtain⟨v2,uc,b2,r2,hg2,hO3,hb2,_,hB2⟩:=app_or (T:=27) (E:=36) (ty:=27) Tryz.underlying27 infoN rfl (by decide) hO2 (by have:=HBr.size;simp;omega) (by omega) (news:=LN x) rfl (one_N x)
    have hR2:=rg_up HBr hgy hR0
    have d0:wr.cell? ⟨gy i,oy i+4*k,none⟩=some (iU (D0 x)):=hR2 0 _ rfl
    have d1:=hR2 1 _ rfl
    have d2:=hR2 2 _ rfl
    have d3:=hR2 3 _ rfl
    have hgy2:gy i<wr.heap.size:=Nat.lt_of_lt_of_le hgy HBr.size
    clear hR2
    have hBc:Bw w uc:=(Z1 HBr _).trans hB2
    clear hO2 hg2 hB2 hR0
    have hO3:Hid _:=hO3
    have ha:Hid _:=ha
    rw[World.size_alloc] at r2
    go_wp2_with (at_builtin;refine Y6 rfl _ _ 27 rfl _ _ _ rfl rfl r2 ?_;clear r2)
    refine⟨⟨i+1,b2,_,by omega,by simp,rfl,?_,hBc⟩,by simp[intOf];omega⟩
    rw[ha.out,V8,List.length_append];exact hO3.out
   ·have hc': ¬(k:Int)<((ns i).length:Int):=by omega
    rw[if_neg hc] at ha
    have ha:Hid _:=ha
    go_wp2
    refine⟨⟨i+1,b,_,by omega,by simp,rfl,?_,Z1 HBr _⟩,by simp[intOf];omega⟩
    rw[ha.out];exact hO.out.stab (Z1 (Z5 wr) _)
  ·have hl: ¬(i:Int)<(n:Int):=by omega
   obtain rfl:i=n:=by omega
   go_wp2
   exact bodyPost_ret (v:= .slice so (aa i).length co) (by simp[results,Tryz.results49,go_sem]) rfl ⟨_,rfl,⟨b,hO.out⟩,HBr⟩
theorem Hid.on{p:Prop}(h:p):Hid p:=h
theorem DM.up{w u:World}{sl:Option Addr}{gb go n cap:Nat}{dn:Nat->Int}{sy:Nat->Option Addr}{ns:Nat->List Int}{cy gy oy:Nat->Nat}(h:DM w sl gb go n cap dn sy ns cy gy oy)(hB:Bw w u):DM u sl gb go n cap dn sy ns cy gy oy:=
 ⟨h.ix,h.lt.imp id fun e=>Nat.lt_of_lt_of_le e hB.size,fun j hj=>rg_up hB (h.lt.resolve_left (by omega)) (h.at_ j hj),h.ixn,fun j hj=>(h.ltn j hj).imp id fun e=>Nat.lt_of_lt_of_le e hB.size,fun j hj=>(h.atn j hj).below2 hB (h.ltn j hj),fun j hj=>(h.nl j hj).up hB⟩
def DL(w:World)(v:Value)(ds:List (Int×List Int)):Prop:= ∃sl gb go cap sy cy gy oy,v= .slice sl ds.length cap/\(sl=none->cap=0)/\ds.length<=cap/\(ds=[]\/sl=some ⟨gb,go,none⟩)/\DM w sl gb go ds.length cap (fun j=>(ds.getD j (0,[])).1) sy (fun j=>(ds.getD j (0,[])).2) cy gy oy
theorem DL.up{w u:World}{v:Value}{ds:List (Int×List Int)}(h:DL w v ds)(hB:Bw w u):DL u v ds:=by
 obtain⟨sl,gb,go,cap,sy,cy,gy,oy,h1,h2,h3,h4,h5⟩:=h
 exact⟨sl,gb,go,cap,sy,cy,gy,oy,h1,h2,h3,h4,h5.up hB⟩
theorem all_dr{α:Type}(p:α->Bool)(l:List α)(d:α)(i:Nat)(h:i<l.length):(l.drop i).all p=(p (l.getD i d)&&(l.drop (i+1)).all p):=by
 rw[List.drop_eq_getElem_cons h,List.all_cons,List.getD_eq_getElem?_getD,List.getElem?_eq_getElem h];rfl
def sameB(l:List (Int×Int×Int)):Bool:=l.all fun x=>x.1==(l.getD 0 (0,0,0)).1
theorem ofOne_core(sl:Option Addr)(gb go cap:Nat)(l:List (Int×Int×Int))(m:Int)(b:Bool)(w:World)(hG:GP w)(hix:Hid (∀j,j<l.length-> ∀W,(Instr.indexAt 26 (.slice sl l.length cap) (iI j)).run Tryz.prog W= .ok (.pointer (some ⟨gb,go+9*j,none⟩)) W))(hg:l.length=0\/gb<w.heap.size)(hS:Hid (∀j,j<l.length->w.rangeAt gb (go+9*j) (SE (l.getD j (0,0,0)).1 (l.getD j (0,0,0)).2.1 (l.getD j (0,0,0)).2.2)))(hl0:l.length<=1000)(hm:Hid ((l.getD 0 (0,0,0)).1=m))(hb:Hid ((l.all fun x=>x.1==m)=b))(hN:Hid (∀u,Bw w u->Calls Tryz.prog 53 #[.slice sl l.length cap] u fun r u'=> ∃v,r= .returned v/\EJN u' v (bE (!ndsB l) 2)/\Bw u u')):
 Calls Tryz.prog 28 #[.slice sl l.length cap] w fun r u=> ∃v,r= .returned v/\EJN u v (bE (!(b&&ndsB l)) 2)/\Bw w u:=by
 have m1:=miEj
 have m2:=miFj
 have m3:=bdFj
 go_enter Tryz.func28,Tryz.ntmps28
 go_wp2_with fail
 go_loopw [7] (fun s7 wr=> ∃i:Nat,i<=l.length/\s7=iI (i:Int)/\Hid (((l.drop i).all fun x=>x.1==m)=b)/\Bw w wr) (fun s7 _=>l.length -(intOf s7).toNat)
 case atStart=>exact⟨0,by omega,rfl,by rw[List.drop_zero];exact hb,Below.refl _ _⟩
 case round=>
  obtain⟨i,hi,rfl,ht,HBr⟩:=hrel
  by_cases hj:i<l.length
  ·have hl:(i:Int)<(l.length:Int):=by omega
   have hX:=hix.out i hj
   have hX0: ∀W,(Instr.indexAt 26 (.slice sl l.length cap) (iI 0)).run Tryz.prog W= .ok (.pointer (some ⟨gb,go,none⟩)) W:=fun W=>hix.out 0 (by omega) W
   have hgb:=hg.resolve_left (by omega)
   have hR:=rg_up HBr hgb (hS.out i hj)
   have f0: ∀o,(wr.alloc o).cell? ⟨gb,go,none⟩=some (iI m):=fun o=>by rw[World.cell?_alloc_past _ _ _ (Nat.lt_of_lt_of_le hgb HBr.size)];have:=rg_up HBr hgb (hS.out 0 (by omega)) 0 _ rfl;rw[hm.out] at this;exact this
   have ht2:=ht.out
   rw[all_dr _ _ (0,0,0) i hj] at ht2
   have e1:IntKind.i64.wrap ((i:Int)+1)=((i+1:Nat):Int):=by rw[IntKind.wrap_i64];omega
   have hI:Hid (∀u,Bw w u->_):=fun u hB=>jItoa i u (hG.below hB) ⟨by omega,by omega⟩
   generalize l.getD i (0,0,0)=x at *
   obtain⟨n,s,t⟩:=x
   simp only at hR ht2
   have c0:wr.cell? ⟨gb,go+9*i,none⟩=some (iI n):=hR 0 _ rfl
   have c1:=hR 1 _ rfl
   have c2:=hR 2 _ rfl
   have c3:=hR 3 _ rfl
   have c4:=hR 4 _ rfl
   have c5:=hR 5 _ rfl
   have c6:=hR 6 _ rfl
   have c7:=hR 7 _ rfl
   have c8:=hR 8 _ rfl
   clear hR
   by_cases hn:n=m
   ·subst hn
    rw[beq_self_eq_true,Bool.true_and] at ht2
    have ht2:Hid _:=ht2
    go_wp2
    go_region
    all_goals (try go_wp2)
    all_goals exact⟨⟨i+1,by omega,by simp,ht2,(Z1 HBr _).drew⟩,by simp[intOf];omega⟩
   ·rw[beq_eq_false_iff_ne.2 hn] at ht2
    have e2:b=false:=ht2.symm
    subst e2
    clear ht2
    go_wp2
    go_region
    all_goals go_wp2_with (go_at_call 46;refine(hI.out _ ((Z1 HBr _).drew)).mono ?_;clear hI;rintro e ub ⟨s,rfl,hs,hBb⟩;have hw2: ¬9223372036854775807<6+s.size:=by omega)
    all_goals (go_ret;exact⟨_,rfl,.wrap _ (.one _ _ 2),Z2 ((Z1 HBr _).drew) hBb⟩)
  ·have hl: ¬(i:Int)<(l.length:Int):=by omega
   have ht3:=ht.out
   rw[List.drop_eq_nil_of_le (by omega)] at ht3
   subst ht3
   go_wp2_with (go_at_call 53;refine(hN.out _ HBr).mono ?_;clear hN;rintro e ub ⟨v,rfl,hv,hBb⟩;have hv:Hid _:=hv)
   exact bodyPost_ret (v:=v) (by simp[results,Tryz.results28,go_sem]) rfl ⟨_,rfl,hv.out,Z2 HBr hBb⟩
theorem jOneNode(l:List (Int×Int×Int))(v:Value)(w:World)(hG:GP w)(hv:ShL w v l)(hl:l.length<=1000)(hr: ∀x∈l,R64 x.1):Calls Tryz.prog 28 #[v] w fun r u=> ∃v,r= .returned v/\EJN u v (bE (!(sameB l&&ndsB l)) 2)/\Bw w u:=by
 have hN:Hid (∀u,Bw w u->_):=fun u hB=>jNodes l v u (hG.below hB) (hv.up hB) hl hr
 obtain⟨sl,gb,go,cap,rfl,h2,h3,h4,h5,h6⟩:=hv
 exact ofOne_core sl gb go cap l _ _ w hG (sh_ix h4) h5 (sh_pt h6) hl rfl rfl hN
theorem jJoin3{x y z:Value}{a b c:List Int}{w:World}(h1:EJN w x a)(h2:EJN w y b)(h3:EJN w z c):Calls Tryz.prog 24 #[.slice (some ⟨w.heap.size,0,none⟩) 3 3] (w.alloc (.cells #[x,y,z] 62)) fun r u=> ∃v,r= .returned v/\EJN u v (a++(b++c))/\Bw w u:=by
 have h:=jJoin [x,y,z] [a,b,c] 62 w rfl (by simp) (fun i hi=>match i,hi with | 0,_=>h1 | 1,_=>h2 | 2,_=>h3 | i+3,h=>absurd h (by simp))
 simp only[List.flatten_cons,List.flatten_nil,List.append_nil] at h
 exact h
theorem jJoin4{x y z v:Value}{a b c d:List Int}{w:World}(h1:EJN w x a)(h2:EJN w y b)(h3:EJN w z c)(h4:EJN w v d):Calls Tryz.prog 24 #[.slice (some ⟨w.heap.size,0,none⟩) 4 4] (w.alloc (.cells #[x,y,z,v] 62)) fun r u=> ∃v,r= .returned v/\EJN u v (a++(b++(c++d)))/\Bw w u:=by
 have h:=jJoin [x,y,z,v] [a,b,c,d] 62 w rfl (by simp) (fun i hi=>match i,hi with | 0,_=>h1 | 1,_=>h2 | 2,_=>h3 | 3,_=>h4 | i+4,h=>absurd h (by simp))
 simp only[List.flatten_cons,List.flatten_nil,List.append_nil] at h
 exact h
end
section
open Go.ChangeShapes Go.WideShapes Go.ChangeAt Go.RowKit
theorem nats_row(L:Nat){H:Type}{enc:TypeId×Value->H}{W:World}{fuel:Nat}{cs:List Value}{x:DataW H×List MemPlace}(hf:DataW.trod enc Tryz.prog W 0 (fun _=>true) true fuel 27 cs=some x):
 ∃sl len cap gb go,∃ns:List Int,cs=[.slice sl len cap]/\(min len L)=ns.length/\len<=cap/\(sl=none->cap=0)/\(cap=0\/sl=some ⟨gb,go,none⟩)/\(ns.length=0\/gb<W.heap.size)/\SN W gb go ns/\ ∀z∈ns,In z:=by
 rcases Go.Deep.open_slice Tryz.underlying27 hf with⟨hcs,hx⟩ | ⟨ad,len,cap,m,n,D,Pl,hcs,hbs,hl,hm,hmm,hx,hall⟩
 ·exact⟨_,_,_,0,0,[],hcs,by simp,Nat.le_refl _,fun _=>rfl,.inl rfl,.inl rfl,SN.empty rfl,fun z hz=>(by cases hz)⟩
 ·subst hcs
  simp only[if_true] at hmm
  by_cases h0:cap=0
  ·subst h0
   have e:len=0:=by omega
   subst e
   exact⟨_,_,_,0,0,[],rfl,by simp,Nat.le_refl _,fun _=>rfl,.inl rfl,.inl rfl,SN.empty rfl,fun z hz=>(by cases hz)⟩
  ·have hrow: ∀i,i<cap-> ∃z,In z/\ ∀c v,(LN z)[c]?=some v->W.cell? ((ad.add (i*4)).add c)=some v:=fun i hi=>by
    obtain⟨cs,k1,k2⟩:=hall i (by rw[hmm];exact hi)
    rw[Tryz.cells36] at k1
    exact row_nat k1 k2
   obtain⟨gb,go,spot⟩:=ad
   have hspot:spot=none:=by
    obtain⟨z,_,hz⟩:=hrow 0 (by omega)
    have:=hz 0 _ rfl
    simpa [Addr.add] using World.cell?_spot this
   subst hspot
   have hadd: ∀i c:Nat,((⟨gb,go,none⟩:Addr).add (i*4)).add c=⟨gb,go+(i*4+c),none⟩:=fun i c=>by unfold Addr.add;(repeat' split)<;>simp_all<;>omega
   obtain⟨ns,hnl,hnp⟩:=list_ofP (min len L) (fun i hi=>hrow i (by omega))
   have hblk:gb<W.heap.size:=by
    obtain⟨z,_,hz⟩:=hrow 0 (by omega)
    have:=hz 0 _ rfl
    rw[hadd] at this
    exact World.block_lt_of_cell? W _ this
   refine⟨_,_,_,gb,go,ns,rfl,hnl.symm,hl,fun e=>(by cases e),.inr rfl,.inr hblk,SN.of (fun i hi c v hv=>?_),fun z hz=>?_⟩
   ·have:=(hnp i (by omega)).2 c v hv
    rwa [hadd] at this
   ·obtain⟨j,hj,rfl⟩:=List.mem_iff_getElem.1 hz
    have:=(hnp j (by omega)).1
    simpa [List.getElem?_eq_getElem hj] using this
theorem Tryz.cells27:Tryz.prog.cellsOf 27=1:=by kernel_rfl
theorem int_of{x:Int}(h:(Lit.int .i64 x).wf=true): -9223372036854775808<=x/\x<9223372036854775808:=by
 simp[Lit.wf,IntKind.min,IntKind.max,IntKind.signed,IntKind.bits] at h;omega
theorem nats_rowF{H:Type}{enc:TypeId×Value->H}{W:World}{fuel:Nat}{cs:List Value}{x:DataW H×List MemPlace}(hf:DataW.trod enc Tryz.prog W 0 (fun _=>true) true fuel 27 cs=some x):
 ∃sl cap gb go,∃ns:List Int,cs=[.slice sl ns.length cap]/\NL W (.slice sl ns.length cap) ns/\(ns=[]\/sl=some ⟨gb,go,none⟩)/\(ns.length=0\/gb<W.heap.size)/\SN W gb go ns/\ ∀z∈ns,In z:=by
 obtain⟨sl,len,cap,_,_,_,e,_⟩:=nats_row 0 hf
 subst e
 obtain⟨sl',len',cap',gb,go,ns,e,h1,h2,h3,h4,h5,h6,h7⟩:=nats_row len hf
 cases e
 obtain rfl:len=ns.length:=by omega
 have h8:ns=[]\/sl=some ⟨gb,go,none⟩:=h4.imp (fun e=>List.eq_nil_of_length_eq_zero (by omega)) id
 exact⟨sl,cap,gb,go,ns,rfl,⟨sl,gb,go,cap,rfl,h2,h3,h8,h5,h6⟩,h8,h5,h6,h7⟩
theorem adD{W:World}{ad:Addr}{v:Value}(h:W.cell? ad=some v): ∃gb go,ad=⟨gb,go,none⟩/\gb<W.heap.size:=by
 obtain⟨gb,go,spot⟩:=ad
 obtain rfl:spot=none:=by simpa using World.cell?_spot h
 exact⟨gb,go,rfl,World.block_lt_of_cell? W _ h⟩
end
section
open Go.RowKit
section
structure Ch(a0 a1 a2 a3 a4 b0 b1 b2 b3 b4:Nat)(vd ed vx ex:Value)(m s0:World->Prop)(d1 x1 s1:World->Value->Prop)(s2:World->Value->Value->Prop)(f:Nat->Bool)(t:Nat->Value)(u:World):Prop where
 m:m u
 k0:f 0=true->t a0=vd
 k1:f 1=true->t a1=ed
 k2:f 2=true->f 3=false->d1 u (t a2)
 j0:f 4=true->t b0=vx
 j1:f 5=true->t b1=ex
 j2:f 6=true->f 7=false->x1 u (t b2)
 h0:f 3=false->s0 u
 h1:f 3=true->(f 7=false->s1 u (t a3))/\f 0=true/\f 2=true
 h2:f 7=true->s2 u (t a3) (t b3)/\f 3=true/\f 4=true/\f 6=true
 k5:f 8=true->t a4=t a3/\f 3=true
 k6:f 8=false->t a4=vd
 j5:f 9=true->t b4=t b3/\f 7=true
 j6:f 9=false->t b4=vx
section
variable {P:Program} {ops:Array Oper} {Q:Exit->Act->World->Prop} {id:Nat} {w0:World} {fr:List Value}
theorem region_pair(a0 a1 a2 a3 a4 b0 b1 b2 b3 b4 N:Nat)(Td Tx Td1 Tx1:TypeId)(pd px:Operand)(vd ed vpd vx ex vpx:Value)(m s0:World->Prop)(d1 x1 s1:World->Value->Prop)(s2:World->Value->Value->Prop)
 (hst: ∀u u',Bw u u'->m u->m u'/\(s0 u->s0 u')/\ ∀y,(s1 u y->s1 u' y)/\(d1 u y->d1 u' y)/\(x1 u y->x1 u' y))(hm0:m w0)(hs0:s0 w0)
 (hld: ∀u,m u->(Instr.loadAt Td1 vpd).run P u= .ok ed u)(hlx: ∀u,m u->(Instr.loadAt Tx1 vpx).run P u= .ok ex u)
 (hbd: ∀u,m u-> ∃u' v,(Instr.buildSlice Td 1 ([0].zip [ed]).toArray).run P u= .ok v u'/\Bw u u'/\d1 u' v)(hbx: ∀u,m u-> ∃u' v,(Instr.buildSlice Tx 1 ([0].zip [ex]).toArray).run P u= .ok v u'/\Bw u u'/\x1 u' v)
 (hda: ∀ty u y,m u->s0 u->d1 u y-> ∃v u',(Builtin.append_ #[Td,Td] ty #[vd,y]).run P u= .ok v u'/\m u'/\s1 u' v/\ ∀z,x1 u z->x1 u' z)
 (hxa: ∀ty u z y,m u->s1 u z->x1 u y-> ∃v u',(Builtin.append_ #[Tx,Tx] ty #[vx,y]).run P u= .ok v u'/\m u'/\s2 u' z v)
 (hend: ∀t u,s2 u (t a3) (t b3)->t a4=t a3->t b4=t b3->Q .normal ⟨(ovr fr [a0,a1,a2,a3,a4,b0,b1,b2,b3,b4] t).toArray,[]⟩ u)
 (hpd: ∀a t,Fr fr [a0,a1,a2,a3,a4,b0,b1,b2,b3,b4] a t->a.eval pd=vpd)(hpx: ∀a t,Fr fr [a0,a1,a2,a3,a4,b0,b1,b2,b3,b4] a t->a.eval px=vpx)(hvd:fr.getD a4 undef=vd:=by rfl)(hvx:fr.getD b4 undef=vx:=by rfl)
 (hn:[a0,a1,a2,a3,a4,b0,b1,b2,b3,b4].Nodup:=by decide)(hl:fr.length=N:=by rfl)(hN: ∀s∈[a0,a1,a2,a3,a4,b0,b1,b2,b3,b4],s<N:=by decide)
 (hops:ops.toList.map (fun o=>(o.op,o.dst,o.guard))=[(.move (.tmp a4),some a0,none),(.load Td1 pd,some a1,none),(.buildSlice Td 1 [(0,.tmp a1)].toArray,some a2,none),(.call {callee:= .builtin .append,args:=[.tmp a0,.tmp a2].toArray,argTypes:=[Td,Td].toArray},some a3,none),(.move (.tmp b4),some b0,none),(.load Tx1 px,some b1,none),(.buildSlice Tx 1 [(0,.tmp b1)].toArray,some b2,none),(.call {callee:= .builtin .append,args:=[.tmp b0,.tmp b2].toArray,argTypes:=[Tx,Tx].toArray},some b3,none),(.assign (.tmp a3),some a4,none),(.assign (.tmp b3),some b4,none)]:=by rfl)
 (hdp:([(2,1),(3,0),(3,2),(6,5),(7,3),(7,4),(7,6),(8,3),(9,7)].all fun q=>match ops[q.1]? with | some o=>Zm o q.2 | none=>false)=true:=by kernel_rfl)
 (hm:P.follows .mixedOrders=true:=by kernel_rfl)(hb:Wq .any ops=true:=by kernel_rfl):(Code.region id ops true).wp P Q ⟨fr.toArray,[]⟩ w0:=by
 have hop: ∀(i:Nat) (o:Oper) (q:Op×Option Nat×Option (Nat×Bool)),ops[i]?=some o->(ops.toList.map (fun o=>(o.op,o.dst,o.guard)))[i]?=some q->o.op=q.1/\o.dst=q.2.1/\o.guard=q.2.2:=fun i o q h1 h2=>by
  rw[List.getElem?_map,Array.getElem?_toList,h1] at h2
  cases h2;exact⟨rfl,rfl,rfl⟩
 have dep: ∀(i n:Nat) (o:Oper) (f:Nat->Bool),ops[i]?=some o->(i,n)∈[(2,1),(3,0),(3,2),(6,5),(7,3),(7,4),(7,6),(8,3),(9,7)]->(∀e∈o.after,Region.binds .any e=true->f e.on=true)->f n=true:=fun i n o f h1 h2 h3=>by
  have h:=List.all_eq_true.1 hdp _ h2
  simp only[h1] at h
  exact Zq h h3
 have nd:=hn
 simp only[List.nodup_cons,List.mem_cons,List.not_mem_nil,or_false,not_or,not_false_eq_true,List.nodup_nil,and_true] at nd
 have e:=congrArg List.length hops
 rw[List.length_map,Array.length_toList] at e
 have e:ops.size=10:=e
 refine Xp [a0,a1,a2,a3,a4,b0,b1,b2,b3,b4] (Ch a0 a1 a2 a3 a4 b0 b1 b2 b3 b4 vd ed vx ex m s0 d1 x1 s1 s2) hm hb ?_ ?_ ?_
 ·obtain⟨k1,k2,_⟩:=hst _ _ (Z5 w0).drew hm0
  exact⟨k1,nofun,nofun,nofun,nofun,nofun,nofun,fun _=>k2 hs0,nofun,nofun,nofun,fun _=>hvd,nofun,fun _=>hvx⟩
 ·rintro f t u i o a hF ⟨hM,D0,D1,D2,X0,X1,X2,S0,S1,S2,D5,D6,X5,X6⟩ ho hf hd
  have hi:i<10:=by rw[<-e];exact(Array.getElem?_eq_some_iff.1 ho).1
  have ev:=fun s hs=>hF.evs hn hl hN s hs
  rw[hops] at hop
  have d:=fun n h=>dep i n o f ho h hd
  have go: ∀{K:Act->World->Prop},o.guard=none->(∀K':Act->World->Prop,(∀a w,K a w->K' a w)->Oper.wp P o a u K' Q)->wpOp P ops Q i K a u:=fun hg h=>op_plain ho hg h
  match i,hi with
  | 0,_=>
   obtain⟨e1,e2,e3⟩:=hop 0 o _ ho rfl
   refine go e3 fun K hK=>wp_move e1 ((ev a4 (by simp)).trans (D6 (by grind))) (hK _ _ ⟨_,by rw[e2];exact hF.put hn (by simp) _,?_⟩)
   constructor<;>grind [updF,updT]
  | 1,_=>
   obtain⟨e1,e2,e3⟩:=hop 1 o _ ho rfl
   refine go e3 fun K hK=>Vv e1 (hpd a t hF) (hld u hM) (hK _ _ ⟨_,by rw[e2];exact hF.put hn (by simp) _,?_⟩)
   constructor<;>grind [updF,updT]
  | 2,_=>
   obtain⟨e1,e2,e3⟩:=hop 2 o _ ho rfl
   obtain⟨u',v,hr,hB,hv⟩:=hbd u hM
   obtain⟨k1,k2,k3⟩:=hst _ _ hB hM
   have q:=D1 (d 1 (by simp))
   refine go e3 fun K hK=>wp_bS (xs:=[(0,.tmp a1)]) e1 (by simp[ev a1 (by simp),q]) hr (hK _ _ ⟨_,by rw[e2];exact hF.put hn (by simp) _,?_⟩)
   constructor<;>grind [updF,updT]
  | 3,_=>
   obtain⟨e1,e2,e3⟩:=hop 3 o _ ho rfl
   have g0:=d 0 (by simp)
   have g2:=d 2 (by simp)
   obtain⟨v,u',hr,k1,k2,k3⟩:=hda o.type u (t a2) hM (S0 hf) (D2 g2 hf)
   refine go e3 fun K hK=>Vm e1 ((ev a0 (by simp)).trans (D0 g0)) (ev a2 (by simp)) hr (hK _ _ ⟨_,by rw[e2];exact hF.put hn (by simp) _,?_⟩)
   constructor<;>grind [updF,updT]
  | 4,_=>
   obtain⟨e1,e2,e3⟩:=hop 4 o _ ho rfl
   refine go e3 fun K hK=>wp_move e1 ((ev b4 (by simp)).trans (X6 (by grind))) (hK _ _ ⟨_,by rw[e2];exact hF.put hn (by simp) _,?_⟩)
   constructor<;>grind [updF,updT]
  | 5,_=>
   obtain⟨e1,e2,e3⟩:=hop 5 o _ ho rfl
   refine go e3 fun K hK=>Vv e1 (hpx a t hF) (hlx u hM) (hK _ _ ⟨_,by rw[e2];exact hF.put hn (by simp) _,?_⟩)
   constructor<;>grind [updF,updT]
  | 6,_=>
   obtain⟨e1,e2,e3⟩:=hop 6 o _ ho rfl
   obtain⟨u',v,hr,hB,hv⟩:=hbx u hM
   obtain⟨k1,k2,k3⟩:=hst _ _ hB hM
   have q:=X1 (d 5 (by simp))
   refine go e3 fun K hK=>wp_bS (xs:=[(0,.tmp b1)]) e1 (by simp[ev b1 (by simp),q]) hr (hK _ _ ⟨_,by rw[e2];exact hF.put hn (by simp) _,?_⟩)
   constructor<;>grind [updF,updT]
  | 7,_=>
   obtain⟨e1,e2,e3⟩:=hop 7 o _ ho rfl
   have g3:=d 3 (by simp)
   have g4:=d 4 (by simp)
   have g6:=d 6 (by simp)
   obtain⟨v,u',hr,k1,k2⟩:=hxa o.type u (t a3) (t b2) hM ((S1 g3).1 hf) (X2 g6 hf)
   refine go e3 fun K hK=>Vm e1 ((ev b0 (by simp)).trans (X0 g4)) (ev b2 (by simp)) hr (hK _ _ ⟨_,by rw[e2];exact hF.put hn (by simp) _,?_⟩)
   constructor<;>grind [updF,updT]
  | 8,_=>
   obtain⟨e1,e2,e3⟩:=hop 8 o _ ho rfl
   have g:=d 3 (by simp)
   refine go e3 fun K hK=>V3 e1 (ev a3 (by simp)) (hK _ _ ⟨_,by rw[e2];exact hF.put hn (by simp) _,?_⟩)
   constructor<;>grind [updF,updT]
  | 9,_=>
   obtain⟨e1,e2,e3⟩:=hop 9 o _ ho rfl
   have g:=d 7 (by simp)
   refine go e3 fun K hK=>V3 e1 (ev b3 (by simp)) (hK _ _ ⟨_,by rw[e2];exact hF.put hn (by simp) _,?_⟩)
   constructor<;>grind [updF,updT]
 ·intro f t u J hall
  have hall: ∀i,i<10->f i=true:=fun i hi=>hall i (by rw[e];exact hi)
  exact hend t u (J.h2 (hall 7 (by decide))).1 (J.k5 (hall 8 (by decide))).1 (J.j5 (hall 9 (by decide))).1
end
end
end
section
section
def tpN(q t:Int)(ns:List Int)(i:Nat):Nat->Int
 | 0=>1
 | j+1=>if j=i then tpN q t ns i j else (tpN q t ns i j*((t -ns.getD j 0)%q))%q
theorem tpN_In{q t:Int}{ns:List Int}{i:Nat}(hq:In q)(hq0:q≠0): ∀j,In (tpN q t ns i j)
 | 0=>In_1
 | j+1=>by rw[tpN];split;exact tpN_In hq hq0 j;exact Zg hq hq0
theorem ds_tp{q:Int}{ns:List Int}{i:Nat}: ∀j,dsN q ns i j=tpN q (ns.getD i 0) ns i j
 | 0=>rfl
 | j+1=>by rw[dsN,tpN,ds_tp j]
section ring
variable {R:Type} [Lean.Grind.CommRing R] (p:Nat) [Lean.Grind.IsCharP R p]
theorem cR_tp{xs:List Int}{i:Nat}(t:Int): ∀j,(cR (tpN p t xs i j):R)=if j<=i then preR xs j (cR t) else preR xs i (cR t)*mdR xs (cR t) (i+1) (j -(i+1))
 | 0=>by rw[tpN,if_pos (Nat.zero_le _),preR,cR_1]
 | j+1=>by
  rw[tpN]
  by_cases e:j=i
  ·rw[if_pos e,cR_tp t j,if_pos (by omega),if_neg (by omega),e,Nat.sub_self,mdR];grind
  ·rw[if_neg e,Xy,Ud,Xy,cR_sub,cR_tp t j]
   by_cases h:j<=i
   ·rw[if_pos h,if_pos (by omega),preR]
   ·rw[if_neg h,if_neg (by omega),show j+1 -(i+1)=(j -(i+1))+1 by omega,mdR,show i+1+(j -(i+1))=j by omega];grind
theorem cR_tpt{xs vs:List Int}(hl:vs.length=xs.length){i:Nat}(hi:i<xs.length)(t:Int):(cR (tpN p t xs i xs.length):R)=preR xs i (cR t)*pP (cR t) (sfx xs vs (i+1)):=by
 rw[cR_tp p,if_neg (by omega),<-mdR_sfx hl (cR t) (i+1) (xs.length -(i+1)) (by omega),show i+1+(xs.length -(i+1))=xs.length by omega,sfx_end hl,pP];grind
end ring
theorem facR(p:Nat)[NeZero p]{xs vs:List Int}(hl:vs.length=xs.length)(t:Int){i:Nat}(hi:i<xs.length):(tpN p t xs i xs.length*vs.getD i 0)%(p:Int)=(fac p t xs vs).getD i 0:=by
 have hp0:0<p:=Nat.pos_of_ne_zero (NeZero.ne p)
 have e1:=cR_fac (R:=Fin p) p hl t hi
 rw[<-cR_tpt p hl hi t,<-Ud,cR_ext p] at e1
 have r1:=fac_rng (q:=p) (by omega) (t:=t) (xs:=xs) (vs:=vs) hi
 rw[Int.emod_eq_of_lt r1.1 r1.2] at e1
 rw[e1,Int.mul_comm]
def frS(q t:Int)(ns vs:List Int):List Int:=tab ns.length fun i=>(tpN q t ns i ns.length*vs.getD i 0)%q
theorem frS_fac{q t:Int}{ns vs:List Int}(hq:0<q)(hl:vs.length=ns.length):frS q t ns vs=fac q t ns vs:=by
 obtain⟨p,rfl⟩: ∃p:Nat,q=(p:Int):=⟨q.toNat,by omega⟩
 haveI:NeZero p:=⟨by omega⟩
 refine List.ext_getElem (by rw[frS,We,fac_len]) fun i h1 h2=>?_
 rw[frS,We] at h1
 have e:=facR p hl t h1
 have e2:(frS (p:Int) t ns vs).getD i 0=(fac p t ns vs).getD i 0:=by rw[<-e,frS,Yt h1]
 simpa [List.getElem?_eq_getElem h2,List.getElem?_eq_getElem (show i<(frS (p:Int) t ns vs).length by rw[frS,We];exact h1)] using e2
def alG(q:Int)(ns:List Int):Bool:=decide (∀i,i<ns.length->gI q (dsN q ns i ns.length%q)=1)
end
end
end Go.Proofs.YtclafkfelkmigaaGreatDoor
