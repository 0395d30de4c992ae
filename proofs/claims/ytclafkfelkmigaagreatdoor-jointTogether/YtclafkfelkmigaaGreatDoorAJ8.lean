import Derived.Test.YtclafkfelkmigaaGreatDoorAKY
namespace Go.Proofs.YtclafkfelkmigaaGreatDoor
set_option linter.unusedVariables false
set_option linter.unusedSimpArgs false
set_option maxRecDepth 100000
set_option maxHeartbeats 4000000
section
open Go.RowKit
theorem ge_c{u:World}{b:Nat}{p q g h:Int}(hC:CV u b (GE p q g h))(hb:b<u.heap.size)(o:Obj):(u.alloc o).cell? ⟨b,0,none⟩=some (iU (D0 p))/\(u.alloc o).cell? ⟨b,1,none⟩=some (iU (D1 p))/\(u.alloc o).cell? ⟨b,2,none⟩=some (iU (D2 p))/\(u.alloc o).cell? ⟨b,3,none⟩=some (iU (D3 p))/\(u.alloc o).cell? ⟨b,4,none⟩=some (iU (D0 q))/\(u.alloc o).cell? ⟨b,5,none⟩=some (iU (D1 q))/\(u.alloc o).cell? ⟨b,6,none⟩=some (iU (D2 q))/\(u.alloc o).cell? ⟨b,7,none⟩=some (iU (D3 q))/\(u.alloc o).cell? ⟨b,8,none⟩=some (iU (D0 g))/\(u.alloc o).cell? ⟨b,9,none⟩=some (iU (D1 g))/\(u.alloc o).cell? ⟨b,10,none⟩=some (iU (D2 g))/\(u.alloc o).cell? ⟨b,11,none⟩=some (iU (D3 g))/\(u.alloc o).cell? ⟨b,12,none⟩=some (iU (D0 h))/\(u.alloc o).cell? ⟨b,13,none⟩=some (iU (D1 h))/\(u.alloc o).cell? ⟨b,14,none⟩=some (iU (D2 h))/\(u.alloc o).cell? ⟨b,15,none⟩=some (iU (D3 h)):=by
 have hc:CV (u.alloc o) b (GE p q g h):=hC.below (Z1 (Z5 u) o) hb
 exact⟨(hc 0 _ rfl).1,(hc 1 _ rfl).1,(hc 2 _ rfl).1,(hc 3 _ rfl).1,(hc 4 _ rfl).1,(hc 5 _ rfl).1,(hc 6 _ rfl).1,(hc 7 _ rfl).1,(hc 8 _ rfl).1,(hc 9 _ rfl).1,(hc 10 _ rfl).1,(hc 11 _ rfl).1,(hc 12 _ rfl).1,(hc 13 _ rfl).1,(hc 14 _ rfl).1,(hc 15 _ rfl).1⟩
def fdE(p q:Int):List (Int×List Int)->List Int
 | []=>[]
 | d::l=>if dcE p q d.1 d.2≠0 then [dcE p q d.1 d.2] else fdE p q l
theorem fd_drop(p q:Int)(ds:List (Int×List Int))(i:Nat)(h:i<ds.length):fdE p q (ds.drop i)=if dcE p q (ds.getD i (0,[])).1 (ds.getD i (0,[])).2≠0 then [dcE p q (ds.getD i (0,[])).1 (ds.getD i (0,[])).2] else fdE p q (ds.drop (i+1)):=by
 rw[List.drop_eq_getElem_cons h,fdE,List.getD_eq_getElem?_getD,List.getElem?_eq_getElem h];rfl
def hdE(p q:Int)(n:Nat):List Int:=bE (!decide (gOk p q)) 90++(bE (decide ((n:Int)<1)) 2++bE (!decide (0<=(n:Int)/\(n:Int)<=16)) 2)
def dgE(p q:Int)(ds:List (Int×List Int)):List Int:=if hdE p q ds.length=[] then fdE p q ds else hdE p q ds.length
theorem hd_0{p q:Int}{n:Nat}(h:hdE p q n=[]):gOk p q/\1<=n/\n<=16:=by
 unfold hdE at h
 simp only[List.append_eq_nil_iff] at h
 obtain⟨h1,h2,h3⟩:=h
 refine⟨?_,?_,?_⟩
 ·by_cases c:gOk p q
  ·exact c
  ·rw[decide_eq_false c] at h1;cases h1
 ·by_cases c:(n:Int)<1
  ·rw[decide_eq_true c] at h2;cases h2
  ·omega
 ·by_cases c:0<=(n:Int)/\(n:Int)<=16
  ·omega
  ·rw[decide_eq_false c] at h3;cases h3
theorem dealings_core(p q g h:Int)(sl:Option Addr)(gb go cap:Nat)(ds:List (Int×List Int))(sy:Nat->Option Addr)(cy gy oy:Nat->Nat)(es:List Int)(w:World)(hG:GP w)(hp:In p)(hq:In q)(hn:ds.length<=100000)(hD:Hid (DM w sl gb go ds.length cap (fun j=>(ds.getD j (0,[])).1) sy (fun j=>(ds.getD j (0,[])).2) cy gy oy))(hIn:Hid (∀j,j<ds.length->(ds.getD j (0,[])).2.length<=50/\ ∀z∈(ds.getD j (0,[])).2,In z))(hes:Hid (dgE p q ds=es)):
 Calls Tryz.prog 21 #[GX p q g h,.slice sl ds.length cap] w fun r u=> ∃v,r= .returned v/\EJN u v es/\Bw w u:=by
 have hGr:Hid (∀u,_):=fun u=>jGroup p q g h u hp hq
 have hLe:Hid (∀(t:ByteArray) u,Bw w u->t.size<=100->_):=fun t u hB ht=>jAtLeast t ds.length 1 2 u (hG.below hB) ⟨by omega,by omega⟩ ht
 have hMo:Hid (∀(t:ByteArray) u,Bw w u->t.size<=100->_):=fun t u hB ht=>jAtMost t ds.length u (hG.below hB) ⟨by omega,by omega⟩ ht
 have hDe:Hid (∀(d:Int) (ns:List Int) (v:Value) u,Bw w u->NL u v ns->(ns.length<=50/\ ∀z∈ns,In z)->_):=fun d ns v u hB hv hns=>jDealing p q g h d ns v u (hG.below hB) hp hq hv hns.2 hns.1
 have hIt:Hid (∀(i:Nat) u,Bw w u->i<=100000->_):=fun i u hB hi=>jItoa i u (hG.below hB) ⟨by omega,by omega⟩
 clear hG hp hq
 have m2:=miFj
 have m3:=bdFj
 go_enter Tryz.func21,Tryz.ntmps21
 go_upto_region 1 with fail
 have hC0:=CV.new w (GE p q g h) 43
 have hB0:Bw w (w.alloc (.cells (GE p q g h:List Value).toArray 43)):=Z1 (Z5 w) _
 have hz0:w.heap.size<(w.alloc (.cells (GE p q g h:List Value).toArray 43)).heap.size:=by simp
 have hC0:=Hid.on hC0
 go_cut [5] (fun s5 wx=>Hid (EJN wx s5 (hdE p q ds.length))/\Below (w.alloc (.cells (GE p q g h:List Value).toArray 43)).heap.size (w.alloc (.cells (GE p q g h:List Value).toArray 43)) wx)
 case first=>
  go_wp2_with (first
   | (go_at_call 25;refine(hGr.out _).mono ?_;clear hGr;rintro e ua ⟨v1,rfl,hv1,hBa⟩;have s1:=EJN.some hv1;have hv1:=Hid.on hv1;rcases s1 with rfl | ⟨T1,x1,rfl⟩)
   | (go_at_call 26;refine(hLe.out _ _ (Z2 hB0 hBa) (by decide)).mono ?_;clear hLe;rintro e ub ⟨v2,rfl,hv2,hBb⟩;have hv1:=Hid.on (EJN.up hBb hv1.out);replace hBb:=Z2 hBa hBb;have s2:=EJN.some hv2;have hv2:=Hid.on hv2;rcases s2 with rfl | ⟨T2,x2,rfl⟩)
   | (go_at_call 27;refine(hMo.out _ _ (Z2 hB0 hBb) (by decide)).mono ?_;clear hMo;rintro e uc ⟨v3,rfl,hv3,hBc⟩;have s3:=EJN.some hv3;have hJ:=Hid.on (jJoin3 (EJN.up hBc hv1.out) (EJN.up hBc hv2.out) hv3);replace hBc:=Z2 hBb hBc;rcases s3 with rfl | ⟨T3,x3,rfl⟩)
   | (go_at_call 24;refine hJ.out.mono ?_;clear hJ;rintro e ud ⟨y,rfl,hy,hBd⟩;replace hy:=Hid.on hy))
  all_goals (go_meet;exact⟨hy.out,Z2 hBc hBd⟩)
 case rest=>
 obtain⟨hy,hBw⟩:=hcut
 have hC1:=Hid.on (hC0.out.below hBw hz0)
 have hz1:=Nat.lt_of_lt_of_le hz0 hBw.size
 replace hBw:=Z2 hB0 hBw
 have hes:=hes.out
 unfold dgE at hes
 by_cases hne:hdE p q ds.length≠[]
 ·rw[if_neg hne] at hes
  subst hes
  obtain⟨T,x,rfl⟩:=hy.out.yes hne
  go_wp2
  exact bodyPost_ret (v:= .iface T x) (by simp[results,Tryz.results21,go_sem]) rfl ⟨_,rfl,hy.out,hBw⟩
 replace hne:=Decidable.not_not.1 hne
 rw[if_pos hne] at hes
 replace hes:=Hid.on hes
 obtain rfl:=hy.out.no hne
 clear hGr hLe hMo hy hC0 hB0 hz0 hne
 go_wp2_with fail
 go_loopw [24] (fun s24 wr=> ∃i:Nat,i<=ds.length/\s24=iI (i:Int)/\Hid (fdE p q (ds.drop i)=es)/\Bw w wr/\Hid (CV wr w.heap.size (GE p q g h))/\w.heap.size<wr.heap.size) (fun s24 _=>ds.length -(intOf s24).toNat)
 case atStart=>exact⟨0,by omega,rfl,by rw[List.drop_zero];exact hes,hBw,hC1,hz1⟩
 case round=>
  obtain⟨i,hi,rfl,ht,HBr,hC,hz⟩:=hrel
  clear hBw hC1 hz1
  by_cases hj:i<ds.length
  ·have hl:(i:Int)<(ds.length:Int):=by omega
   have hX:=hD.out.ix i hj
   have hR:=rg_up HBr (hD.out.lt.resolve_left (by omega)) (hD.out.at_ i hj)
   have hn0:=hIn.out i hj
   have hv0:=hD.out.nl i hj
   have ht2:=ht.out
   rw[fd_drop _ _ _ i hj] at ht2
   have e1:IntKind.i64.wrap ((i:Int)+1)=((i+1:Nat):Int):=by rw[IntKind.wrap_i64];omega
   generalize ds.getD i (0,[])=x at *
   obtain⟨d,ns⟩:=x
   simp only at hR hn0 hv0 ht2
   have c0:wr.cell? ⟨gb,go+2*i,none⟩=some (iI d):=hR 0 _ rfl
   have c1:=hR 1 _ rfl
   clear hR
   have hce:=ge_c hC.out hz
   have hN:Hid (∀u,Bw w u->_):=fun u hB=>hDe.out d ns _ u hB (hv0.up hB) hn0
   clear hv0 hn0
   by_cases hn:dcE p q d ns=0
   ·rw[if_neg (fun e=>e hn)] at ht2
    have ht2:Hid _:=ht2
    go_wp2_with (go_at_call 45;refine(hN.out _ (Z1 HBr _)).mono ?_;clear hN;rw[hn];rintro e ua ⟨v,rfl,hv,hBa⟩;have hv:=hv.no rfl;subst hv;clear hce)
    refine⟨⟨i+1,by omega,by simp,ht2,Z2 (Z1 HBr _) hBa,?_,?_⟩,by simp[intOf];omega⟩
    ·exact(hC.out.below (Z1 (Z5 wr) _) hz).below hBa (by simp;omega)
    ·have:=hBa.size;simp at this;omega
   ·rw[if_pos hn] at ht2
    have ht2:Hid _:=ht2
    go_wp2_with (first
     | (go_at_call 45;refine(hN.out _ (Z1 HBr _)).mono ?_;clear hN;rintro e ua ⟨v,rfl,hv,hBa⟩;replace hBa:=Z2 (Z1 HBr _) hBa;rw[show bE (dcE p q d ns !=0) (dcE p q d ns)=[dcE p q d ns] by rw[bE,if_pos (bne_iff_ne.2 hn)]] at hv;obtain⟨T,x,rfl⟩:=hv.yes (List.cons_ne_nil _ _);have hv:Hid _:=hv;clear hce)
     | (go_at_call 46;refine(hIt.out i _ hBa (by omega)).mono ?_;clear hIt;rintro e ub ⟨s,rfl,hs,hBb⟩;have hw2: ¬9223372036854775807<6+s.size:=by omega))
    have e2:=ht2.out
    subst e2
    go_ret;exact⟨_,rfl,.wrap _ (EJN.up hBb hv.out),Z2 hBa hBb⟩
  ·have hl: ¬(i:Int)<(ds.length:Int):=by omega
   go_wp2
   have ht3:=ht.out
   rw[List.drop_eq_nil_of_le (by omega)] at ht3
   subst ht3
   exact bodyPost_ret (v:= .nilIface) (by simp[results,Tryz.results21,go_sem]) rfl ⟨_,rfl,.nil _,HBr⟩
theorem jDealings(p q g h:Int)(ds:List (Int×List Int))(v:Value)(w:World)(hG:GP w)(hp:In p)(hq:In q)(hv:DL w v ds)(hl:ds.length<=1000)(hIn: ∀d∈ds,d.2.length<=50/\ ∀z∈d.2,In z):Calls Tryz.prog 21 #[GX p q g h,v] w fun r u=> ∃v,r= .returned v/\EJN u v (dgE p q ds)/\Bw w u:=by
 obtain⟨sl,gb,go,cap,sy,cy,gy,oy,rfl,h2,h3,h4,h5⟩:=hv
 exact dealings_core p q g h sl gb go cap ds sy cy gy oy _ w hG hp hq (by omega) h5 (fun j hj=>hIn _ (by simp[List.getElem?_eq_getElem hj])) rfl
end
section
open Go.RowKit Go.WideMaps Go.ChangeShapes
theorem NV_injM{a b:Int}(ha:In a)(hb:In b)(h:NV a=NV b):a=b:=by
 have e1:=V_In ha
 have e2:=V_In hb
 unfold NV A4 at h
 simp at h
 obtain⟨h0,h1,h2,h3⟩:=h
 rw[h0,h1,h2,h3] at e1
 exact e1.symm.trans e2
def MpE(q:Int)(xs:List Int)(es:Array MapEntry):Prop:=es.toList.map (·.key)=xs.map fun x=>NV (x%q)
theorem MpE.ne{q z:Int}{xs:List Int}{es:Array MapEntry}(h:MpE q xs es)(hi: ∀x∈xs,In (x%q))(hz:In z)(hn: ∀x∈xs,x%q≠z): ∀e∈es.toList,e.key≠NV z:=fun e he hc=>by
 have:e.key∈es.toList.map (·.key):=List.mem_map_of_mem he
 rw[h] at this
 obtain⟨x,hx,e1⟩:=List.mem_map.1 this
 exact hn x hx (NV_injM (hi x hx) hz (e1.trans hc))
theorem MpE.push{q z:Int}{xs:List Int}{es:Array MapEntry}{val:Value}{c:Nat}(h:MpE q xs es):MpE q (xs++[z]) (es.push ⟨NV (z%q),val,c⟩):=by
 unfold MpE at h⊢;simp[h]
end
section
section
section ring
variable {R:Type} [Lean.Grind.CommRing R]
def evF:Nat->(Nat->R)->R->R
 | 0,_,_=>0
 | n+1,f,x=>f 0+x*evF n (fun i=>f (i+1)) x
theorem evF_add(x:R): ∀(n:Nat) (f g:Nat->R),evF n (fun i=>f i+g i) x=evF n f x+evF n g x
 | 0,f,g=>by simp only[evF];grind
 | n+1,f,g=>by simp only[evF];rw[evF_add x n (fun i=>f (i+1)) (fun i=>g (i+1))];grind
theorem evF_tab(x:R): ∀(n:Nat) (f:Nat->Int),evPR ((tab n f).map cR) x=evF n (fun i=>cR (f i)) x
 | 0,f=>rfl
 | n+1,f=>by
  have h:=evF_tab x n (fun i=>f (i+1))
  rw[tab,List.range_succ_eq_map,List.map_cons,List.map_map,List.map_cons,evPR,evF,<-h]
  rfl
theorem evF_list(x:R): ∀(n:Nat) (l:List Int),l.length<=n->evF n (fun i=>cR (l.getD i 0)) x=evPR (l.map cR) x
 | 0,l,h=>by rw[List.eq_nil_of_length_eq_zero (Nat.le_zero.1 h)];rfl
 | n+1,[],h=>by
  have e:=evF_list x n [] (Nat.zero_le _)
  rw[evF,show (fun i=>(cR (([]:List Int).getD (i+1) 0):R))=fun i=>cR (([]:List Int).getD i 0) from funext fun i=>by simp,e]
  simp only[List.map_nil,evPR,List.getD_nil,cR_0];grind
 | n+1,a::l,h=>by
  rw[evF,List.map_cons,evPR,<-evF_list x n l (by simpa using h)]
  rfl
variable (p:Nat) [Lean.Grind.IsCharP R p]
end ring
def sAd(q:Int)(aa bs:List Int):List Int:=tab (max aa.length bs.length) fun i=>(aa.getD i 0+bs.getD i 0)%q
theorem sAd_len(q:Int)(aa bs:List Int):(sAd q aa bs).length=max aa.length bs.length:=We _ _
theorem hoN_sAd(p:Nat)[NeZero p](aa bs:List Int)(x:Int):(hoN p x aa aa.length+hoN p x bs bs.length)%(p:Int)=hoN p x (sAd p aa bs) (sAd p aa bs).length:=by
 have hp0:0<p:=Nat.pos_of_ne_zero (NeZero.ne p)
 have r:=hoN_rng (q:=p) (by omega) (x:=x) (ns:=sAd p aa bs) (sAd p aa bs).length
 have e:(cR (hoN p x aa aa.length+hoN p x bs bs.length):Fin p)=cR (hoN p x (sAd p aa bs) (sAd p aa bs).length):=by
  rw[cR_add,cR_hoN,cR_hoN,cR_hoN,sAd,evF_tab,<-evF_list (cR x) (max aa.length bs.length) aa (by omega),<-evF_list (cR x) (max aa.length bs.length) bs (by omega),<-evF_add]
  congr 1
  funext i
  rw[Xy,cR_add]
 rw[cR_ext p,Int.emod_eq_of_lt r.1 r.2] at e
 exact e
end
end
section
open Go.RowKit
theorem flt_take: ∀(ps:List (Int×Int)) (m:Nat),flt (ps.take m)=(flt ps).take (2*m)
 | [],m=>by simp[flt]
 | p::l,0=>by simp[flt]
 | p::l,m+1=>by rw[List.take_succ_cons,flt,flt_take l m,flt,show 2*(m+1)=2*m+1+1 by omega,List.take_succ_cons,List.take_succ_cons]
theorem flN_take: ∀(ns:List Int) (m:Nat),flN (ns.take m)=(flN ns).take (4*m)
 | [],m=>by simp[flN]
 | n::l,0=>by simp[flN]
 | n::l,m+1=>by rw[List.take_succ_cons,flN,flN_take l m,flN,show 4*(m+1)=(LN n).length+4*m by show _=4+4*m;omega,List.take_length_add_append]
theorem SN.take{w:World}{g o:Nat}{ns:List Int}(h:SN w g o ns)(m:Nat):SN w g o (ns.take m):=fun j v hj=>by
 rw[flN_take,List.getElem?_take] at hj
 split at hj
 ·exact h j v hj
 ·cases hj
theorem PtL.take{u:World}{sl:Option Addr}{cap m:Nat}{ps:List (Int×Int)}(h:PtL u (.slice sl ps.length cap) ps)(hm:m<=ps.length):PtL u (.slice sl m cap) (ps.take m):=by
 obtain⟨sl',gb,go,cap',e,h2,h3,h4,h5,h6⟩:=h
 cases e
 have hl:(ps.take m).length=m:=by rw[List.length_take];omega
 refine⟨sl,gb,go,cap,by rw[hl],by omega,h3,?_,?_,by rw[flt_take];exact h6.take _⟩
 ·rcases h4 with h4 | h4
  ·subst h4;exact .inl (by simp)
  ·exact .inr h4
 ·rcases h5 with h5 | h5
  ·exact .inl (by omega)
  ·exact .inr h5
theorem NL.take{u:World}{b n m:Nat}{ns:List Int}(hb:b<u.heap.size)(h:CV u b (flN ns))(hn:ns.length=n)(hm:m<=n):NL u (.slice (some ⟨b,0,none⟩) (ns.take m).length n) (ns.take m):=
 ⟨_,b,0,n,rfl,by rw[List.length_take];omega,(by simp),.inr rfl,.inr hb,(show SN u b 0 ns from fun j v hj=>by rw[Nat.zero_add];exact(h j v hj).1).take m⟩
theorem cAddE(q:Int)(aa bs:List Int)(v vb:Value)(w:World)(hs:bs.length<=aa.length)(hG:GP w)(hq:In q)(hq2:2<=q)(hv:NL w v aa)(hna: ∀z∈aa,In z)(h1:1<=aa.length)(hl:aa.length<=256)(hvb:NL w vb bs)(hnb: ∀z∈bs,In z)(h1b:1<=bs.length)(hlb:bs.length<=256):
 Calls Tryz.prog 54 #[NV q,v,vb] w fun e u=> ∃y,e= .returned (.tuple #[y,iI 0])/\PRw w.heap.size (sAd q aa bs) u y/\Bw w u:=by
 obtain⟨sa,ga,oa,ca,rfl,a2,a3,a4,a5,a6⟩:=hv
 obtain⟨sb,gb,ob,cb,rfl,b2,b3,b4,b5,b6⟩:=hvb
 exact add_ok q sa sb ga oa ca gb ob cb aa bs (sAd q aa bs) w hq (by omega) (by omega) (by simp;omega) (cPolyn hG hq hq2 hl h1) (cPolyn hG hq hq2 hlb h1b) (NL.ix (u:=w) a4) a5 a6 (Ye hna) (NL.ix (u:=w) b4) b5 b6 (Ye hnb) (by omega) (by show (sAd q aa bs).length=aa.length;rw[sAd_len];omega) (fun k hk=>by unfold sAd;rw[Yt (by omega)])
def sm1(q:Int)(f:Nat->Int):Nat->Int
 | 0=>0
 | i+1=>(sm1 q f i+f i)%q
theorem sm1_In{q:Int}{f:Nat->Int}(hq:In q)(hq2:2<=q): ∀i,In (sm1 q f i)
 | 0=>by rw[sm1];exact⟨by decide,by decide⟩
 | i+1=>⟨Int.emod_nonneg _ (by omega),Int.lt_trans (Int.emod_lt_of_pos _ (by omega)) hq.2⟩
abbrev shS(l:List (Int×Int×Int))(i:Nat):Int:=(l.getD i (0,0,0)).2.1
abbrev shT(l:List (Int×Int×Int))(i:Nat):Int:=(l.getD i (0,0,0)).2.2
theorem sAd2(q a b c d:Int):sAd q [a,b] [c,d]=[(a+c)%q,(b+d)%q]:=by rfl
theorem NL.two{w:World}(a b:Int):NL (w.alloc (.cells (LN a++LN b:List Value).toArray 36)) (.slice (some ⟨w.heap.size,0,none⟩) 2 2) [a,b]:=
 ⟨_,w.heap.size,0,2,rfl,Nat.le_refl _,by simp,.inr rfl,.inr (by simp),fun j v hj=>by rw[Nat.zero_add];exact(CV.new w (LN a++LN b) 36 j v (by simpa [flN] using hj)).1⟩
theorem CVn{u:World}{b:Nat}(l:List Value)(T:TypeId)(h:b=u.heap.size):CV (u.alloc (.cells l.toArray T)) b l:=h▸CV.new u l T
theorem added_core(p q g h m:Int)(sl:Option Addr)(gb go cap:Nat)(l:List (Int×Int×Int))(S T:Nat->Int)(w:World)(hix:Hid (∀j,j<l.length-> ∀W,(Instr.indexAt 26 (.slice sl l.length cap) (iI j)).run Tryz.prog W= .ok (.pointer (some ⟨gb,go+9*j,none⟩)) W))(hg:gb<w.heap.size)(hS:Hid (∀j,j<l.length->w.rangeAt gb (go+9*j) (SE (l.getD j (0,0,0)).1 (shS l j) (shT l j))))(hl0:l.length<=1000)(h1:1<=l.length)(hm:Hid ((l.getD 0 (0,0,0)).1=m))(s0:S 0=0)(t0:T 0=0)
 (hA:Hid (∀i,i<l.length-> ∀u y y2,Bw w u->w.heap.size+2<=u.heap.size->PRw (w.heap.size+2) [S i,T i] u y->NL u y2 [shS l i,shT l i]->Calls Tryz.prog 54 #[NV q,y,y2] u fun e u'=> ∃z,e= .returned (.tuple #[z,iI 0])/\PRw (w.heap.size+2) [S (i+1),T (i+1)] u' z/\Bw u u')):
 CC 29 #[GX p q g h,.slice sl l.length cap] w (SX m (S l.length) (T l.length)):=by
 have hmk: ∀W,(Instr.makeSlice 27 (iI 2) (iI 2)).run Tryz.prog W= .ok (.slice (some ⟨W.heap.size,0,none⟩) 2 2) (W.alloc (.cells (flN (List.replicate 2 0)).toArray 36)):=fun W=>mkNt 2 (by omega) W
 go_enter Tryz.func29,Tryz.ntmps29
 go_wp2_with fail
 generalize hW:World.alloc (World.alloc (World.alloc w _) _) _=w3
 have hz0:w.heap.size+2<w3.heap.size:=by rw[<-hW];simp
 have hB0:Bw w w3:=by rw[<-hW];exact Z1 (Z1 (Z1 (Z5 w) _) _) _
 have hP0:PRw (w.heap.size+2) [0,0] w3 (.slice (some ⟨w.heap.size+2,0,none⟩) 2 2):=by rw[<-hW];exact⟨_,rfl,Nat.le_refl _,by simp,CVn (flN [0,0]) 36 (by simp)⟩
 have hC0:CV w3 w.heap.size (GE p q g h):=by rw[<-hW];exact(CV.new w (GE p q g h) 43).below (Z1 (Z1 (Z5 _) _) _) (by simp)
 have hC1:CV w3 (w.heap.size+1) L0h:=by
  rw[<-hW]
  exact(CVn L0h 38 (by simp)).below (Z1 (Z5 _) _) (by simp)
 clear hW
 go_loopw [11,5] (fun s11 s5 wr=> ∃(i:Nat) (y:Value),i<=l.length/\s11=iI (i:Int)/\y=s5/\Hid (PRw (w.heap.size+2) [S i,T i] wr y)/\Hid (CV wr w.heap.size (GE p q g h))/\Hid (CV wr (w.heap.size+1) L0h)/\w.heap.size+2<wr.heap.size/\Bw w wr) (fun s11 _ _=>l.length -(intOf s11).toNat)
 case atStart=>exact⟨0,_,by omega,rfl,rfl,by rw[s0,t0];exact hP0,hC0,hC1,hz0,hB0⟩
 case round=>
  obtain⟨i,y,hi,rfl,rfl,hP,hC,hD,hz,HBr⟩:=hrel
  clear hP0 hC0 hC1 hz0 hB0
  obtain⟨b,eb,hbl,hbs,hbc⟩:=hP.out
  simp only[List.length_cons,List.length_nil] at eb
  subst eb
  by_cases hj:i<l.length
  ·have hl:(i:Int)<(l.length:Int):=by omega
   have hX:=hix.out i hj
   have hR:=rg_up HBr hg (hS.out i hj)
   have e1:IntKind.i64.wrap ((i:Int)+1)=((i+1:Nat):Int):=by rw[IntKind.wrap_i64];omega
   have hA1:=hA.out i hj
   generalize shS l i=s at *
   generalize shT l i=t at *
   generalize (l.getD i (0,0,0)).1=n at *
   have c0:wr.cell? ⟨gb,go+9*i,none⟩=some (iI n):=hR 0 _ rfl
   have c1:=hR 1 _ rfl
   have c2:=hR 2 _ rfl
   have c3:=hR 3 _ rfl
   have c4:=hR 4 _ rfl
   have c5:=hR 5 _ rfl
   have c6:=hR 6 _ rfl
   have c7:=hR 7 _ rfl
   have c8:=hR 8 _ rfl
   clear hR
   obtain⟨g0,g1,g2,g3,g4,g5,g6,g7,_⟩:=ge_c hC.out (by omega) (.cells (SE n s t:List Value).toArray 38)
   have hB1:Bw wr ((wr.alloc (.cells (SE n s t:List Value).toArray 38)).alloc (.cells (LN s++LN t:List Value).toArray 36)):=Z1 (Z1 (Z5 wr) _) _
   have hA2:=hA1 ((wr.alloc (.cells (SE n s t:List Value).toArray 38)).alloc (.cells (LN s++LN t:List Value).toArray 36)) (.slice (some ⟨b,0,none⟩) 2 2) (.slice (some ⟨wr.heap.size+1,0,none⟩) 2 2) (Z2 HBr hB1) (by have:=hB1.size;omega) (hP.out.stab hB1) (by have:=NL.two (w:=wr.alloc (.cells (SE n s t:List Value).toArray 38)) s t;rw[World.size_alloc] at this;exact this)
   replace hA2:=Hid.on hA2
   have hB1:Hid _:=hB1
   clear hA1 hbc
   go_wp2_with (go_at_call 54;refine hA2.out.mono ?_;clear hA2;rintro e ua ⟨z,rfl,hZ,hBa⟩;obtain⟨b2,rfl,_⟩:=id hZ;have hZ:Hid _:=hZ)
   have hBw:Bw wr ua:=Z2 hB1.out hBa
   refine⟨⟨i+1,_,by omega,by simp,rfl,hZ.out,hC.out.below hBw (by omega),hD.out.below hBw (by omega),?_,Z2 HBr hBw⟩,by simp[intOf];omega⟩
   have:=hBw.size;omega
  ·have hl: ¬(i:Int)<(l.length:Int):=by omega
   obtain rfl:i=l.length:=by omega
   have hX: ∀W,(Instr.indexAt 26 (.slice sl l.length cap) (iI 0)).run Tryz.prog W= .ok (.pointer (some ⟨gb,go,none⟩)) W:=fun W=>hix.out 0 (by omega) W
   have c0:w.cell? ⟨gb,go,none⟩=some (iI m):=by have:=hS.out 0 (by omega) 0 _ rfl;rw[hm.out] at this;exact this
   have K0_1:Bk w.heap.size wr [(false,w.heap.size,GE p q g h),(true,w.heap.size+1,L0h),(false,b,LN (S l.length)++LN (T l.length))]:=⟨.c (by omega) hC.out<| .o (by omega) (by omega) hD.out<| .c hbs hbc<|trivial,by simp<;>omega⟩
   go_upto_region 7 with fail
   refine Rd K0_1 HBr [.no,.all 11 (SE m (S l.length) (T l.length))] [] (cG 0 28 [_,_,_,_,_,_,_,_,_,_,_] []) [] [] [] (Od8 g_mv (g_ix hX) (g_fd (fdS0o _ _)) (g_lgp gb go lI c0 hg) g_mv (g_ix (fun uZ=>ixZ b 2 2 0 (by decide) uZ)) (g_lR 2 (4*0) (cs:=LN (S l.length)) (show ∀j v,(LN (S l.length):List Value)[j]?=some v->(LN (S l.length)++LN (T l.length):List Value)[4*0+j]?=some v from fun j v hj=>match j,hj with | 0,h=>h | 1,h=>h | 2,h=>h | 3,h=>h) uN iN) g_mv<|Oc4 (g_ix (fun uZ=>ixZ b 2 2 1 (by decide) uZ)) (g_lR 2 (4*1) (cs:=LN (T l.length)) (show ∀j v,(LN (T l.length):List Value)[j]?=some v->(LN (S l.length)++LN (T l.length):List Value)[4*1+j]?=some v from fun j v hj=>match j,hj with | 0,h=>h | 1,h=>h | 2,h=>h | 3,h=>h) uN iN) (g_bd (bdSh m _ _)) (g_st 1 Zr)) fun u1 HB1 _ K1=>?_
   simp only[sQ] at K1⊢
   have c4_0:=((K1.cv 1) 0 _ rfl).1
   have c4_1:=((K1.cv 1) 1 _ rfl).1
   have c4_2:=((K1.cv 1) 2 _ rfl).1
   have c4_3:=((K1.cv 1) 3 _ rfl).1
   have c4_4:=((K1.cv 1) 4 _ rfl).1
   have c4_5:=((K1.cv 1) 5 _ rfl).1
   have c4_6:=((K1.cv 1) 6 _ rfl).1
   have c4_7:=((K1.cv 1) 7 _ rfl).1
   have c4_8:=((K1.cv 1) 8 _ rfl).1
   go_wp2
   refine bodyPost_ret (v:=SX m (S l.length) (T l.length)) (by simp[results,Tryz.results29,go_sem,c4_0,c4_1,c4_2,c4_3,c4_4,c4_5,c4_6,c4_7,c4_8]) rfl ⟨rfl,HB1⟩
section
theorem Es.set{f:Nat->Bool}{t:Nat->Value}{u:World}: ∀{E:List En} {m:Nat} {q:En},Es f t u E->(f q.i=true->(∀c,q.c=some c->f c=false)->q.p u (t q.d))->Es f t u (E.set m q)
 | [],_,_,_,_=>trivial
 | x::r,0,q,h,hq=>⟨hq,h.2⟩
 | x::r,m+1,q,h,hq=>⟨h.1,Es.set h.2 hq⟩
section
variable {P:Program} {ops:Array Oper} {Q:Exit->Act->World->Prop} {id:Nat} {w0 w:World} {fr:List Value} {lo:Nat} {ks:List Blk}
theorem rgZ(n m:Nat)(pz:World->Value->Prop){o:Oper}{j d:Nat}{c:Option Nat}{p:World->Value->Prop}(K:Bk lo w0 ks)(HB:Below lo w w0)(hlo:lo<=w0.heap.size)(X:List Wr)(nw:List Nw)(G:List (Nat×Nat×Value))(O N:List (Nat×Nat))(E E2:List En)(M:List Bool)(hst:Stab E)
 (hE:E[m]?=some ⟨j,d,c,p⟩)(hE2:E2=E.set m ⟨j,d,none,pz⟩)(hn:ops[n]?=some o)(hsz:ops.size=n+1)(hcov:(List.range n).all (Zm o)=true)
 (hops:OpsAll (mkR fr lo w w0.heap.size ks X nw G O N E) P ops Q 0 (ops.toList.take n))
 (hlast: ∀f t u a,Xs (mkR fr lo w w0.heap.size ks X nw G O N E) ops f t u a n o->wpOp P ops Q n (fun a' u'=> ∃t',Fr fr (mkR fr lo w w0.heap.size ks X nw G O N E).S a' t'/\Inv (mkR fr lo w w0.heap.size ks X nw G O N E) (updF f n) t' u'/\pz u' (t' d)) a u)
 (hend: ∀u',AllNew nw fun bs=>AllE u' E2 fun vs=>Below lo w u'->w0.heap.size<=u'.heap.size->Bk lo u' (pM M (aK (fX ks X) (nK bs nw)))->Q .normal ⟨(setE (setN (setG fr G) bs nw) vs E2).toArray,[]⟩ u')
 (hm:P.follows .mixedOrders=true:=by kernel_rfl)(hb:Wq .any ops=true:=by kernel_rfl)(hok:(mkR fr lo w w0.heap.size ks X nw G O N E).ok=true:=by kernel_rfl)(hfit:fits ops.size X nw G E2=true:=by kernel_rfl):(Code.region id ops true).wp P Q ⟨fr.toArray,[]⟩ w0:=by
 have hKd:KA lo w0.drew ks:=by
  have:=K.a
  revert this
  clear hend hops K hok hlast
  induction ks with
  | nil=>intro _;trivial
  | cons q r ih=>exact fun h=>⟨⟨h.1.1,h.1.2.1,h.1.2.2.drew⟩,ih h.2⟩
 have hmap: ∀(E:List En) (m:Nat),E[m]?=some ⟨j,d,c,p⟩->(E.set m ⟨j,d,none,pz⟩).map (·.d)=E.map (·.d):=by
  intro E
  induction E with
  | nil=>intro m h;simp at h
  | cons x r ih=>
   intro m h
   cases m with
   | zero=>simp at h;subst h;rfl
   | succ m=>simp at h;simp[ih m h]
 have hS:(mkR fr lo w w0.heap.size ks X nw G O N E2).S=(mkR fr lo w w0.heap.size ks X nw G O N E).S:=by
  show G.map (·.2.1)++(nw.map (·.2.1)++E2.map (·.d))=G.map (·.2.1)++(nw.map (·.2.1)++E.map (·.d))
  rw[hE2,hmap E m hE]
 refine Xp (mkR fr lo w w0.heap.size ks X nw G O N E).S (fun f t u=>Inv (mkR fr lo w w0.heap.size ks X nw G O N E) f t u/\(f n=true->pz u (t d)/\ ∀i,i<n->f i=true)) hm hb ⟨Inv.start HB.drew rfl hKd hlo X nw G O N E,fun e=>by cases e⟩ ?_ ?_
 ·rintro f t u i oi a hF ⟨hI,hI2⟩ ho hfi hdep
  have hX:Xs (mkR fr lo w w0.heap.size ks X nw G O N E) ops f t u a i oi:=⟨hok,by show ((Uk ks X).map (·.2.1)).Nodup;rw[Xk];exact K.n,hst,hF,hI,ho,hfi,hdep⟩
  by_cases e:i=n
  ·subst e
   have e2:oi=o:=by rw[hn] at ho;cases ho;rfl
   subst e2
   have hc: ∀k,k<i->f k=true:=fun k hk=>Zq (List.all_eq_true.1 hcov k (List.mem_range.2 hk)) hdep
   refine wpOp_mono (fun a' u' h=>?_) (hlast f t u a hX)
   obtain⟨t',h1,h2,h3⟩:=h
   exact⟨t',h1,h2,fun _=>⟨h3,fun k hk=>by simp[updF,Nat.ne_of_lt hk,hc k hk]⟩⟩
  ·have hlt:i<n:=by
    have:i<ops.size:=(Array.getElem?_eq_some_iff.1 ho).1
    omega
   have hfn:f n=false:=by
    cases hf:f n
    ·rfl
    ·rw[(hI2 hf).2 i hlt] at hfi;cases hfi
   have hg:=hops.get (n:=i) (o:=oi) (by rw[List.getElem?_take_of_lt hlt,Array.getElem?_toList];exact ho)
   rw[Nat.zero_add] at hg
   refine wpOp_mono (fun a' u' h=>?_) (hg f t u a hX)
   obtain⟨t',h1,h2⟩:=h
   exact⟨t',h1,h2,fun e3=>by rw[updF,if_neg (by omega),hfn] at e3;cases e3⟩
 ·rintro f t u ⟨hI,hI2⟩ hall
  have h2:=hI2 (hall n (by omega))
  have hI3:Inv (mkR fr lo w w0.heap.size ks X nw G O N E2) f t u:=by
   obtain⟨a1,a2,a3,a4,a5,a6⟩:=hI
   refine⟨a1,a2,a3,a4,a5,?_⟩
   show Es f t u E2
   rw[hE2]
   exact Es.set a6 fun _ _=>h2.1
  have:=hI3.end hall hfit K.n hend
  rw[hS] at this
  exact this
end
section
variable {R:Rg} {P:Program} {ops:Array Oper} {Q:Exit->Act->World->Prop} {i:Nat} {o:Oper}
theorem st_last(k c m:Nat)(p pz:World->Value->Prop){T:TypeId}{x:Operand}{b j d:Nat}{l post:List Value}{v0:Value}(hr: ∀(u:World) (v:Value),p u v->u.cell? ⟨b,c,none⟩=some v0->u.frozen? ⟨b,c,none⟩=false->(Instr.storeAt T (.pointer (some ⟨b,c,none⟩)) v).run P u= .ok () (u.setCell ⟨b,c,none⟩ v))
 (hpp: ∀(u:World) (v:Value),Below R.lo R.w u->R.base<=u.heap.size->b<R.base->CV u b l->p u v->pz (u.setCell ⟨b,c,none⟩ v) v)(h0:l[c]?=some v0)(hp:post=l.take c)
 (hop:o.op= .store T x (.tmp d):=by rfl)(hn:R.es[k]?=some (true,b,l,.all i post):=by rfl)(hx:evR R i o x=some (.pointer (some ⟨b,c,none⟩)):=by rfl)(hm:R.E[m]?=some ⟨j,d,some i,p⟩:=by rfl)(hd:(Zm o j&&R.S.contains d)=true:=by rfl)
 (hf:(((R.es.eraseIdx k).all fun q=>q.2.2.2.free i)&&(R.nw.all (nwf0 i)))=true:=by rfl)(hE:(R.E.all (eGone [] i o))=true:=by rfl)(hc:({R with E:=[]}:Rg).chkS ops i o=true:=by rfl): ∀f t u a,Xs R ops f t u a i o->wpOp P ops Q i (fun a' u'=> ∃t',Fr R.fr R.S a' t'/\Inv R (updF f i) t' u'/\pz u' (t' d)) a u:=fun f t u a X=>by
 simp only[Bool.and_eq_true] at hf
 rw[Bool.and_eq_true,List.contains_iff_mem] at hd
 obtain⟨d2,d4⟩:=hd
 obtain⟨q1,q2,q3⟩:=X.I.2.1.get hn
 have q3:CV u b (bif f i then post else l):=q3
 rw[X.fi] at q3
 have q3:CV u b l:=q3
 have hv:p u (t d):=X.val hm d2 rfl
 have cc:=Chg.cell u b c (t d)
 have hlt:c<l.length:=(List.getElem?_eq_some_iff.1 h0).1
 obtain⟨hdst,s1,⟨s5,_⟩,s7⟩:=Yq hc
 have s1:lacks i R.G=true:=s1
 have s5:R.okO i o=true:=s5
 have s7:Wv R ops o=some true:=s7
 refine X.go s7 fun K hK=>wp_store hop (X.ev hx) (X.inS d4) (hr u _ hv (q3 c _ h0).1 (q3 c _ h0).2) (hK _ _ ?_)
 refine⟨t,by rw[hdst];exact X.F,⟨?_,?_,Gs.idle s1 X.I.2.2.1,Yd s5 X.I.2.2.2.1 X.dep,Ns.idle X.I.2.2.2.2.1,Es.gone (O:=[]) (fun j hj=>by simp at hj) X.dep hE⟩,hpp u _ X.I.1.bel X.I.1.sz q1 q3 hv⟩
 ·rw[X9 hf.2]
  exact X.I.1.wr (X.I.1.bel.setCell (q2 rfl) _) cc q1
 ·refine KC.put cc X.I.2.1 hn X.nd hf.1 ?_
  simp only[Wr.val,Yf,cond_true]
  rw[hp]
  intro jj v hj
  have h5:=q3.setC c hlt (t d) jj v
  refine h5 ?_
  rw[List.getElem?_take] at hj
  split at hj
  ·rename_i h6
   rw[List.getElem?_set_ne (by omega)];exact hj
  ·cases hj
end
end
abbrev DZ:Value:= .agg L0d.toArray
theorem bdDl(d:Int)(w:World):(Instr.build 29 [(0,iI d)].toArray).run Tryz.prog w= .ok (DX d (.slice none 0 0)) w:=by kernel_rfl
theorem sSN{b c n cap n0 c0:Nat}{sl s0:Option Addr}(w:World)(h:w.cell? ⟨b,c,none⟩=some (.slice s0 n0 c0))(hf:w.frozen? ⟨b,c,none⟩=false):(Instr.storeAt 27 (.pointer (some ⟨b,c,none⟩)) (.slice sl n cap)).run Tryz.prog w= .ok () (w.setCell ⟨b,c,none⟩ (.slice sl n cap)):=by go_simp
theorem Bk.setC{lo:Nat}{u:World}{ks:List Blk}{o:Bool}{b:Nat}{l:List Value}(k:Nat)(l':List Value)(K:Bk lo u ks)(e:ks[k]?=some (o,b,l))(h:CV u b l'):Bk lo u (ks.set k (o,b,l')):=by
 have hm: ∀(ks:List Blk) (k:Nat),ks[k]?=some (o,b,l)->KA lo u ks->KA lo u (ks.set k (o,b,l'))/\(ks.set k (o,b,l')).map (·.2.1)=ks.map (·.2.1):=by
  intro ks
  induction ks with
  | nil=>intro k e;simp at e
  | cons x r ih=>
   intro k e hK
   cases k with
   | zero=>simp at e;subst e;exact⟨⟨⟨hK.1.1,hK.1.2.1,h⟩,hK.2⟩,rfl⟩
   | succ k=>
    simp at e
    have:=ih k e hK.2
    exact⟨⟨hK.1,this.1⟩,by simp[this.2]⟩
 have:=hm ks k e K.a
 exact⟨this.1,by rw[this.2];exact K.n⟩
def PZD(bd:Nat)(dl:Int)(lo s n:Nat)(xs:List Value)(u:World)(v:Value):Prop:=PG lo s n xs u v/\CV u bd [iI dl,v]
theorem st_pg{lo s n:Nat}{xs:List Value}{b c n0 c0:Nat}{s0:Option Addr}(u:World)(v:Value)(hv:PG lo s n xs u v)(h:u.cell? ⟨b,c,none⟩=some (.slice s0 n0 c0))(hf:u.frozen? ⟨b,c,none⟩=false):(Instr.storeAt 27 (.pointer (some ⟨b,c,none⟩)) v).run Tryz.prog u= .ok () (u.setCell ⟨b,c,none⟩ v):=by
 obtain⟨b2,cap,zs,rfl,_⟩:=hv
 exact sSN u h hf
theorem st_pz{lo s n bd:Nat}{xs:List Value}{dl:Int}{v0:Value}{u:World}{v:Value}(hb:bd<lo)(hc:CV u bd [iI dl,v0])(hv:PG lo s n xs u v):PZD bd dl lo s n xs (u.setCell ⟨bd,1,none⟩ v) v:=by
 refine⟨?_,hc.setC 1 (by simp) v⟩
 obtain⟨b2,cap,zs,e,h1,h2,h3,h4,h5⟩:=hv
 exact⟨b2,cap,zs,e,h1,by simpa using h2,h3,h4,h5.oset ⟨bd,1,none⟩ v (by show b2≠bd;omega)⟩
def PQn(lo:Nat)(ns:List Int)(u:World)(y:Value):Prop:= ∃b co zs,y= .slice (some ⟨b,0,none⟩) ns.length co/\lo<=b/\b<u.heap.size/\ns.length<=co/\CV u b (flN ns++zs)
theorem PQn.nl{lo:Nat}{ns:List Int}{u:World}{y:Value}(h:PQn lo ns u y):NL u y ns:=by
 obtain⟨b,co,zs,rfl,_,hb,hc,h⟩:=h
 refine⟨_,b,0,co,rfl,hc,(by simp),.inr rfl,.inr hb,fun i v hi=>?_⟩
 rw[Nat.zero_add]
 exact(h i v (by rw[List.getElem?_append_left (List.getElem?_eq_some_iff.1 hi).1];exact hi)).1
theorem dl_row{u:World}{lo b j c:Nat}{ns:List Int}{zs:List Value}(hl:lo<=b)(hb:b<u.heap.size)(h:CV u b (flN (ns.take j)++zs))(hj:j=ns.length)(hc:j<=c):PQn lo ns u (.slice (some ⟨b,0,none⟩) j c):=by
 subst hj
 rw[List.take_length] at h
 exact⟨b,c,zs,rfl,hl,hb,hc,h⟩
theorem xdl_k(p q g h dl:Int)(sa sb:Option Addr)(ca cb ga oa gb ob:Nat)(ss ts ns:List Int)(w:World)(hC:Hid (∀u,CC 16 #[GX p q g h] u (iI 0)))(hN:Hid (∀u,CC 18 #[iI dl] u (.bool true)))(hS:Hid (∀u,CC 17 #[.slice sa ss.length ca,.slice sb ts.length cb] u (.bool true)))(hI:Hid (∀u,CC 35 #[GX p q g h,NV g] u (.bool true)))(hJ:Hid (∀u,CC 35 #[GX p q g h,NV h] u (.bool true)))(hP:Hid (∀j,j<ss.length-> ∀u,CC 36 #[GX p q g h,NV (ss.getD j 0),NV (ts.getD j 0)] u (NV (ns.getD j 0))))(hixa:Hid (∀j,j<ss.length-> ∀W,(Instr.indexAt 27 (.slice sa ss.length ca) (iI j)).run Tryz.prog W= .ok (.pointer (some ⟨ga,oa+4*j,none⟩)) W))(hga:ss.length=0\/ga<w.heap.size)(hSa:Hid (SN w ga oa ss))(hixb:Hid (∀j,j<ts.length-> ∀W,(Instr.indexAt 27 (.slice sb ts.length cb) (iI j)).run Tryz.prog W= .ok (.pointer (some ⟨gb,ob+4*j,none⟩)) W))(hgb:ts.length=0\/gb<w.heap.size)(hSb:Hid (SN w gb ob ts))(hln:ns.length=ss.length)(hlt:ts.length=ss.length)(h1:1<=ss.length)(h6:ss.length<=6):
 Calls Tryz.prog 15 #[GX p q g h,iI dl,.slice sa ss.length ca,.slice sb ts.length cb] w fun e' w'=> ∃y,e'= .returned (.tuple #[DX dl y,iI 0])/\PQn w.heap.size ns w' y/\Bw w w':=by
 go_enter Tryz.func15,Tryz.ntmps15
 go_upto_region 1 with fail
 obtain⟨v0,hC,HB0,K0⟩:=bx2 w (GE p q g h) 43 L0d 29
 rw[hC]
 clear hC
 refine Rn K0 HB0 (cG 0 12 [_,_,_] []) (Oc3 (g_ld 0 Tryz.underlying43 Z0) (g_cl Y3 hC.out) (g_bn (fun uZ=>Ys _ _ _ 0 0 _ uZ rfl))) fun u1 HB1 _ K1=>?_
 simp only[sQ] at K1⊢
 go_upto_region 3 with fail
 refine Rn K1 HB1 (cG 0 16 [_,_,_,_,_,_,_,_,_] []) (Oc9 g_mv (g_cl Zi hN.out) (g_un W1) g_mv g_mv g_mv (g_cl Yh hS.out) (g_un W1) g_pk) fun u2 HB2 _ K2=>?_
 simp only[sQ] at K2⊢
 go_upto_region 5 with fail
 refine Rn K2 HB2 (cG 0 26 [_,_,_,_,_,_,_,_,_,_,_,_] []) (Od8 (g_ld 0 Tryz.underlying43 Z0) (g_fd (fdG2 _)) (g_lo 0 8 uN iN) (g_cl Y0 hI.out) (g_un W1) g_mv (g_ld 0 Tryz.underlying43 Z0) (g_fd (fdG3 _))<|Oc4 (g_lo 0 12 uN iN) (g_cl Y0 hJ.out) (g_un W1) g_pk) fun u3 HB3 _ K3=>?_
 simp only[sQ] at K3⊢
 go_upto_region 7 with fail
 refine Rp K3 HB3 [] [(2,10,L0d,some (3,DE dl (.slice none 0 0)))] [(0,39,_),(1,40,_)] [(3,2)] [] [] (Oc4 g_mv (g_bd (bdDl dl)) (g_al 0 U2) (g_sn 0 Z7)) fun u4 b4_2 HB4 _ K4=>?_
 simp only[sQ] at K4⊢
 go_upto_region 8 with fail
 refine Rn K4 HB4 [(0,11,_)] (Oc1 g_as) fun u5 HB5 _ K5=>?_
 simp only[sQ] at K5⊢
 go_wp2_with fail
 go_loopw [11] (fun s11 wr=> ∃(j:Nat),j<=ss.length/\s11=iI (j:Int)/\Bw w wr/\((j=0/\Bk w.heap.size wr [(true,w.heap.size,GE p q g h),(true,w.heap.size+1,L0d),(true,b4_2,DE dl (.slice none 0 0))])\/ ∃(b c:Nat) (zs:List Value),j<=c/\zs.length=(c -j)*4/\Bk w.heap.size wr [(true,w.heap.size,GE p q g h),(true,w.heap.size+1,L0d),(true,b4_2,DE dl (.slice (some ⟨b,0,none⟩) j c)),(true,b,flN (ns.take j)++zs)])) (fun s11 _=>ss.length -(intOf s11).toNat)
 case atStart=>exact⟨0,by omega,rfl,HB5,.inl ⟨rfl,K5⟩⟩
 case round=>
  obtain⟨j,hj,rfl,HBr,hrow⟩:=hrel
  by_cases hjl:j<ss.length
  ·have hl:decide ((j:Int)<(ss.length:Int))=true:=by simp;omega
   obtain⟨y,ey⟩: ∃y,ns.getD j 0=y:=⟨_,rfl⟩
   obtain⟨s,es⟩: ∃s,ss.getD j 0=s:=⟨_,rfl⟩
   obtain⟨t,et⟩: ∃t,ts.getD j 0=t:=⟨_,rfl⟩
   have hy:=flN_tk ns j (by omega)
   have hP:=hP.out j hjl
   have hXa:=hixa.out _ hjl
   have hXb:=hixb.out j (by omega)
   have hRa:=hSa.out.at _ hjl
   have hRb:=hSb.out.at j (by omega)
   have hga':=hga.resolve_left (by omega)
   have hgb':=hgb.resolve_left (by omega)
   have hsl:=Wj (ns.take j)
   rw[List.length_take,show min j ns.length=j by omega] at hsl
   rw[ey] at hy hP
   rw[es] at hP hRa
   rw[et] at hP hRb
   have hy:Hid _:=hy
   have hP:Hid _:=hP
   have hXa:Hid _:=hXa
   have hXb:Hid _:=hXb
   have hRa:Hid _:=hRa
   have hRb:Hid _:=hRb
   obtain⟨ti,hti,hm⟩:=Option.map_eq_some_iff.1 infoNt
   simp only[Prod.mk.injEq] at hm
   obtain⟨hzv,hsz,hby⟩:=hm
   clear ey es et hC hN hS hI hJ
   rcases hrow with⟨hj0,Kr⟩ | ⟨b5,c5,zs,hjc,hzl,Kr⟩
   ·skip
    go_upto_region 9 with fail
    refine Rn Kr HBr (cG 0 41 [_,_,_,_] []) (Oc4 g_mv g_mv (g_ln Tryz.underlying27) (g_bn (fun uZ=>Z8 _ _ (j:Int) (ss.length:Int) _ uZ hl))) fun u6 HB6 sz6 K6=>?_
    simp only[sQ] at K6⊢
    have hw9:=HB6.size
    go_upto_region 11 with fail
    refine rgZ 15 1 (PZD b4_2 dl u6.heap.size ti.size (j+1) (flN (ns.take j)++LN y)) K6 HB6 HB6.size [.no,.no,.all 15 ([iI dl])] [] [(0,47,.pointer (some ⟨b4_2,1,none⟩)),(1,48,.slice none 0 0),(2,49,GX p q g h),(3,50,.slice sa ss.length ca),(4,51,iI (j:Int)),(5,52,.pointer (some ⟨ga,oa+4*j,none⟩)),(6,53,NV s),(7,54,.slice sb ts.length cb),(8,55,iI (j:Int)),(9,56,.pointer (some ⟨gb,ob+4*j,none⟩)),(10,57,NV t),(11,58,NV y),(14,61,.pointer (some ⟨b4_2,1,none⟩))] [(15,1)] [] [⟨12,59,some 13,P1 (LN y)⟩,⟨13,60,some 15,PG u6.heap.size ti.size (j+1) (flN (ns.take j)++LN y)⟩] [⟨12,59,some 13,P1 (LN y)⟩,⟨13,60,none,PZD b4_2 dl u6.heap.size ti.size (j+1) (flN (ns.take j)++LN y)⟩] [] (.cons (fun _ _ _ h1 h2=>h2.stab h1)<| .cons (fun _ _ _ h1 h2=>h2.stab h1)<|Stab.nil) rfl rfl rfl rfl (by kernel_rfl) ?_ ?_ ?_
    ·exact Od8 (g_fd (fdD1 _)) (g_lc 2 1 lSN) (g_ld 0 Tryz.underlying43 Z0) g_mv g_mv (g_ix hXa.out) (g_lf hRa.out hga' uN iN) g_mv<|Oc7 g_mv (g_ix hXb.out) (g_lf hRb.out hgb' uN iN) (g_cl Zy hP.out) (g_bR 0 (P1 (LN y)) [0] [NV y] (LN y) (bsN1 _) (fun u hu=>P1.new _ _ u)) (g_pG 0 1 (P1 (LN y)) (n:=j) (xs:=flN (ns.take j)) (news:=LN y) Tryz.underlying27 hti hzv (by rw[hsz];rfl) P1.at hsz.symm (fun f u kZ=>⟨by rw[hsz];omega,.inl ⟨rfl,hj0⟩⟩) (by rw[hby];omega) (by omega)) (g_fd (fdD1 _))
    ·exact(st_last 2 1 1 (PG u6.heap.size ti.size (j+1) (flN (ns.take j)++LN y)) (PZD b4_2 dl u6.heap.size ti.size (j+1) (flN (ns.take j)++LN y)) st_pg (fun u v _ _ hb hc hv=>st_pz hb hc hv) rfl rfl)
    intro u7 v7_12 hv7_12 v7_13 hv7_13 HB7 sz7 K7
    simp only[sQ] at K7⊢
    obtain⟨⟨b6,c6,zs6,rfl,ho1,ho2,hc6,hz6,hoC⟩,hdC⟩:=hv7_13 rfl
    have K7xrow6:=Bk.moreT K6 K7 (by omega) ho1 ho2 hoC (by intro x hx;first | (simp at hx;done) | (simp at hx⊢;omega))
    simp only[aK] at K7xrow6
    rw[hsz] at hz6
    have Kz:=Bk.setC 2 (DE dl (.slice (some ⟨b6,0,none⟩) (j+1) c6)) K7xrow6 rfl hdC
    simp only[List.set_cons_succ,List.set_cons_zero] at Kz
    go_upto_region 10 with fail
    refine Rp Kz HB7 [] [] [(0,45,_),(1,46,_),(2,11,_)] [(2,0)] [(2,11)] [] (Oc3 g_mv (g_bn (fun uZ=>Zl _ _ (j:Int) 1 ((j+1:Nat):Int) uZ (by omega) (by omega) (by omega))) g_as) fun u8 HB8 sz8 K8=>?_
    simp only[sQ] at K8⊢
    go_wp2
    refine⟨⟨j+1,by omega,rfl,HB8,.inr ⟨b6,c6,zs6,hc6,hz6,(by rw[hy.out];exact K8)⟩⟩,?_⟩
    simp[intOf]<;>omega
   ·by_cases hrm:j+1<=c5
    ·rw[<-add_drop4 (xs:=flN (ns.take j)) (zs:=zs)] at Kr
     go_upto_region 9 with fail
     refine Rn Kr HBr (cG 0 41 [_,_,_,_] []) (Oc4 g_mv g_mv (g_ln Tryz.underlying27) (g_bn (fun uZ=>Z8 _ _ (j:Int) (ss.length:Int) _ uZ hl))) fun u6 HB6 sz6 K6=>?_
     simp only[sQ] at K6⊢
     have hw9:=HB6.size
     go_upto_region 11 with fail
     refine Re K6 HB6 [.no,.no,.all 15 (DE dl (.slice (some ⟨b5,0,none⟩) (j+1) c5)),.all 13 (flN (ns.take j)++LN y++zs.drop 4)] [] (cG 0 47 [_,_,_,_,_,_,_,_,_,_,_,_] [(13,60,_),(14,61,_)]) [(15,1)] [] [⟨12,59,some 13,P1 (LN y)⟩] [] (Od8 (g_fd (fdD1 _)) (g_lc 2 1 lSN) (g_ld 0 Tryz.underlying43 Z0) g_mv g_mv (g_ix hXa.out) (g_lf hRa.out hga' uN iN) g_mv<|Oc8 g_mv (g_ix hXb.out) (g_lf hRb.out hgb' uN iN) (g_cl Zy hP.out) (g_bR 0 (P1 (LN y)) [0] [NV y] (LN y) (bsN1 _) (fun u hu=>P1.new _ _ u)) (g_pI 3 0 (P1 (LN y)) (xs:=flN (ns.take j)) (ys:=zs.take 4) (zs:=zs.drop 4) (news:=LN y) Tryz.underlying27 hti P1.at LN_one hsz.symm (by rw[hsz];omega) (by rw[List.length_take];simp;omega) hrm) (g_fd (fdD1 _)) (g_sw 2 1 sSN rfl rfl)) fun u7 v7_12 hv7_12 HB7 sz7 K7=>?_
     simp only[sQ] at K7⊢
     go_upto_region 10 with fail
     refine Rp K7 HB7 [] [] [(0,45,_),(1,46,_),(2,11,_)] [(2,0)] [(2,11)] [] (Oc3 g_mv (g_bn (fun uZ=>Zl _ _ (j:Int) 1 ((j+1:Nat):Int) uZ (by omega) (by omega) (by omega))) g_as) fun u8 HB8 sz8 K8=>?_
     simp only[sQ] at K8⊢
     go_wp2
     refine⟨⟨j+1,by omega,rfl,HB8,.inr ⟨b5,c5,zs.drop 4,hrm,(by rw[List.length_drop];omega),(by rw[hy.out];exact K8)⟩⟩,?_⟩
     simp[intOf]<;>omega
    ·have ec:j=c5:=by omega
     subst ec
     go_upto_region 9 with fail
     refine Rn Kr HBr (cG 0 41 [_,_,_,_] []) (Oc4 g_mv g_mv (g_ln Tryz.underlying27) (g_bn (fun uZ=>Z8 _ _ (j:Int) (ss.length:Int) _ uZ hl))) fun u6 HB6 sz6 K6=>?_
     simp only[sQ] at K6⊢
     have hw9:=HB6.size
     go_upto_region 11 with fail
     refine rgZ 15 1 (PZD b4_2 dl u6.heap.size ti.size (j+1) (flN (ns.take j)++LN y)) K6 HB6 HB6.size [.no,.no,.all 15 ([iI dl])] [] [(0,47,.pointer (some ⟨b4_2,1,none⟩)),(1,48,.slice (some ⟨b5,0,none⟩) j j),(2,49,GX p q g h),(3,50,.slice sa ss.length ca),(4,51,iI (j:Int)),(5,52,.pointer (some ⟨ga,oa+4*j,none⟩)),(6,53,NV s),(7,54,.slice sb ts.length cb),(8,55,iI (j:Int)),(9,56,.pointer (some ⟨gb,ob+4*j,none⟩)),(10,57,NV t),(11,58,NV y),(14,61,.pointer (some ⟨b4_2,1,none⟩))] [(15,1)] [] [⟨12,59,some 13,P1 (LN y)⟩,⟨13,60,some 15,PG u6.heap.size ti.size (j+1) (flN (ns.take j)++LN y)⟩] [⟨12,59,some 13,P1 (LN y)⟩,⟨13,60,none,PZD b4_2 dl u6.heap.size ti.size (j+1) (flN (ns.take j)++LN y)⟩] [true,true,true,false] (.cons (fun _ _ _ h1 h2=>h2.stab h1)<| .cons (fun _ _ _ h1 h2=>h2.stab h1)<|Stab.nil) rfl rfl rfl rfl (by kernel_rfl) ?_ ?_ ?_
     ·exact Od8 (g_fd (fdD1 _)) (g_lc 2 1 lSN) (g_ld 0 Tryz.underlying43 Z0) g_mv g_mv (g_ix hXa.out) (g_lf hRa.out hga' uN iN) g_mv<|Oc7 g_mv (g_ix hXb.out) (g_lf hRb.out hgb' uN iN) (g_cl Zy hP.out) (g_bR 0 (P1 (LN y)) [0] [NV y] (LN y) (bsN1 _) (fun u hu=>P1.new _ _ u)) (g_pG 0 1 (P1 (LN y)) (n:=j) (xs:=flN (ns.take j)) (news:=LN y) Tryz.underlying27 hti hzv (by rw[hsz];rfl) P1.at hsz.symm (fun f u kZ=>⟨by rw[hsz];omega,.inr ⟨b5,rfl,(KC.cv kZ 3).pre2⟩⟩) (by rw[hby];omega) (by omega)) (g_fd (fdD1 _))
     ·exact(st_last 2 1 1 (PG u6.heap.size ti.size (j+1) (flN (ns.take j)++LN y)) (PZD b4_2 dl u6.heap.size ti.size (j+1) (flN (ns.take j)++LN y)) st_pg (fun u v _ _ hb hc hv=>st_pz hb hc hv) rfl rfl)
     intro u7 v7_12 hv7_12 v7_13 hv7_13 HB7 sz7 K7
     simp only[sQ] at K7⊢
     obtain⟨⟨b6,c6,zs6,rfl,ho1,ho2,hc6,hz6,hoC⟩,hdC⟩:=hv7_13 rfl
     have K7xrow6:=Bk.moreT K6 K7 (by omega) ho1 ho2 hoC (by intro x hx;first | (simp at hx;done) | (simp at hx⊢;omega))
     simp only[aK] at K7xrow6
     rw[hsz] at hz6
     have Kz:=Bk.setC 2 (DE dl (.slice (some ⟨b6,0,none⟩) (j+1) c6)) K7xrow6 rfl hdC
     simp only[List.set_cons_succ,List.set_cons_zero] at Kz
     go_upto_region 10 with fail
     refine Rp Kz HB7 [] [] [(0,45,_),(1,46,_),(2,11,_)] [(2,0)] [(2,11)] [] (Oc3 g_mv (g_bn (fun uZ=>Zl _ _ (j:Int) 1 ((j+1:Nat):Int) uZ (by omega) (by omega) (by omega))) g_as) fun u8 HB8 sz8 K8=>?_
     simp only[sQ] at K8⊢
     go_wp2
     refine⟨⟨j+1,by omega,rfl,HB8,.inr ⟨b6,c6,zs6,hc6,hz6,(by rw[hy.out];exact K8)⟩⟩,?_⟩
     simp[intOf]<;>omega
  ·have hl:decide ((j:Int)<(ss.length:Int))=false:=by simp;omega
   have hjn:j=ns.length:=by omega
   rcases hrow with⟨hj0,Kr⟩ | ⟨b5,c5,zs,hjc,hzl,Kr⟩
   ·omega
   go_upto_region 9 with fail
   refine Rn Kr HBr (cG 0 41 [_,_,_,_] []) (Oc4 g_mv g_mv (g_ln Tryz.underlying27) (g_bn (fun uZ=>Z8 _ _ (j:Int) (ss.length:Int) _ uZ hl))) fun u6 HB6 sz6 K6=>?_
   simp only[sQ] at K6⊢
   go_upto_region 12 with fail
   refine Rp K6 HB6 [.no,.all 1 (DE dl (.slice (some ⟨b5,0,none⟩) j c5))] [] [(0,62,_),(2,9,_)] [] [] [] (Oc3 (g_ld 2 Tryz.underlying29 Z7) (g_st 1 Z7) g_as) fun u7 HB7 sz7 K7=>?_
   simp only[sQ] at K7⊢
   have c8_0:=((K7.cv 1) 0 _ rfl).1
   have c8_1:=((K7.cv 1) 1 _ rfl).1
   go_wp2
   refine bodyPost_ret (v:= .tuple #[DX dl (.slice (some ⟨b5,0,none⟩) j c5),iI 0]) (by simp[results,Tryz.results15,go_sem,c8_0,c8_1]) rfl ⟨_,rfl,dl_row (K7.lo 3) (K7.lt 3) (K7.cv 3) hjn hjc,HB7⟩
theorem NL.nilI(u:World):NL u (.slice none 0 0) []:=⟨none,0,0,0,rfl,Nat.le_refl _,fun _=>rfl,.inl rfl,.inl rfl,fun j v hj=>by simp[flN] at hj⟩
theorem xDealG(p q g h d:Int)(ss ts:List Int)(v v2:Value)(w:World)(hp:In p)(hq:In q)(hg:In g)(hh:In h)(hv:NL w v ss)(hv2:NL w v2 ts)(hs: ∀z∈ss,In z)(ht: ∀z∈ts,In z)(e0:dlE p q g h d ss ts=0):Calls Tryz.prog 15 #[GX p q g h,iI d,v,v2] w fun e u=> ∃y,e= .returned (.tuple #[DX (dlD p q g h d ss ts) y,iI (dlE p q g h d ss ts)])/\(NL u y (dlC p q g h d ss ts)/\(dlE p q g h d ss ts=0->PQn w.heap.size (dlC p q g h d ss ts) u y))/\Bw w u:=by
 have a':=hv
 have b':=hv2
 obtain⟨sa,ga,oa,ca,rfl,a2,a3,a4,a5,a6⟩:=hv
 obtain⟨sb,gb,ob,cb,rfl,b2,b3,b4,b5,b6⟩:=hv2
 have hc:gOk p q/\(ndB d=true/\shB ss.length ts.length=true)/\isB p q g=true/\isB p q h=true:=by
  unfold dlE at e0
  split at e0
  ·rename_i c1
   split at e0
   ·rename_i c2
    split at e0
    ·rename_i c3
     exact⟨c1,by simpa using c2,by simpa using c3⟩
    ·cases e0
   ·cases e0
  ·cases e0
 obtain⟨c1,⟨c2,c3⟩,c4,c5⟩:=hc
 have hC:=fun u=>Uj p q g h u hp hq c1
 have hS:=fun u=>xShaped sa sb ss.length ts.length ca cb u
 have hN:=fun u=>xNode d u
 have hI:=fun u=>xIsK p q g h g u hp hq hg c4
 have hJ:=fun u=>xIsK p q g h h u hp hq hh c5
 rw[c2] at hN
 rw[c3] at hS
 rw[dlD,dlC,e0,if_pos rfl,if_pos rfl]
 have hb:=shB_iff.1 c3
 have hq3:=c1.q3
 have hp7:=c1.2
 refine(xdl_k p q g h d sa sb ca cb ga oa gb ob ss ts (cmS p q g h ss ts) w hC hN hS hI hJ (fun j hj u=>?_) (NL.ix (u:=w) a4) a5 a6 (NL.ix (u:=w) b4) b5 b6 (Xd _ _ _ _ _ _) (by omega) (by omega) (by omega)).mono fun e u ⟨y,e1,h1,h2⟩=>⟨y,e1,⟨h1.nl,fun _=>h1⟩,h2⟩
 have e:(cmS p q g h ss ts).getD j 0=g^((ss.getD j 0)%q).toNat%p*(h^((ts.getD j 0)%q).toNat%p)%p:=by
  rw[cmS,Yt hj,T7 c4 c5]
 rw[e]
 exact xPair p q g h _ _ u hp hq hg hh (Ye hs j hj) (Ye ht j (by omega)) (by omega) (by omega)
theorem ent_J1:EnT 49:=fun _ _=>by kernel_rfl
theorem ent_J2:EnT 48:=fun _ _=>by kernel_rfl
def PNj(ns:List Int)(u:World)(v:Value):Prop:=NL u v ns
theorem PNj.stab{ns:List Int}{u u2:World}{x:Value}(hB:Bw u u2)(h:PNj ns u x):PNj ns u2 x:=NL.up h hB
theorem fdDo(b o:Nat)(w:World):(Instr.fieldAt 29 (.pointer (some ⟨b,o,none⟩)) 0).run Tryz.prog w= .ok (.pointer (some ⟨b,o+0,none⟩)) w:=by go_simp
theorem together_core(p q g h:Int)(sl:Option Addr)(gb go n cap m:Nat)(dn:Nat->Int)(sy:Nat->Option Addr)(ns aa:Nat->List Int)(cy gy oy mx:Nat->Nat)(cs:List Int)(w:World)(hD:Hid (DM w sl gb go n cap dn sy ns cy gy oy))(hn0:0<n)(hn:n<=1000)(hm0:mx 0=0)(hms:Hid (∀j,j<n->max (mx j:Int) ((ns j).length:Int)=(mx (j+1):Int)))(hmn:mx n=m)(hm6:m<=100)(hcl:Hid (cs.length=m))(hAll:Hid (∀k,k<m-> ∀u,Bw w u->Calls Tryz.prog 49 #[iI (k:Int),.slice sl n cap] u fun e u'=> ∃v,e= .returned v/\PNj (aa k) u' v/\Bw u u'))(hMul:Hid (∀k,k<m-> ∀u y,Bw w u->PNj (aa k) u y->CC 48 #[GX p q g h,y] u (.tuple #[NV (cs.getD k 0),iI 0]))):
 Calls Tryz.prog 23 #[GX p q g h,.slice sl n cap] w fun e' w'=> ∃y,e'= .returned (DX (dn 0) y)/\PRw w.heap.size cs w' y/\Bw w w':=by
 go_enter Tryz.func23,Tryz.ntmps23
 go_upto_region 1 with fail
 obtain⟨v0,hC,HB0,K0⟩:=bx2 w (GE p q g h) 43 L0d 29
 rw[hC]
 clear hC
 refine Rn K0 HB0 [(0,5,_)] (Oc1 g_as) fun u1 HB1 _ K1=>?_
 simp only[sQ] at K1⊢
 go_upto_region 2 with fail
 refine Rn K1 HB1 (cG 0 10 [_,_,_] []) (Oc3 g_mv (g_ln Tryz.underlying25) g_mv) fun u2 HB2 _ K2=>?_
 simp only[sQ] at K2⊢
 go_wp2_with fail
 go_loopw [12,5] (fun s12 s5 wr=> ∃(k:Nat),k<=n/\s12=iI (k:Int)/\s5=iI (mx k:Int)/\Bw w wr/\CV wr (w.heap.size) (GE p q g h)/\w.heap.size<wr.heap.size/\CV wr (w.heap.size+1) (L0d)/\w.heap.size+1<wr.heap.size) (fun s12 _ _=>n -(intOf s12).toNat)
 case atStart=>exact⟨0,by omega,rfl,by rw[hm0];rfl,HB2,(K2.cv 0),(K2.lt 0),(K2.cv 1),(K2.lt 1)⟩
 case round=>
  obtain⟨k,hk,rfl,rfl,HBr,C0,lC0,C1,lC1⟩:=hrel
  have hnK:=K2.n
  simp at hnK
  by_cases hj:k<n
  ·have hl:decide ((k:Int)<(n:Int))=true:=by simp;omega
   have hX:=hD.out.ix k hj
   have hX:Hid _:=hX
   have hR:=hD.out.at_ k hj
   have hR:Hid _:=hR
   have hg':=hD.out.lt.resolve_left (by omega)
   have hmx:=hms.out k hj
   have hmx:Hid _:=hmx
   have K2_1:Bk w.heap.size wr [(false,w.heap.size,GE p q g h),(true,w.heap.size+1,L0d)]:=⟨.c lC0 C0<| .o lC1 (K2.lo 1) C1<|trivial,by simp<;>omega⟩
   go_upto_region 3 with fail
   refine Rn K2_1 HBr [(0,13,_)] (Oc1 (g_bn (fun uZ=>Z8 _ _ (k:Int) (n:Int) _ uZ hl))) fun u3 HB3 sz3 K3=>?_
   simp only[sQ] at K3⊢
   go_upto_region 4 with fail
   refine Rp K3 HB3 [] [(2,7,L0d,some (3,DE (dn k) (.slice (sy k) (ns k).length (cy k))))] [(0,14,_),(1,15,_)] [(3,2)] [] [] (Oc4 (g_ix hX.out) (g_lf hR.out hg' Tryz.underlying29 Z7) (g_al 0 U2) (g_sn 0 Z7)) fun u4 b4_2 HB4 sz4 K4=>?_
   simp only[sQ] at K4⊢
   go_upto_region 5 with fail
   refine Rp K4 HB4 [] [] (cG 0 16 [_,_,_,_,_] [(5,5,_)]) [(5,0)] [(5,5)] [] (Oc6 g_mv (g_fd (fdD1 _)) (g_lc 2 1 lSN) (g_ln Tryz.underlying27) (g_mx hmx.out) g_as) fun u5 HB5 sz5 K5=>?_
   simp only[sQ] at K5⊢
   go_upto_region 6 with fail
   refine Rp K5 HB5 [] [] [(0,21,_),(1,12,_)] [(1,0)] [(1,12)] [] (Oc2 (g_bn (fun uZ=>Zl _ _ (k:Int) 1 ((k+1:Nat):Int) uZ (by omega) (by omega) (by omega))) g_mv) fun u6 HB6 sz6 K6=>?_
   simp only[sQ] at K6⊢
   go_wp2
   refine⟨⟨k+1,by omega,rfl,rfl,HB6,(K6.cv 0),(K6.lt 0),(K6.cv 1),(K6.lt 1)⟩,?_⟩
   simp[intOf]<;>omega
  ·have hl:decide ((k:Int)<(n:Int))=false:=by simp;omega
   have hkn:mx k=m:=by rw[show k=n by omega];exact hmn
   rw[hkn]
   clear hkn
   have K2_1:Bk w.heap.size wr [(false,w.heap.size,GE p q g h),(true,w.heap.size+1,L0d)]:=⟨.c lC0 C0<| .o lC1 (K2.lo 1) C1<|trivial,by simp<;>omega⟩
   go_upto_region 3 with fail
   refine Rn K2_1 HBr [(0,13,_)] (Oc1 (g_bn (fun uZ=>Z8 _ _ (k:Int) (n:Int) _ uZ hl))) fun u3 HB3 sz3 K3=>?_
   simp only[sQ] at K3⊢
   have hw0:w.heap.size<=u3.heap.size:=HB3.size
   go_upto_region 7 with fail
   refine Rf K3 HB3 [] [] [(0,22,_)] [] [] [⟨1,23,some 2,PRz u3.heap.size m⟩,⟨2,8,none,PRz u3.heap.size m⟩] [] (Oc3 g_mv (g_mS 0 (PRz u3.heap.size m) m (flN (List.replicate m 0)) (mkNt _ (by omega)) (fun u h=>PRz.new u h)) (g_sE 0 1 (PRz u3.heap.size m))) fun u4 v4_1 hv4_1 v4_2 hv4_2 HB4 sz4 K4=>?_
   simp only[sQ] at K4⊢
   obtain⟨bo,rfl,o1,o2,o3⟩:=hv4_2 rfl
   have K4xo:=Bk.more3 K3 K4 o1 o2 o3 (by intro x hx;first | (simp at hx;done) | (simp at hx⊢;omega))
   simp only[aK] at K4xo
   have hbo:w.heap.size<=bo:=Nat.le_trans hw0 o1
   go_upto_region 8 with fail
   refine Rn K4xo HB4 (cG 0 24 [_,_,_] []) (Oc3 g_mv (g_ln Tryz.underlying27) g_mv) fun u5 HB5 sz5 K5=>?_
   simp only[sQ] at K5⊢
   go_wp2_with fail
   go_loopw [26] (fun s26 wr=> ∃(i:Nat),i<=m/\s26=iI (i:Int)/\Bw w wr/\CV wr (w.heap.size) (GE p q g h)/\w.heap.size<wr.heap.size/\CV wr (w.heap.size+1) (L0d)/\w.heap.size+1<wr.heap.size/\CV wr bo (flN (rowN cs i))/\bo<wr.heap.size) (fun s26 _=>m -(intOf s26).toNat)
   case atStart=>exact⟨0,by omega,rfl,HB5,(K5.cv 0),(K5.lt 0),(K5.cv 1),(K5.lt 1),by rw[rowN_0,hcl.out];exact(K5.cv 2),(K5.lt 2)⟩
   case round=>
    obtain⟨i,hi,rfl,HBq,E0,lE0,E1,lE1,E2,lE2⟩:=hrel
    obtain⟨wq,rfl⟩: ∃x,x=wr:=⟨_,rfl⟩
    have hnK:=K5.n
    simp at hnK
    by_cases hj:i<m
    ·have hl:decide ((i:Int)<(m:Int))=true:=by simp;omega
     have hkx:i<cs.length:=by rw[hcl.out];exact hj
     have hA:=hAll.out i hj
     have hA:Hid _:=hA
     have hM:=hMul.out i hj
     have hXL:=U5 (vs:=cs) (k:=i) (by omega)
     have hNx:=W5 (vs:=cs) (k:=i) (by omega)
     rw[Xi (vs:=cs) (k:=i) (by omega)] at E2
     obtain⟨X,eX⟩: ∃X,flN (List.take i cs)=X:=⟨_,rfl⟩
     obtain⟨Z,eZ⟩: ∃Z,flN (List.replicate (List.length cs -(i+1)) 0)=Z:=⟨_,rfl⟩
     rw[eX] at hXL hNx E2
     rw[eZ] at hNx E2
     clear eX eZ
     obtain⟨c,ec⟩: ∃c,cs.getD i 0=c:=⟨_,rfl⟩
     rw[ec] at hM hNx
     clear ec hkx
     have hXL:Hid _:=hXL
     have hNx:Hid _:=hNx
     have hM:Hid _:=hM
     have K5_2:Bk w.heap.size wq [(false,w.heap.size,GE p q g h),(true,w.heap.size+1,L0d),(true,bo,X++LN 0++Z)]:=⟨.c lE0 E0<| .o lE1 (K5.lo 1) E1<| .o lE2 (by omega) E2<|trivial,by simp<;>omega⟩
     go_upto_region 9 with fail
     refine Rn K5_2 HBq [(0,27,_)] (Oc1 (g_bn (fun uZ=>Z8 _ _ (i:Int) (m:Int) _ uZ hl))) fun u6 HB6 sz6 K6=>?_
     simp only[sQ] at K6⊢
     go_upto_region 10 with fail
     refine Rn K6 HB6 [(0,28,_),(1,9,_)] (Oc2 g_mv g_as) fun u7 HB7 sz7 K7=>?_
     simp only[sQ] at K7⊢
     go_upto_region 11 with fail
     refine Re K7 HB7 [.no,.no,.all 11 (X++LN c++Z)] [] (cG 0 30 [_,_,_,_,_] [(6,36,_),(7,29,_),(8,37,_),(9,38,_),(10,39,_)]) [] [] [⟨5,35,some 6,PNj (aa i)⟩] [] (Od8 g_mv g_mv (g_ld 0 Tryz.underlying43 Z0) g_mv g_mv (g_cE 0 (PNj (aa i)) ent_J1 (fun u hB hs=>hA.out u hB)) (g_cWg 0 (PNj (aa i)) (fun y=>[GX p q g h,y]) ent_J2 (fun u y bZ hy=>hM.out u y bZ hy)) g_mv<|Oc4 g_ex g_ex (g_ix (ixZ _ _ _ i hj)) (g_sm 2 (4*i) X (LN 0) Z (post:=LN c) (hxc:=hXL.out) iN)) fun u8 v8_5 hv8_5 HB8 _ K8=>?_
     simp only[sQ] at K8⊢
     go_upto_region 12 with fail
     refine Rp K8 HB8 [] [] [(0,40,_),(1,26,_)] [(1,0)] [(1,26)] [] (Oc2 (g_bn (fun uZ=>Zl _ _ (i:Int) 1 ((i+1:Nat):Int) uZ (by omega) (by omega) (by omega))) g_mv) fun u9 HB9 _ K9=>?_
     simp only[sQ] at K9⊢
     go_wp2
     refine⟨⟨i+1,by omega,rfl,HB9,(K9.cv 0),(K9.lt 0),(K9.cv 1),(K9.lt 1),by rw[hNx.out];exact(K9.cv 2),(K9.lt 2)⟩,?_⟩
     simp[intOf]<;>omega
    ·have hl:decide ((i:Int)<(m:Int))=false:=by simp;omega
     have hkn:i=cs.length:=by rw[hcl.out];omega
     rw[hkn,U6] at E2
     clear hkn
     have hX:=hD.out.ix 0 hn0
     have hX:Hid _:=hX
     have hg':=hD.out.lt.resolve_left (by omega)
     have hR:=(hD.out.at_ 0 hn0) 0 _ rfl
     have hR:Hid _:=hR
     have K5_2:Bk w.heap.size wq [(false,w.heap.size,GE p q g h),(true,w.heap.size+1,L0d),(true,bo,flN cs)]:=⟨.c lE0 E0<| .o lE1 (K5.lo 1) E1<| .o lE2 (by omega) E2<|trivial,by simp<;>omega⟩
     go_upto_region 9 with fail
     refine Rn K5_2 HBq [(0,27,_)] (Oc1 (g_bn (fun uZ=>Z8 _ _ (i:Int) (m:Int) _ uZ hl))) fun u6 HB6 sz6 K6=>?_
     simp only[sQ] at K6⊢
     go_upto_region 13 with fail
     refine Rp K6 HB6 [.no,.all 6 (DE (dn 0) (.slice (some ⟨bo,0,none⟩) m m))] [] (cG 0 41 [_,_,_,_,_,_] []) [] [] [] (Oc7 g_mv (g_ix hX.out) (g_fd (fdDo _ _)) (g_lg gb (go+2*0+0) lI (hR.out) (hg')) g_mv (g_bd (bdDq (dn 0) _ _ _)) (g_st 1 Z7)) fun u7 HB7 sz7 K7=>?_
     simp only[sQ] at K7⊢
     have c0:=((K7.cv 1) 0 _ rfl).1
     have c1:=((K7.cv 1) 1 _ rfl).1
     go_wp2
     exact bodyPost_ret (v:=DX (dn 0) (.slice (some ⟨bo,0,none⟩) m m)) (by simp[results,Tryz.results23,go_sem,c0,c1]) rfl ⟨_,rfl,⟨bo,by rw[hcl.out],hbo,(K7.lt 2),(K7.cv 2)⟩,HB7⟩
theorem OR.set{lo sz m b c k:Nat}{xs:List Value}{u:World}{v x:Value}(h:OR lo sz m xs b u v)(hc:c<lo):OR lo sz m xs b (u.setCell ⟨c,k,none⟩ x) v:=by
 obtain⟨h1,h3⟩:=h
 refine⟨h1,h3.imp id ?_⟩
 rintro⟨h2,co,zs,e,g1,g2,g3,g4⟩
 exact⟨h2,co,zs,e,by simpa using g1,g2,g3,g4.oset ⟨c,k,none⟩ x (by show b≠c;omega)⟩
theorem OR.low{lo sz m b:Nat}{xs:List Value}{u:World}{v:Value}(h:OR lo sz m xs b u v): ∃c,lo<=c/\OR lo sz m xs c u v:=by
 obtain⟨h1,h3 | h3⟩:=h
 ·exact⟨lo,Nat.le_refl _,h1,.inl h3⟩
 ·exact⟨b,h3.1,h1,.inr h3⟩
def NLq(ns:List Int)(u:World)(v:Value):Prop:=NL u v ns
theorem NLq.stab{ns:List Int}{u u2:World}{x:Value}(hB:Bw u u2)(h:NLq ns u x):NLq ns u2 x:=NL.up h hB
def faE(q:Int)(ns:List Int):Int:=if ns.length=0 then 2 else if alG q ns then 0 else 100
theorem alG_iff{q:Int}{ns:List Int}:alG q ns=true↔ ∀i,i<ns.length->gI q (dsN q ns i ns.length%q)=1:=decide_eq_true_iff
def GdV(q:Int)(ns vs:List Int):Prop:=vs.length=ns.length/\ ∀i,i<ns.length->gI q (dsN q ns i ns.length%q)=1->IsInv (dsN q ns i ns.length%q) q (vs.getD i 0)
theorem frS_len(q t:Int)(ns vs:List Int):(frS q t ns vs).length=ns.length:=We _ _
theorem xFac(q t:Int)(ns vs:List Int)(v:Value)(w:World)(hq:In q)(hq2:2<=q)(ht:In t)(hv:NL w v ns)(hns: ∀z∈ns,In z)(hl:ns.length<=256)(hg:GdV q ns vs):Calls Tryz.prog 65 #[NV q,NV t,v] w fun e u=> ∃y,e= .returned (.tuple #[y,iI (faE q ns)])/\FRw w.heap.size (faE q ns) (frS q t ns vs) u y/\Bw w u:=by
 obtain⟨sl,gb,go,cap,rfl,h2,h3,h4,h5,h6⟩:=hv
 have hR:=fun u=>xRight q u hq
 rw[decide_eq_true hq2] at hR
 have hM:=fun u=>xMany ns.length u hl
 unfold faE
 by_cases c:ns.length=0
 ·rw[if_pos c]
  rw[decide_eq_false (by omega)] at hM
  exact(xfac_n q t sl cap ns w hR hM).mono fun e u h=>⟨_,h.1,⟨⟨_,_,_,rfl⟩,fun e=>absurd e (by decide)⟩,h.2⟩
 ·rw[if_neg c]
  rw[decide_eq_true (by omega)] at hM
  refine xfac_core q t _ sl gb go cap ns vs (frS q t ns vs) w hq (by omega) ht hR hM (NL.ix (u:=w) h4) h5 h6 (Ye hns) (by omega) (frS_len _ _ _ _) (fun i hi=>by rw[frS,Yt hi]) hg.2 (fun i hi hb=>?_) (fun h=>?_)
  ·rw[if_neg (fun e=>hb (alG_iff.1 e i hi))]
  ·rw[if_pos (alG_iff.2 h)]
def cbX(q t:Int)(vs:List Int)(ps:List (Int×Int)):Int:=if faE q (ps.map Prod.fst)=0 then smN q (fac q t (ps.map Prod.fst) vs) ps ps.length else 0
theorem ixR'{ps:List (Int×Int)}{sl:Option Addr}{gb go cap:Nat}(h:ps=[]\/sl=some ⟨gb,go,none⟩): ∀j,j<ps.length-> ∀W,(Instr.indexAt 74 (.slice sl ps.length cap) (iI j)).run Tryz.prog W= .ok (.pointer (some ⟨gb,go+8*j,none⟩)) W:=fun j hj W=>by
 have e:=h.resolve_left (fun e=>by subst e;simp at hj)
 subst e
 exact ixR gb go ps.length cap j hj W
theorem getP{ps:List (Int×Int)}{k:Nat}(h:k<ps.length):ps.getD k (0,0)∈ps:=by simp[List.getElem?_eq_getElem h]
theorem xCmb(q t:Int)(vs:List Int)(ps:List (Int×Int))(v:Value)(w:World)(hq:In q)(hq2:2<=q)(ht:In t)(hv:PtL w v ps)(hps: ∀p∈ps,In p.1/\In p.2)(hl:ps.length<=256)(hg:GdV q (ps.map Prod.fst) vs):CC 34 #[NV q,NV t,v] w (.tuple #[NV (cbX q t vs ps),iI (faE q (ps.map Prod.fst))]):=by
 obtain⟨sl,gb,go,cap,rfl,h2,h3,h4,h5,h6⟩:=hv
 have hxl:(ps.map Prod.fst).length=ps.length:=by simp
 have hxs: ∀z∈ps.map Prod.fst,In z:=fun z hz=>by
  obtain⟨p,hp,rfl⟩:=List.mem_map.1 hz
  exact(hps p hp).1
 have hF:=fun u v (_:Bw w u) (hv:NL u v (ps.map Prod.fst))=>xFac q t _ vs v u hq hq2 ht hv hxs (by omega) hg
 have hget: ∀i,i<ps.length->(ps.map Prod.fst).getD i 0=(ps.getD i (0,0)).1:=fun i hi=>by simp[List.getElem?_map,List.getElem?_eq_getElem hi]
 have hfe:frS q t (ps.map Prod.fst) vs=fac q t (ps.map Prod.fst) vs:=frS_fac (by omega) hg.1
 rw[hfe] at hF
 have hfl:(fac q t (ps.map Prod.fst) vs).length=ps.length:=by rw[fac_len,hxl]
 exact xcmb q t _ _ sl gb go cap ps (ps.map Prod.fst) (fac q t (ps.map Prod.fst) vs) w (fun e=>if_neg (by simpa using e)) (fun e=>if_pos (by simpa using e)) hfl (fun k hk=>by rw[hfl] at hk;have:=fac_rng (q:=q) (by omega) (t:=t) (xs:=ps.map Prod.fst) (vs:=vs) (i:=k) (by omega);exact⟨this.1,by have:=hq.2;omega⟩) (fun k hk=>(hps _ (getP hk)).2) hq (by omega) (ixR' h4) h5 h6 (by omega) hxl hget hF
def oE(p q:Int)(l:List (Int×Int×Int)):Int:=if gOk p q then (if ndsB l then faE q (l.map (·.1)) else 2) else 90
def oX(p q:Int)(vs:List Int)(l:List (Int×Int×Int))(ps:List (Int×Int)):Int:=if oE p q l=0 then cbX q 0 vs ps else 0
theorem nd_In{l:List (Int×Int×Int)}(hn:ndsB l=true)(hl: ∀x∈l,In x.2.1/\In x.2.2): ∀x∈l,(1<=x.1/\x.1<=16)/\In x.2.1/\In x.2.2:=fun x hx=>⟨ndB_iff.1 (List.all_eq_true.1 hn x hx),hl x hx⟩
theorem xOpenK(p q g h:Int)(vs:List Int)(l:List (Int×Int×Int))(v:Value)(w:World)(hp:In p)(hq:In q)(hv:ShL w v l)(hl: ∀x∈l,In x.2.1/\In x.2.2)(hn:l.length<=16)(c1:gOk p q)(hg:GdV q (l.map (·.1)) vs):CC 14 #[GX p q g h,v] w (.tuple #[NV (oX p q vs l (opS l)),NV (oX p q vs l (opT l)),iI (oE p q l)]):=by
 obtain⟨sl,gb,go,cap,rfl,h2,h3,h4,h5,h6⟩:=hv
 have hC:=fun u=>Uj p q g h u hp hq c1
 unfold oX
 have hq3:=c1.q3
 have e1:oE p q l=if ndsB l then faE q (l.map (·.1)) else 2:=by rw[oE,if_pos c1]
 refine xopn_k p q g h (cbX q 0 vs (opS l)) (cbX q 0 vs (opT l)) (faE q (l.map (·.1))) (faE q (l.map (·.1))) _ _ _ sl gb go cap l w hC (sh_ix h4) h5 (sh_pt h6) (by omega) (fun u c o z hB hc ho hcv hnd=>?_) (fun u c o z hB hc ho hcv hnd=>?_) (fun k hk hb=>?_) (fun hnd he=>?_) (fun hnd he=>?_)
 ·have hin:=op_In (nd_In (nds_get.2 hnd) hl)
  have h:=xCmb q 0 vs (opS l) _ u hq (by omega) In_0 (pl_rw hc hcv op_len.1 ho) hin.1 (by rw[op_len.1];omega) (by rw[op_fst.1];exact hg)
  rw[NV_0,op_fst.1] at h;exact h
 ·have hin:=op_In (nd_In (nds_get.2 hnd) hl)
  have h:=xCmb q 0 vs (opT l) _ u hq (by omega) In_0 (pl_rw hc hcv op_len.2 ho) hin.2 (by rw[op_len.2];omega) (by rw[op_fst.2];exact hg)
  rw[NV_0,op_fst.2] at h;exact h
 ·have c3:ndsB l=false:=by
   rw[Bool.eq_false_iff];intro e
   rw[nds_get.1 e k hk] at hb;cases hb
  have e0:oE p q l=2:=by rw[e1,c3];rfl
  rw[e0,if_neg (by decide),if_neg (by decide)];exact⟨rfl,rfl,rfl⟩
 ·rw[nds_get.2 hnd,if_pos rfl] at e1
  have he: ¬faE q (l.map (·.1))=0:=by simpa using he
  rw[e1,if_neg he,if_neg he];exact⟨rfl,rfl,rfl⟩
 ·rw[nds_get.2 hnd,if_pos rfl] at e1
  have he:faE q (l.map (·.1))=0:=by simpa using he
  rw[e1,he,if_pos rfl,if_pos rfl];exact⟨rfl,rfl,rfl⟩
def exC(c:List Int)(k:Nat):List Int:=if k=c.length then c++[1] else c
def inC(p:Int)(ns c:List Int):Nat->List Int
 | 0=>c
 | k+1=>(exC (inC p ns c k) k).set k ((exC (inC p ns c k) k).getD k 0*ns.getD k 0%p)
abbrev dN(ds:List (Int×List Int))(i:Nat):List Int:=(ds.getD i (0,[])).2
def csC(p:Int)(ds:List (Int×List Int)):Nat->List Int
 | 0=>[]
 | i+1=>inC p (dN ds i) (csC p ds i) (dN ds i).length
def mxC(ds:List (Int×List Int)):Nat->Nat
 | 0=>0
 | i+1=>max (mxC ds i) (dN ds i).length
def aaC(ds:List (Int×List Int))(k:Nat):Nat->List Int
 | 0=>[]
 | i+1=>if k<(dN ds i).length then aaC ds k i++[(dN ds i).getD k 0] else aaC ds k i
theorem exC_len{c:List Int}{k:Nat}(h:k<=c.length):(exC c k).length=max c.length (k+1):=by
 unfold exC;split
 ·rw[List.length_append];simp;omega
 ·omega
theorem exC_get(c:List Int)(k j:Nat):(exC c k).getD j 1=c.getD j 1:=by
 unfold exC;split
 ·rw[List.getD_eq_getElem?_getD,List.getD_eq_getElem?_getD]
  by_cases h:j<c.length
  ·rw[List.getElem?_append_left h]
  ·rw[List.getElem?_append_right (by omega),List.getElem?_eq_none (l:=c) (by omega)]
   by_cases h2:j=c.length
   ·subst h2;simp
   ·rw[List.getElem?_eq_none (by simp;omega)]
 ·rfl
theorem inC_len(p:Int)(ns c:List Int): ∀k,(inC p ns c k).length=max c.length k
 | 0=>by rw[inC];omega
 | k+1=>by rw[inC,List.length_set,exC_len (by rw[inC_len p ns c k];omega),inC_len p ns c k];omega
theorem getD_lt{l:List Int}{k:Nat}(h:k<l.length)(a b:Int):l.getD k a=l.getD k b:=by
 rw[List.getD_eq_getElem?_getD,List.getD_eq_getElem?_getD,List.getElem?_eq_getElem h];rfl
theorem inC_get(p:Int)(ns c:List Int)(j:Nat): ∀k,(inC p ns c k).getD j 1=if j<k then c.getD j 1*ns.getD j 0%p else c.getD j 1
 | 0=>by rw[inC,if_neg (by omega)]
 | k+1=>by
  have hl:=inC_len p ns c k
  have hx:=exC_len (c:=inC p ns c k) (k:=k) (by omega)
  have hi:=inC_get p ns c j k
  rw[inC,List.getD_eq_getElem?_getD]
  by_cases h:j=k
  ·subst h
   rw[List.getElem?_set_self (by omega),if_pos (by omega),getD_lt (by omega) 0 1,exC_get,hi,if_neg (by omega)];rfl
  ·rw[List.getElem?_set_ne (by omega),<-List.getD_eq_getElem?_getD,exC_get,hi]
   by_cases h2:j<k
   ·rw[if_pos h2,if_pos (by omega)]
   ·rw[if_neg h2,if_neg (by omega)]
theorem csC_len(p:Int)(ds:List (Int×List Int)): ∀i,(csC p ds i).length=mxC ds i
 | 0=>rfl
 | i+1=>by rw[csC,mxC,inC_len,csC_len p ds i]
theorem gat_app(op:Int->Int->Int)(x:Int)(l:List Int)(a:Int):gat op x (l++[a]) (l++[a]).length=op (gat op x l l.length) a:=by
 have key: ∀k,k<=l.length->gat op x (l++[a]) k=gat op x l k:=by
  intro k
  induction k with
  | zero=>intro _;rfl
  | succ k ih=>
   intro h
   rw[gat,gat,ih (by omega),List.getD_eq_getElem?_getD,List.getD_eq_getElem?_getD,List.getElem?_append_left (by omega)]
 rw[List.length_append,List.length_singleton,gat,key _ (Nat.le_refl _),List.getD_eq_getElem?_getD,List.getElem?_append_right (Nat.le_refl _)]
 simp
theorem csC_get{p:Int}(hp:2<=p)(ds:List (Int×List Int))(j:Nat): ∀i,(csC p ds i).getD j 1=gat (fun a b=>(a*b)%p) (1%p) (aaC ds j i) (aaC ds j i).length
 | 0=>by rw[csC,aaC];simp[gat,Int.emod_eq_of_lt (show (0:Int)<=1 by omega) (show 1<p by omega)]
 | i+1=>by
  rw[csC,inC_get,csC_get hp ds j i,aaC]
  by_cases h:j<(dN ds i).length
  ·rw[if_pos h,if_pos h,gat_app]
  ·rw[if_neg h,if_neg h]
theorem aaC_mem{ds:List (Int×List Int)}{k:Nat}{q:Int->Prop}(h: ∀i,i<ds.length-> ∀z∈dN ds i,q z): ∀i,i<=ds.length-> ∀z∈aaC ds k i,q z
 | 0,_=>fun z hz=>by simp[aaC] at hz
 | i+1,hi=>fun z hz=>by
  rw[aaC] at hz
  split at hz
  ·rename_i hk
   rcases List.mem_append.1 hz with hz | hz
   ·exact aaC_mem h i (by omega) z hz
   ·rw[List.mem_singleton.1 hz]
    exact h i (by omega) _ (by rw[List.getD_eq_getElem?_getD,List.getElem?_eq_getElem hk];exact List.getElem_mem hk)
  ·exact aaC_mem h i (by omega) z hz
theorem aaC_len(ds:List (Int×List Int))(k:Nat): ∀i,(aaC ds k i).length<=i
 | 0=>Nat.le_refl _
 | i+1=>by
  have:=aaC_len ds k i
  rw[aaC];split
  ·rw[List.length_append];simp;omega
  ·omega
def alD(p q:Int)(ds:List (Int×List Int)):Prop:= ∀i,i<ds.length->dcE p q (ds.getD i (0,[])).1 (dN ds i)=0
theorem alD.mem{p q:Int}{ds:List (Int×List Int)}(h:alD p q ds)(i:Nat)(hi:i<ds.length):gOk p q/\1<=(dN ds i).length/\(dN ds i).length<=6/\ ∀z∈dN ds i,isB p q z=true:=by
 obtain⟨h1,_,h3,h4,h5⟩:=dcE_0 (h i hi)
 exact⟨h1,h3,h4,List.all_eq_true.1 h5⟩
theorem mxC_le{ds:List (Int×List Int)}{m:Nat}(h: ∀i,i<ds.length->(dN ds i).length<=m): ∀i,i<=ds.length->mxC ds i<=m
 | 0,_=>Nat.zero_le _
 | i+1,hi=>by
  have:=mxC_le h i (by omega)
  have:=h i (by omega)
  rw[mxC];omega
theorem alD.mlB{p q:Int}{ds:List (Int×List Int)}(h:alD p q ds)(hg:gOk p q)(k i:Nat)(hi:i<=ds.length):mlB p q (aaC ds k i)=true:=by
 rw[Go.Proofs.YtclafkfelkmigaaGreatDoor.mlB,decide_eq_true hg,Bool.true_and]
 exact List.all_eq_true.2 (aaC_mem (fun i hi=>(h.mem i hi).2.2.2) i hi)
theorem csC_is{p q:Int}{ds:List (Int×List Int)}(h:alD p q ds)(hg:gOk p q)(k:Nat)(hk:k<mxC ds ds.length):(csC p ds ds.length).getD k 0=mlX p q (aaC ds k ds.length):=by
 have hp:=hg.2
 rw[getD_lt (by rw[csC_len];exact hk) 0 1,csC_get (by omega),mlX,if_pos (h.mlB hg k _ (Nat.le_refl _))]
end
end Go.Proofs.YtclafkfelkmigaaGreatDoor
