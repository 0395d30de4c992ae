import Derived.Test.YtoffgfhilkpdpaaGreatDoorAKY
namespace Go.Proofs.YtoffgfhilkpdpaaGreatDoor
set_option linter.unusedVariables false
set_option linter.unusedSimpArgs false
set_option maxRecDepth 100000
set_option maxHeartbeats 4000000
section
open Go.RowKit
theorem ge_c{u:World}{b:Nat}{p q g h:Int}(hC:CV u b (GE p q g h))(hb:b<u.heap.size)(o:Obj):(u.alloc o).cell? ⟨b,0,none⟩=some (iU (D0 p))/\(u.alloc o).cell? ⟨b,1,none⟩=some (iU (D1 p))/\(u.alloc o).cell? ⟨b,2,none⟩=some (iU (D2 p))/\(u.alloc o).cell? ⟨b,3,none⟩=some (iU (D3 p))/\(u.alloc o).cell? ⟨b,4,none⟩=some (iU (D0 q))/\(u.alloc o).cell? ⟨b,5,none⟩=some (iU (D1 q))/\(u.alloc o).cell? ⟨b,6,none⟩=some (iU (D2 q))/\(u.alloc o).cell? ⟨b,7,none⟩=some (iU (D3 q))/\(u.alloc o).cell? ⟨b,8,none⟩=some (iU (D0 g))/\(u.alloc o).cell? ⟨b,9,none⟩=some (iU (D1 g))/\(u.alloc o).cell? ⟨b,10,none⟩=some (iU (D2 g))/\(u.alloc o).cell? ⟨b,11,none⟩=some (iU (D3 g))/\(u.alloc o).cell? ⟨b,12,none⟩=some (iU (D0 h))/\(u.alloc o).cell? ⟨b,13,none⟩=some (iU (D1 h))/\(u.alloc o).cell? ⟨b,14,none⟩=some (iU (D2 h))/\(u.alloc o).cell? ⟨b,15,none⟩=some (iU (D3 h)):=by
 have hc:CV (u.alloc o) b (GE p q g h):=hC.below (Z5 (Zf u) o) hb
 exact⟨(hc 0 _ rfl).1,(hc 1 _ rfl).1,(hc 2 _ rfl).1,(hc 3 _ rfl).1,(hc 4 _ rfl).1,(hc 5 _ rfl).1,(hc 6 _ rfl).1,(hc 7 _ rfl).1,(hc 8 _ rfl).1,(hc 9 _ rfl).1,(hc 10 _ rfl).1,(hc 11 _ rfl).1,(hc 12 _ rfl).1,(hc 13 _ rfl).1,(hc 14 _ rfl).1,(hc 15 _ rfl).1⟩
def fdE(p q:Int):List (Int×List Int)->List Int
 | []=>[]
 | d::l=>if dcE p q d.1 d.2≠0 then [dcE p q d.1 d.2] else fdE p q l
theorem fd_drop(p q:Int)(ds:List (Int×List Int))(i:Nat)(h:i<ds.length):fdE p q (ds.drop i)=if dcE p q (ds.getD i (0,[])).1 (ds.getD i (0,[])).2≠0 then [dcE p q (ds.getD i (0,[])).1 (ds.getD i (0,[])).2] else fdE p q (ds.drop (i+1)):=by
 rw[List.drop_eq_getElem_cons h,fdE,List.getD_eq_getElem?_getD,List.getElem?_eq_getElem h];rfl
def hdE(p q:Int)(n:Nat):List Int:=bE (!decide (gOk p q)) 90++(bE (decide ((n:Int)<1)) 2++bE (!decide (0<=(n:Int)/\(n:Int)<=16)) 2)
def dgE(p q:Int)(ds:List (Int×List Int)):List Int:=if hdE p q ds.length=[] then fdE p q ds else hdE p q ds.length
theorem hd_0{p q:Int}{n:Nat}(h:hdE p q n=[]):gOk p q/\1<=n/\n<=16:=by
 unfold hdE at h
 simp only[List.append_eq_nil_iff] at h
 obtain⟨h1,h2,h3⟩:=h
 refine⟨?_,?_,?_⟩
 ·by_cases c:gOk p q
  ·exact c
  ·rw[decide_eq_false c] at h1;cases h1
 ·by_cases c:(n:Int)<1
  ·rw[decide_eq_true c] at h2;cases h2
  ·omega
 ·by_cases c:0<=(n:Int)/\(n:Int)<=16
  ·omega
  ·rw[decide_eq_false c] at h3;cases h3
theorem dealings_core(p q g h:Int)(sl:Option Addr)(gb go cap:Nat)(ds:List (Int×List Int))(sy:Nat->Option Addr)(cy gy oy:Nat->Nat)(es:List Int)(w:World)(hG:GP w)(hp:In p)(hq:In q)(hn:ds.length<=100000)(hD:Hid (DM w sl gb go ds.length cap (fun j=>(ds.getD j (0,[])).1) sy (fun j=>(ds.getD j (0,[])).2) cy gy oy))(hIn:Hid (∀j,j<ds.length->(ds.getD j (0,[])).2.length<=50/\ ∀z∈(ds.getD j (0,[])).2,In z))(hes:Hid (dgE p q ds=es)):
 Calls Tryz.prog 14 #[GX p q g h,.slice sl ds.length cap] w fun r u=> ∃v,r= .returned v/\EJN u v es/\Bw w u:=by
 have hGr:Hid (∀u,_):=fun u=>jGroup p q g h u hp hq
 have hLe:Hid (∀(t:ByteArray) u,Bw w u->t.size<=100->_):=fun t u hB ht=>jAtLeast t ds.length 1 2 u (hG.below hB) ⟨Z1,Z1⟩ ht
 have hMo:Hid (∀(t:ByteArray) u,Bw w u->t.size<=100->_):=fun t u hB ht=>jAtMost t ds.length u (hG.below hB) ⟨Z1,Z1⟩ ht
 have hDe:Hid (∀(d:Int) (ns:List Int) (v:Value) u,Bw w u->NL u v ns->(ns.length<=50/\ ∀z∈ns,In z)->_):=fun d ns v u hB hv hns=>jDealing p q g h d ns v u (hG.below hB) hp hq hv hns.2 hns.1
 have hIt:Hid (∀(i:Nat) u,Bw w u->i<=100000->_):=fun i u hB hi=>jItoa i u (hG.below hB) ⟨Z1,Z1⟩
 clear hG hp hq
 have m2:=miFj
 have m3:=bdFj
 go_enter Tryz.func14,Tryz.ntmps14
 go_upto_region 1 with fail
 have hC0:=CV.new w (GE p q g h) 26
 have hB0:Bw w (w.alloc (.cells (GE p q g h:List Value).toArray 26)):=Z5 (Zf w) _
 have hz0:w.heap.size<(w.alloc (.cells (GE p q g h:List Value).toArray 26)).heap.size:=by simp
 have hC0:=Hid.on hC0
 go_cut [5] (fun s5 wx=>Hid (EJN wx s5 (hdE p q ds.length))/\Below (w.alloc (.cells (GE p q g h:List Value).toArray 26)).heap.size (w.alloc (.cells (GE p q g h:List Value).toArray 26)) wx)
 case first=>
  go_wp2_with (first
   | (go_at_call 21;refine(hGr.out _).mono ?_;clear hGr;rintro e ua ⟨v1,rfl,hv1,hBa⟩;have s1:=EJN.some hv1;have hv1:=Hid.on hv1;rcases s1 with rfl | ⟨T1,x1,rfl⟩)
   | (go_at_call 22;refine(hLe.out _ _ (Z7 hB0 hBa) Z2).mono ?_;clear hLe;rintro e ub ⟨v2,rfl,hv2,hBb⟩;have hv1:=Hid.on (EJN.up hBb hv1.out);replace hBb:=Z7 hBa hBb;have s2:=EJN.some hv2;have hv2:=Hid.on hv2;rcases s2 with rfl | ⟨T2,x2,rfl⟩)
   | (go_at_call 23;refine(hMo.out _ _ (Z7 hB0 hBb) Z2).mono ?_;clear hMo;rintro e uc ⟨v3,rfl,hv3,hBc⟩;have s3:=EJN.some hv3;have hJ:=Hid.on (jJoin3 (EJN.up hBc hv1.out) (EJN.up hBc hv2.out) hv3);replace hBc:=Z7 hBb hBc;rcases s3 with rfl | ⟨T3,x3,rfl⟩)
   | (go_at_call 20;refine hJ.out.mono ?_;clear hJ;rintro e ud ⟨y,rfl,hy,hBd⟩;replace hy:=Hid.on hy))
  all_goals (go_meet;exact⟨hy.out,Z7 hBc hBd⟩)
 case rest=>
 obtain⟨hy,hBw⟩:=hcut
 have hC1:=Hid.on (hC0.out.below hBw hz0)
 have hz1:=Nat.lt_of_lt_of_le hz0 hBw.size
 replace hBw:=Z7 hB0 hBw
 have hes:=hes.out
 unfold dgE at hes
 by_cases hne:hdE p q ds.length≠[]
 ·rw[if_neg hne] at hes
  subst hes
  obtain⟨T,x,rfl⟩:=hy.out.yes hne
  go_wp2
  exact bodyPost_ret (v:= .iface T x) (by simp[results,Tryz.results14,go_sem]) rfl ⟨_,rfl,hy.out,hBw⟩
 replace hne:=Decidable.not_not.1 hne
 rw[if_pos hne] at hes
 replace hes:=Hid.on hes
 obtain rfl:=hy.out.no hne
 clear hGr hLe hMo hy hC0 hB0 hz0 hne
 go_wp2_with fail
 go_loopw [24] (fun s24 wr=> ∃i:Nat,i<=ds.length/\s24=iI (i:Int)/\Hid (fdE p q (ds.drop i)=es)/\Bw w wr/\Hid (CV wr w.heap.size (GE p q g h))/\w.heap.size<wr.heap.size) (fun s24 _=>ds.length -(intOf s24).toNat)
 case atStart=>exact⟨0,Z1,rfl,by rw[List.drop_zero];exact hes,hBw,hC1,hz1⟩
 case round=>
  obtain⟨i,hi,rfl,ht,HBr,hC,hz⟩:=hrel
  clear hBw hC1 hz1
  by_cases hj:i<ds.length
  ·have hl:(i:Int)<(ds.length:Int):=Z1
   have hX:=hD.out.ix i hj
   have hR:=Tj HBr (hD.out.lt.resolve_left Z1) (hD.out.at_ i hj)
   have hn0:=hIn.out i hj
   have hv0:=hD.out.nl i hj
   have ht2:=ht.out
   rw[fd_drop _ _ _ i hj] at ht2
   have e1:IntKind.i64.wrap ((i:Int)+1)=((i+1:Nat):Int):=by rw[IntKind.wrap_i64];omega
   generalize ds.getD i (0,[])=x at *
   obtain⟨d,ns⟩:=x
   simp only at hR hn0 hv0 ht2
   have c0:wr.cell? ⟨gb,go+2*i,none⟩=some (iI d):=hR 0 _ rfl
   have c1:=hR 1 _ rfl
   clear hR
   have hce:=ge_c hC.out hz
   have hN:Hid (∀u,Bw w u->_):=fun u hB=>hDe.out d ns _ u hB (hv0.up hB) hn0
   clear hv0 hn0
   by_cases hn:dcE p q d ns=0
   ·rw[if_neg (fun e=>e hn)] at ht2
    have ht2:Hid _:=ht2
    go_wp2_with (go_at_call 37;refine(hN.out _ (Z5 HBr _)).mono ?_;clear hN;rw[hn];rintro e ua ⟨v,rfl,hv,hBa⟩;have hv:=hv.no rfl;subst hv;clear hce)
    refine⟨⟨i+1,Z1,by simp,ht2,Z7 (Z5 HBr _) hBa,?_,?_⟩,by simp[intOf];omega⟩
    ·exact(hC.out.below (Z5 (Zf wr) _) hz).below hBa (by simp;omega)
    ·have:=hBa.size;simp at this;omega
   ·rw[if_pos hn] at ht2
    have ht2:Hid _:=ht2
    go_wp2_with (first
     | (go_at_call 37;refine(hN.out _ (Z5 HBr _)).mono ?_;clear hN;rintro e ua ⟨v,rfl,hv,hBa⟩;replace hBa:=Z7 (Z5 HBr _) hBa;rw[show bE (dcE p q d ns !=0) (dcE p q d ns)=[dcE p q d ns] by rw[bE,if_pos (bne_iff_ne.2 hn)]] at hv;obtain⟨T,x,rfl⟩:=hv.yes (List.cons_ne_nil _ _);have hv:Hid _:=hv;clear hce)
     | (go_at_call 38;refine(hIt.out i _ hBa Z1).mono ?_;clear hIt;rintro e ub ⟨s,rfl,hs,hBb⟩;have hw2: ¬9223372036854775807<6+s.size:=by omega))
    have e2:=ht2.out
    subst e2
    go_ret;exact⟨_,rfl,.wrap _ (EJN.up hBb hv.out),Z7 hBa hBb⟩
  ·have hl: ¬(i:Int)<(ds.length:Int):=Z1
   go_wp2
   have ht3:=ht.out
   rw[List.drop_eq_nil_of_le Z1] at ht3
   subst ht3
   exact bodyPost_ret (v:= .nilIface) (by simp[results,Tryz.results14,go_sem]) rfl ⟨_,rfl,.nil _,HBr⟩
theorem jDealings(p q g h:Int)(ds:List (Int×List Int))(v:Value)(w:World)(hG:GP w)(hp:In p)(hq:In q)(hv:DL w v ds)(hl:ds.length<=1000)(hIn: ∀d∈ds,d.2.length<=50/\ ∀z∈d.2,In z):Calls Tryz.prog 14 #[GX p q g h,v] w fun r u=> ∃v,r= .returned v/\EJN u v (dgE p q ds)/\Bw w u:=by
 obtain⟨sl,gb,go,cap,sy,cy,gy,oy,rfl,h2,h3,h4,h5⟩:=hv
 exact dealings_core p q g h sl gb go cap ds sy cy gy oy _ w hG hp hq Z1 h5 (fun j hj=>hIn _ (by simp[List.getElem?_eq_getElem hj])) rfl
end
section
open Go.RowKit Go.WideMaps Go.ChangeShapes
theorem NV_injM{a b:Int}(ha:In a)(hb:In b)(h:NV a=NV b):a=b:=by
 have e1:=V_In ha
 have e2:=V_In hb
 unfold NV A4 at h
 simp at h
 obtain⟨h0,h1,h2,h3⟩:=h
 rw[h0,h1,h2,h3] at e1
 exact e1.symm.trans e2
def MpE(q:Int)(xs:List Int)(es:Array MapEntry):Prop:=es.toList.map (·.key)=xs.map fun x=>NV (x%q)
theorem MpE.ne{q z:Int}{xs:List Int}{es:Array MapEntry}(h:MpE q xs es)(hi: ∀x∈xs,In (x%q))(hz:In z)(hn: ∀x∈xs,x%q≠z): ∀e∈es.toList,e.key≠NV z:=fun e he hc=>by
 have:e.key∈es.toList.map (·.key):=List.mem_map_of_mem he
 rw[h] at this
 obtain⟨x,hx,e1⟩:=List.mem_map.1 this
 exact hn x hx (NV_injM (hi x hx) hz (e1.trans hc))
theorem MpE.push{q z:Int}{xs:List Int}{es:Array MapEntry}{val:Value}{c:Nat}(h:MpE q xs es):MpE q (xs++[z]) (es.push ⟨NV (z%q),val,c⟩):=by
 unfold MpE at h⊢;simp[h]
end
section
section
section ring
variable {R:Type} [Lean.Grind.CommRing R]
variable (p:Nat) [Lean.Grind.IsCharP R p]
end ring
def sAd(q:Int)(aa bs:List Int):List Int:=tab (max aa.length bs.length) fun i=>(aa.getD i 0+bs.getD i 0)%q
theorem sAd_len(q:Int)(aa bs:List Int):(sAd q aa bs).length=max aa.length bs.length:=Wy _ _
end
end
section
open Go.RowKit
theorem flt_take: ∀(ps:List (Int×Int)) (m:Nat),flt (ps.take m)=(flt ps).take (2*m)
 | [],m=>by simp[flt]
 | p::l,0=>by simp[flt]
 | p::l,m+1=>by rw[List.take_succ_cons,flt,flt_take l m,flt,show 2*(m+1)=2*m+1+1 by omega,List.take_succ_cons,List.take_succ_cons]
theorem flN_take: ∀(ns:List Int) (m:Nat),flN (ns.take m)=(flN ns).take (4*m)
 | [],m=>by simp[flN]
 | n::l,0=>by simp[flN]
 | n::l,m+1=>by rw[List.take_succ_cons,flN,flN_take l m,flN,show 4*(m+1)=(LN n).length+4*m by show _=4+4*m;omega,List.take_length_add_append]
theorem SN.take{w:World}{g o:Nat}{ns:List Int}(h:SN w g o ns)(m:Nat):SN w g o (ns.take m):=fun j v hj=>by
 rw[flN_take,List.getElem?_take] at hj
 split at hj
 ·exact h j v hj
 ·cases hj
theorem PtL.take{u:World}{sl:Option Addr}{cap m:Nat}{ps:List (Int×Int)}(h:PtL u (.slice sl ps.length cap) ps)(hm:m<=ps.length):PtL u (.slice sl m cap) (ps.take m):=by
 obtain⟨sl',gb,go,cap',e,h2,h3,h4,h5,h6⟩:=h
 cases e
 have hl:(ps.take m).length=m:=by rw[List.length_take];omega
 refine⟨sl,gb,go,cap,by rw[hl],Z1,h3,?_,?_,by rw[flt_take];exact h6.take _⟩
 ·rcases h4 with h4 | h4
  ·subst h4;exact .inl (by simp)
  ·exact .inr h4
 ·rcases h5 with h5 | h5
  ·exact .inl Z1
  ·exact .inr h5
theorem NL.take{u:World}{b n m:Nat}{ns:List Int}(hb:b<u.heap.size)(h:CV u b (flN ns))(hn:ns.length=n)(hm:m<=n):NL u (.slice (some ⟨b,0,none⟩) (ns.take m).length n) (ns.take m):=
 ⟨_,b,0,n,rfl,by rw[List.length_take];omega,(by simp),.inr rfl,.inr hb,(show SN u b 0 ns from fun j v hj=>by rw[Nat.zero_add];exact(h j v hj).1).take m⟩
theorem cAddE(q:Int)(aa bs:List Int)(v vb:Value)(w:World)(hs:bs.length<=aa.length)(hG:GP w)(hq:In q)(hq2:2<=q)(hv:NL w v aa)(hna: ∀z∈aa,In z)(h1:1<=aa.length)(hl:aa.length<=256)(hvb:NL w vb bs)(hnb: ∀z∈bs,In z)(h1b:1<=bs.length)(hlb:bs.length<=256):
 Calls Tryz.prog 52 #[NV q,v,vb] w fun e u=> ∃y,e= .returned (.tuple #[y,iI 0])/\PRw w.heap.size (sAd q aa bs) u y/\Bw w u:=by
 obtain⟨sa,ga,oa,ca,rfl,a2,a3,a4,a5,a6⟩:=hv
 obtain⟨sb,gb,ob,cb,rfl,b2,b3,b4,b5,b6⟩:=hvb
 exact add_ok q sa sb ga oa ca gb ob cb aa bs (sAd q aa bs) w hq Z1 Z1 (by simp;omega) (cPolyn hG hq hq2 hl h1) (cPolyn hG hq hq2 hlb h1b) (NL.ix (u:=w) a4) a5 a6 (Yb hna) (NL.ix (u:=w) b4) b5 b6 (Yb hnb) Z1 (by show (sAd q aa bs).length=aa.length;rw[sAd_len];omega) (fun k hk=>by unfold sAd;rw[W0 Z1])
def sm1(q:Int)(f:Nat->Int):Nat->Int
 | 0=>0
 | i+1=>(sm1 q f i+f i)%q
theorem sm1_In{q:Int}{f:Nat->Int}(hq:In q)(hq2:2<=q): ∀i,In (sm1 q f i)
 | 0=>by rw[sm1];exact⟨Z2,Z2⟩
 | i+1=>⟨Int.emod_nonneg _ Z1,Int.lt_trans (Int.emod_lt_of_pos _ Z1) hq.2⟩
abbrev shS(l:List (Int×Int×Int))(i:Nat):Int:=(l.getD i (0,0,0)).2.1
abbrev shT(l:List (Int×Int×Int))(i:Nat):Int:=(l.getD i (0,0,0)).2.2
theorem sAd2(q a b c d:Int):sAd q [a,b] [c,d]=[(a+c)%q,(b+d)%q]:=by rfl
theorem NL.two{w:World}(a b:Int):NL (w.alloc (.cells (LN a++LN b:List Value).toArray 24)) (.slice (some ⟨w.heap.size,0,none⟩) 2 2) [a,b]:=
 ⟨_,w.heap.size,0,2,rfl,Nat.le_refl _,by simp,.inr rfl,.inr (by simp),fun j v hj=>by rw[Nat.zero_add];exact(CV.new w (LN a++LN b) 24 j v (by simpa [flN] using hj)).1⟩
theorem CVn{u:World}{b:Nat}(l:List Value)(T:TypeId)(h:b=u.heap.size):CV (u.alloc (.cells l.toArray T)) b l:=h▸CV.new u l T
theorem added_core(p q g h m:Int)(sl:Option Addr)(gb go cap:Nat)(l:List (Int×Int×Int))(S T:Nat->Int)(w:World)(hix:Hid (∀j,j<l.length-> ∀W,(Instr.indexAt 28 (.slice sl l.length cap) (iI j)).run Tryz.prog W= .ok (.pointer (some ⟨gb,go+9*j,none⟩)) W))(hg:gb<w.heap.size)(hS:Hid (∀j,j<l.length->w.rangeAt gb (go+9*j) (SE (l.getD j (0,0,0)).1 (shS l j) (shT l j))))(hl0:l.length<=1000)(h1:1<=l.length)(hm:Hid ((l.getD 0 (0,0,0)).1=m))(s0:S 0=0)(t0:T 0=0)
 (hA:Hid (∀i,i<l.length-> ∀u y y2,Bw w u->w.heap.size+2<=u.heap.size->PRw (w.heap.size+2) [S i,T i] u y->NL u y2 [shS l i,shT l i]->Calls Tryz.prog 52 #[NV q,y,y2] u fun e u'=> ∃z,e= .returned (.tuple #[z,iI 0])/\PRw (w.heap.size+2) [S (i+1),T (i+1)] u' z/\Bw u u')):
 CC 25 #[GX p q g h,.slice sl l.length cap] w (SX m (S l.length) (T l.length)):=by
 have hmk: ∀W,(Instr.makeSlice 31 (iI 2) (iI 2)).run Tryz.prog W= .ok (.slice (some ⟨W.heap.size,0,none⟩) 2 2) (W.alloc (.cells (flN (List.replicate 2 0)).toArray 24)):=fun W=>mkNt 2 Z1 W
 go_enter Tryz.func25,Tryz.ntmps25
 go_wp2_with fail
 generalize hW:World.alloc (World.alloc (World.alloc w _) _) _=w3
 have hz0:w.heap.size+2<w3.heap.size:=by rw[<-hW];simp
 have hB0:Bw w w3:=by rw[<-hW];exact Z5 (Z5 (Z5 (Zf w) _) _) _
 have hP0:PRw (w.heap.size+2) [0,0] w3 (.slice (some ⟨w.heap.size+2,0,none⟩) 2 2):=by rw[<-hW];exact⟨_,rfl,Nat.le_refl _,by simp,CVn (flN [0,0]) 24 (by simp)⟩
 have hC0:CV w3 w.heap.size (GE p q g h):=by rw[<-hW];exact(CV.new w (GE p q g h) 26).below (Z5 (Z5 (Zf _) _) _) (by simp)
 have hC1:CV w3 (w.heap.size+1) L0h:=by
  rw[<-hW]
  exact(CVn L0h 39 (by simp)).below (Z5 (Zf _) _) (by simp)
 clear hW
 go_loopw [11,5] (fun s11 s5 wr=> ∃(i:Nat) (y:Value),i<=l.length/\s11=iI (i:Int)/\y=s5/\Hid (PRw (w.heap.size+2) [S i,T i] wr y)/\Hid (CV wr w.heap.size (GE p q g h))/\Hid (CV wr (w.heap.size+1) L0h)/\w.heap.size+2<wr.heap.size/\Bw w wr) (fun s11 _ _=>l.length -(intOf s11).toNat)
 case atStart=>exact⟨0,_,Z1,rfl,rfl,by rw[s0,t0];exact hP0,hC0,hC1,hz0,hB0⟩
 case round=>
  obtain⟨i,y,hi,rfl,rfl,hP,hC,hD,hz,HBr⟩:=hrel
  clear hP0 hC0 hC1 hz0 hB0
  obtain⟨b,eb,hbl,hbs,hbc⟩:=hP.out
  simp only[List.length_cons,List.length_nil] at eb
  subst eb
  by_cases hj:i<l.length
  ·have hl:(i:Int)<(l.length:Int):=Z1
   have hX:=hix.out i hj
   have hR:=Tj HBr hg (hS.out i hj)
   have e1:IntKind.i64.wrap ((i:Int)+1)=((i+1:Nat):Int):=by rw[IntKind.wrap_i64];omega
   have hA1:=hA.out i hj
   generalize shS l i=s at *
   generalize shT l i=t at *
   generalize (l.getD i (0,0,0)).1=n at *
   have c0:wr.cell? ⟨gb,go+9*i,none⟩=some (iI n):=hR 0 _ rfl
   have c1:=hR 1 _ rfl
   have c2:=hR 2 _ rfl
   have c3:=hR 3 _ rfl
   have c4:=hR 4 _ rfl
   have c5:=hR 5 _ rfl
   have c6:=hR 6 _ rfl
   have c7:=hR 7 _ rfl
   have c8:=hR 8 _ rfl
   clear hR
   obtain⟨g0,g1,g2,g3,g4,g5,g6,g7,_⟩:=ge_c hC.out Z1 (.cells (SE n s t:List Value).toArray 39)
   have hB1:Bw wr ((wr.alloc (.cells (SE n s t:List Value).toArray 39)).alloc (.cells (LN s++LN t:List Value).toArray 24)):=Z5 (Z5 (Zf wr) _) _
   have hA2:=hA1 ((wr.alloc (.cells (SE n s t:List Value).toArray 39)).alloc (.cells (LN s++LN t:List Value).toArray 24)) (.slice (some ⟨b,0,none⟩) 2 2) (.slice (some ⟨wr.heap.size+1,0,none⟩) 2 2) (Z7 HBr hB1) (by have:=hB1.size;omega) (hP.out.stab hB1) (by have:=NL.two (w:=wr.alloc (.cells (SE n s t:List Value).toArray 39)) s t;rw[World.size_alloc] at this;exact this)
   replace hA2:=Hid.on hA2
   have hB1:Hid _:=hB1
   clear hA1 hbc
   go_wp2_with (go_at_call 52;refine hA2.out.mono ?_;clear hA2;rintro e ua ⟨z,rfl,hZ,hBa⟩;obtain⟨b2,rfl,_⟩:=id hZ;have hZ:Hid _:=hZ)
   have hBw:Bw wr ua:=Z7 hB1.out hBa
   refine⟨⟨i+1,_,Z1,by simp,rfl,hZ.out,hC.out.below hBw Z1,hD.out.below hBw Z1,?_,Z7 HBr hBw⟩,by simp[intOf];omega⟩
   have:=hBw.size;omega
  ·have hl: ¬(i:Int)<(l.length:Int):=Z1
   obtain rfl:i=l.length:=Z1
   have hX: ∀W,(Instr.indexAt 28 (.slice sl l.length cap) (iI 0)).run Tryz.prog W= .ok (.pointer (some ⟨gb,go,none⟩)) W:=fun W=>hix.out 0 Z1 W
   have c0:w.cell? ⟨gb,go,none⟩=some (iI m):=by have:=hS.out 0 Z1 0 _ rfl;rw[hm.out] at this;exact this
   have K0_1:Bk w.heap.size wr [(false,w.heap.size,GE p q g h),(true,w.heap.size+1,L0h),(false,b,LN (S l.length)++LN (T l.length))]:=⟨.c Z1 hC.out<| .o Z1 Z1 hD.out<| .c hbs hbc<|trivial,by simp<;>omega⟩
   go_upto_region 7 with fail
   refine Rd K0_1 HBr [.no,.all 11 (SE m (S l.length) (T l.length))] [] (cG 0 28 [_,_,_,_,_,_,_,_,_,_,_] []) [] [] [] (Od8 g_mv (g_ix hX) (g_fd (fdS0o _ _)) (V9 gb go lI c0 hg) g_mv (g_ix (fun uZ=>ixZ b 2 2 0 Z2 uZ)) (g_lR 2 (4*0) (cs:=LN (S l.length)) (show ∀j v,(LN (S l.length):List Value)[j]?=some v->(LN (S l.length)++LN (T l.length):List Value)[4*0+j]?=some v from fun j v hj=>match j,hj with | 0,h=>h | 1,h=>h | 2,h=>h | 3,h=>h) uN iN) g_mv<|Oc4 (g_ix (fun uZ=>ixZ b 2 2 1 Z2 uZ)) (g_lR 2 (4*1) (cs:=LN (T l.length)) (show ∀j v,(LN (T l.length):List Value)[j]?=some v->(LN (S l.length)++LN (T l.length):List Value)[4*1+j]?=some v from fun j v hj=>match j,hj with | 0,h=>h | 1,h=>h | 2,h=>h | 3,h=>h) uN iN) (g_bd (bdSh m _ _)) (g_st 1 Zb)) fun u1 HB1 _ K1=>?_
   simp only[sQ] at K1⊢
   have c4_0:=((K1.cv 1) 0 _ rfl).1
   have c4_1:=((K1.cv 1) 1 _ rfl).1
   have c4_2:=((K1.cv 1) 2 _ rfl).1
   have c4_3:=((K1.cv 1) 3 _ rfl).1
   have c4_4:=((K1.cv 1) 4 _ rfl).1
   have c4_5:=((K1.cv 1) 5 _ rfl).1
   have c4_6:=((K1.cv 1) 6 _ rfl).1
   have c4_7:=((K1.cv 1) 7 _ rfl).1
   have c4_8:=((K1.cv 1) 8 _ rfl).1
   go_wp2
   refine bodyPost_ret (v:=SX m (S l.length) (T l.length)) (by simp[results,Tryz.results25,go_sem,c4_0,c4_1,c4_2,c4_3,c4_4,c4_5,c4_6,c4_7,c4_8]) rfl ⟨rfl,HB1⟩
theorem yNode(n:Int)(w:World):CC 26 #[iI n] w (.bool (ndB n)):=by
 by_cases h1:1<=n
 ·go_enter Tryz.func26,Tryz.ntmps26
  go_wp2
  exact bodyPost_ret (v:= .bool (decide (n<=16))) (by simp[results,Tryz.results26,go_sem]) rfl ⟨by simp[ndB,h1],Below.refl _ _⟩
 ·go_enter Tryz.func26,Tryz.ntmps26
  go_wp2
  exact bodyPost_ret (v:= .bool false) (by simp[results,Tryz.results26,go_sem]) rfl ⟨by simp[ndB];intro h;omega,Below.refl _ _⟩
theorem bdSn(n:Int)(w:World):(Instr.build 39 [(0,iI n)].toArray).run Tryz.prog w= .ok (SX n 0 0) w:=by kernel_rfl
theorem Yx:EnT 26:=fun _ _=>by kernel_rfl
theorem ent_J3:EnT 27:=fun _ _=>by kernel_rfl
theorem ysh_c(p q g h:Int)(sl:Option Addr)(cap:Nat)(l:List (Int×Int×Int))(w:World)(hC:Hid (∀u,CC 17 #[GX p q g h] u (iI 90))):
 CC 9 #[GX p q g h,.slice sl l.length cap] w (.tuple #[SZ,iI 90]):=by
 go_enter Tryz.func9,Tryz.ntmps9
 go_upto_region 1 with fail
 obtain⟨v0,hC,HB0,K0⟩:=bx2 w (GE p q g h) 26 L0h 39
 rw[hC]
 clear hC
 refine Rn K0 HB0 (cG 0 8 [_,_,_] []) (Oc3 (g_ld 0 Tryz.underlying26 Z4) (g_cl Z6 hC.out) (g_bn (fun uZ=>Y7 _ _ _ 90 0 _ uZ rfl))) fun u1 HB1 _ K1=>?_
 simp only[sQ] at K1⊢
 go_upto_region 2 with fail
 refine Rp K1 HB1 [.no,.all 1 L0h] [] [(0,11,_),(2,5,_)] [] [] [] (Oc3 (g_bd zSh) (g_st 1 Zb) g_as) fun u2 HB2 _ K2=>?_
 simp only[sQ] at K2⊢
 have c4_0:=((K2.cv 1) 0 _ rfl).1
 have c4_1:=((K2.cv 1) 1 _ rfl).1
 have c4_2:=((K2.cv 1) 2 _ rfl).1
 have c4_3:=((K2.cv 1) 3 _ rfl).1
 have c4_4:=((K2.cv 1) 4 _ rfl).1
 have c4_5:=((K2.cv 1) 5 _ rfl).1
 have c4_6:=((K2.cv 1) 6 _ rfl).1
 have c4_7:=((K2.cv 1) 7 _ rfl).1
 have c4_8:=((K2.cv 1) 8 _ rfl).1
 go_wp2
 refine bodyPost_ret (v:= .tuple #[SZ,iI 90]) (by simp[results,Tryz.results9,go_sem,c4_0,c4_1,c4_2,c4_3,c4_4,c4_5,c4_6,c4_7,c4_8]) rfl ⟨rfl,HB2⟩
theorem ysh_l(p q g h:Int)(sl:Option Addr)(cap:Nat)(l:List (Int×Int×Int))(w:World)(hC:Hid (∀u,CC 17 #[GX p q g h] u (iI 0)))(ha:decide ((l.length:Int)<1)=true):
 CC 9 #[GX p q g h,.slice sl l.length cap] w (.tuple #[SZ,iI 2]):=by
 go_enter Tryz.func9,Tryz.ntmps9
 go_upto_region 1 with fail
 obtain⟨v0,hC,HB0,K0⟩:=bx2 w (GE p q g h) 26 L0h 39
 rw[hC]
 clear hC
 refine Rn K0 HB0 (cG 0 8 [_,_,_] []) (Oc3 (g_ld 0 Tryz.underlying26 Z4) (g_cl Z6 hC.out) (g_bn (fun uZ=>Y7 _ _ _ 0 0 _ uZ rfl))) fun u1 HB1 _ K1=>?_
 simp only[sQ] at K1⊢
 go_upto_region 3 with fail
 refine Rn K1 HB1 (cG 0 12 [_,_,_,_,undef,undef,undef,_,_,undef,undef,undef,undef,undef,undef,_] []) (Od8 g_mv (g_ln Tryz.underlying28) (g_bn (fun uZ=>Za _ _ (l.length:Int) 1 _ uZ ha)) g_mv g_sk g_sk g_sk g_pk<|Oc8 g_mv g_sk g_sk g_sk g_sk g_sk g_sk g_pk) fun u2 HB2 _ K2=>?_
 simp only[sQ] at K2⊢
 go_upto_region 4 with fail
 refine Rp K2 HB2 [.no,.all 1 L0h] [] [(0,28,_),(2,5,_)] [] [] [] (Oc3 (g_bd zSh) (g_st 1 Zb) g_as) fun u3 HB3 _ K3=>?_
 simp only[sQ] at K3⊢
 have c4_0:=((K3.cv 1) 0 _ rfl).1
 have c4_1:=((K3.cv 1) 1 _ rfl).1
 have c4_2:=((K3.cv 1) 2 _ rfl).1
 have c4_3:=((K3.cv 1) 3 _ rfl).1
 have c4_4:=((K3.cv 1) 4 _ rfl).1
 have c4_5:=((K3.cv 1) 5 _ rfl).1
 have c4_6:=((K3.cv 1) 6 _ rfl).1
 have c4_7:=((K3.cv 1) 7 _ rfl).1
 have c4_8:=((K3.cv 1) 8 _ rfl).1
 go_wp2
 refine bodyPost_ret (v:= .tuple #[SZ,iI 2]) (by simp[results,Tryz.results9,go_sem,c4_0,c4_1,c4_2,c4_3,c4_4,c4_5,c4_6,c4_7,c4_8]) rfl ⟨rfl,HB3⟩
theorem ysh_m(p q g h:Int)(sl:Option Addr)(cap:Nat)(l:List (Int×Int×Int))(w:World)(hC:Hid (∀u,CC 17 #[GX p q g h] u (iI 0)))(ha:decide ((l.length:Int)<1)=false)(hb:decide (16<(l.length:Int))=true):
 CC 9 #[GX p q g h,.slice sl l.length cap] w (.tuple #[SZ,iI 2]):=by
 go_enter Tryz.func9,Tryz.ntmps9
 go_upto_region 1 with fail
 obtain⟨v0,hC,HB0,K0⟩:=bx2 w (GE p q g h) 26 L0h 39
 rw[hC]
 clear hC
 refine Rn K0 HB0 (cG 0 8 [_,_,_] []) (Oc3 (g_ld 0 Tryz.underlying26 Z4) (g_cl Z6 hC.out) (g_bn (fun uZ=>Y7 _ _ _ 0 0 _ uZ rfl))) fun u1 HB1 _ K1=>?_
 simp only[sQ] at K1⊢
 go_upto_region 3 with fail
 refine Rn K1 HB1 (cG 0 12 [_,_,_,_,_,_,_,_,_,undef,undef,undef,undef,undef,undef,_] []) (Od8 g_mv (g_ln Tryz.underlying28) (g_bn (fun uZ=>Za _ _ (l.length:Int) 1 _ uZ ha)) g_mv g_mv (g_ln Tryz.underlying28) (g_bn (fun uZ=>V8 _ _ (l.length:Int) 16 _ uZ hb)) g_pk<|Oc8 g_mv g_sk g_sk g_sk g_sk g_sk g_sk g_pk) fun u2 HB2 _ K2=>?_
 simp only[sQ] at K2⊢
 go_upto_region 4 with fail
 refine Rp K2 HB2 [.no,.all 1 L0h] [] [(0,28,_),(2,5,_)] [] [] [] (Oc3 (g_bd zSh) (g_st 1 Zb) g_as) fun u3 HB3 _ K3=>?_
 simp only[sQ] at K3⊢
 have c4_0:=((K3.cv 1) 0 _ rfl).1
 have c4_1:=((K3.cv 1) 1 _ rfl).1
 have c4_2:=((K3.cv 1) 2 _ rfl).1
 have c4_3:=((K3.cv 1) 3 _ rfl).1
 have c4_4:=((K3.cv 1) 4 _ rfl).1
 have c4_5:=((K3.cv 1) 5 _ rfl).1
 have c4_6:=((K3.cv 1) 6 _ rfl).1
 have c4_7:=((K3.cv 1) 7 _ rfl).1
 have c4_8:=((K3.cv 1) 8 _ rfl).1
 go_wp2
 refine bodyPost_ret (v:= .tuple #[SZ,iI 2]) (by simp[results,Tryz.results9,go_sem,c4_0,c4_1,c4_2,c4_3,c4_4,c4_5,c4_6,c4_7,c4_8]) rfl ⟨rfl,HB3⟩
theorem ysh_n(p q g h m:Int)(sl:Option Addr)(gb go cap:Nat)(l:List (Int×Int×Int))(w:World)(hC:Hid (∀u,CC 17 #[GX p q g h] u (iI 0)))(ha:decide ((l.length:Int)<1)=false)(hb:decide (16<(l.length:Int))=false)(hX0:Hid (∀W,(Instr.indexAt 28 (.slice sl l.length cap) (iI 0)).run Tryz.prog W= .ok (.pointer (some ⟨gb,go+9*0,none⟩)) W))(hg:gb<w.heap.size)(hc0:Hid (w.cell? ⟨gb,go+9*0,none⟩=some (iI m)))(hN:Hid (∀u,CC 26 #[iI m] u (.bool false))):
 CC 9 #[GX p q g h,.slice sl l.length cap] w (.tuple #[SZ,iI 2]):=by
 go_enter Tryz.func9,Tryz.ntmps9
 go_upto_region 1 with fail
 obtain⟨v0,hC,HB0,K0⟩:=bx2 w (GE p q g h) 26 L0h 39
 rw[hC]
 clear hC
 refine Rn K0 HB0 (cG 0 8 [_,_,_] []) (Oc3 (g_ld 0 Tryz.underlying26 Z4) (g_cl Z6 hC.out) (g_bn (fun uZ=>Y7 _ _ _ 0 0 _ uZ rfl))) fun u1 HB1 _ K1=>?_
 simp only[sQ] at K1⊢
 go_upto_region 3 with fail
 refine Rn K1 HB1 (cG 0 12 [_,_,_,_,_,_,_,_,_,_,_,_,_,_,_,_] []) (Od8 g_mv (g_ln Tryz.underlying28) (g_bn (fun uZ=>Za _ _ (l.length:Int) 1 _ uZ ha)) g_mv g_mv (g_ln Tryz.underlying28) (g_bn (fun uZ=>V8 _ _ (l.length:Int) 16 _ uZ hb)) g_pk<|Oc8 g_mv g_mv (g_ix hX0.out) (g_fd (fdS0o _ _)) (V9 gb (go+9*0) lI hc0.out hg) (g_cl Yx hN.out) (g_un not_f) g_pk) fun u2 HB2 _ K2=>?_
 simp only[sQ] at K2⊢
 go_upto_region 4 with fail
 refine Rp K2 HB2 [.no,.all 1 L0h] [] [(0,28,_),(2,5,_)] [] [] [] (Oc3 (g_bd zSh) (g_st 1 Zb) g_as) fun u3 HB3 _ K3=>?_
 simp only[sQ] at K3⊢
 have c4_0:=((K3.cv 1) 0 _ rfl).1
 have c4_1:=((K3.cv 1) 1 _ rfl).1
 have c4_2:=((K3.cv 1) 2 _ rfl).1
 have c4_3:=((K3.cv 1) 3 _ rfl).1
 have c4_4:=((K3.cv 1) 4 _ rfl).1
 have c4_5:=((K3.cv 1) 5 _ rfl).1
 have c4_6:=((K3.cv 1) 6 _ rfl).1
 have c4_7:=((K3.cv 1) 7 _ rfl).1
 have c4_8:=((K3.cv 1) 8 _ rfl).1
 go_wp2
 refine bodyPost_ret (v:= .tuple #[SZ,iI 2]) (by simp[results,Tryz.results9,go_sem,c4_0,c4_1,c4_2,c4_3,c4_4,c4_5,c4_6,c4_7,c4_8]) rfl ⟨rfl,HB3⟩
theorem ysh_k(p q g h m e:Int)(sl:Option Addr)(gb go cap:Nat)(l:List (Int×Int×Int))(R:Value)(S Z:Nat->Int)(w:World)(hC:Hid (∀u,CC 17 #[GX p q g h] u (iI 0)))(ha:decide ((l.length:Int)<1)=false)(hb:decide (16<(l.length:Int))=false)(hX0:Hid (∀W,(Instr.indexAt 28 (.slice sl l.length cap) (iI 0)).run Tryz.prog W= .ok (.pointer (some ⟨gb,go+9*0,none⟩)) W))(hc0:Hid (w.cell? ⟨gb,go+9*0,none⟩=some (iI m)))(hN:Hid (∀u,CC 26 #[iI m] u (.bool true)))(hix:Hid (∀j,j<l.length-> ∀W,(Instr.indexAt 28 (.slice sl l.length cap) (iI j)).run Tryz.prog W= .ok (.pointer (some ⟨gb,go+9*j,none⟩)) W))(hg:gb<w.heap.size)(hS:Hid (∀j,j<l.length->w.rangeAt gb (go+9*j) (SE (l.getD j (0,0,0)).1 (shS l j) (shT l j))))(hSS:Hid (∀k,k<l.length-> ∀u,CC 27 #[NV (S k),NV (shS l k),NV q] u (.tuple #[NV (S (k+1)),iI 0])))(hZZ:Hid (∀k,k<l.length-> ∀u,CC 27 #[NV (Z k),NV (shT l k),NV q] u (.tuple #[NV (Z (k+1)),iI 0])))(S0:S 0=0)(Z0:Z 0=0)(hno:Hid (∀k,k<l.length->((l.getD k (0,0,0)).1 !=m)=true->R=SZ/\e=2))(hye:Hid ((∀k,k<l.length->(l.getD k (0,0,0)).1=m)->R=SX m (S l.length) (Z l.length)/\e=0)):
 CC 9 #[GX p q g h,.slice sl l.length cap] w (.tuple #[R,iI e]):=by
 go_enter Tryz.func9,Tryz.ntmps9
 go_upto_region 1 with fail
 obtain⟨v0,hC,HB0,K0⟩:=bx2 w (GE p q g h) 26 L0h 39
 rw[hC]
 clear hC
 refine Rn K0 HB0 (cG 0 8 [_,_,_] []) (Oc3 (g_ld 0 Tryz.underlying26 Z4) (g_cl Z6 hC.out) (g_bn (fun uZ=>Y7 _ _ _ 0 0 _ uZ rfl))) fun u1 HB1 _ K1=>?_
 simp only[sQ] at K1⊢
 go_upto_region 3 with fail
 refine Rn K1 HB1 (cG 0 12 [_,_,_,_,_,_,_,_,_,_,_,_,_,_,_,_] []) (Od8 g_mv (g_ln Tryz.underlying28) (g_bn (fun uZ=>Za _ _ (l.length:Int) 1 _ uZ ha)) g_mv g_mv (g_ln Tryz.underlying28) (g_bn (fun uZ=>V8 _ _ (l.length:Int) 16 _ uZ hb)) g_pk<|Oc8 g_mv g_mv (g_ix hX0.out) (g_fd (fdS0o _ _)) (V9 gb (go+9*0) lI hc0.out hg) (g_cl Yx hN.out) (g_un Xe) g_pk) fun u2 HB2 _ K2=>?_
 simp only[sQ] at K2⊢
 go_upto_region 5 with fail
 refine Rp K2 HB2 [] [(5,6,L0h,some (6,SE m (0) (0)))] (cG 0 29 [_,_,_,_,_] []) [(6,5)] [] [] (Oc7 g_mv (g_ix hX0.out) (g_fd (fdS0o _ _)) (V9 gb (go+9*0) lI hc0.out hg) (g_bd (bdSn m)) (g_al 0 Xy) (g_sn 0 Zb)) fun u3 b3_5 HB3 _ K3=>?_
 simp only[sQ] at K3⊢
 go_upto_region 6 with fail
 refine Rn K3 HB3 [(0,7,_)] (Oc1 g_as) fun u4 HB4 _ K4=>?_
 simp only[sQ] at K4⊢
 have hl16:l.length<=16:=by have:=of_decide_eq_false hb;omega
 go_wp2_with fail
 go_loopw [7] (fun s7 wr=> ∃(k:Nat),k<=l.length/\s7=iI (k:Int)/\Bw w wr/\CV wr (w.heap.size) (GE p q g h)/\w.heap.size<wr.heap.size/\CV wr (w.heap.size+1) (L0h)/\w.heap.size+1<wr.heap.size/\CV wr b3_5 (SE m (S k) (Z k))/\b3_5<wr.heap.size/\Hid (∀j,j<k->(l.getD j (0,0,0)).1=m)) (fun s7 _=>l.length -(intOf s7).toNat)
 case atStart=>exact⟨0,Z1,rfl,HB4,(K4.cv 0),(K4.lt 0),(K4.cv 1),(K4.lt 1),by rw[S0,Z0];exact(K4.cv 2),(K4.lt 2),fun j hj=>absurd hj Z1⟩
 case round=>
  obtain⟨k,hk,rfl,HBr,C0,lC0,C1,lC1,C2,lC2,hall⟩:=hrel
  have hnK:=K4.n
  simp at hnK
  have hoK2:=K4.lo 2
  by_cases hj:k<l.length
  ·have hl:decide ((k:Int)<(l.length:Int))=true:=by simp;omega
   have hX:=hix.out _ hj
   have hX:Hid _:=hX
   have hR0:=hS.out _ hj
   have hA1:=hSS.out k hj
   have hA2:=hZZ.out k hj
   have hbad:=hno.out k hj
   have hok:Hid ((l.getD k (0,0,0)).1=m-> ∀j,j<k+1->(l.getD j (0,0,0)).1=m):=fun e j hjk=>by
    by_cases ej:j=k
    ·subst ej;exact e
    ·exact hall.out j Z1
   obtain⟨n,en⟩:=Z3 ((l.getD k (0,0,0)).1)
   obtain⟨s,es⟩:=Z3 (shS l k)
   obtain⟨t,et⟩:=Z3 (shT l k)
   obtain⟨a,ea⟩:=Z3 (S k)
   obtain⟨b,eb⟩:=Z3 (Z k)
   obtain⟨a',ea'⟩:=Z3 (S (k+1))
   obtain⟨b',eb'⟩:=Z3 (Z (k+1))
   rw[en,es,et] at hR0
   rw[en] at hbad hok
   rw[ea,es,ea'] at hA1
   rw[eb,et,eb'] at hA2
   rw[ea,eb] at C2
   have ea':Hid _:=ea'
   have eb':Hid _:=eb'
   clear en es et ea eb
   have hcn:=hR0 0 _ rfl
   rw[Nat.add_zero] at hcn
   have hcn:Hid _:=hcn
   have hA1:Hid _:=hA1
   have hA2:Hid _:=hA2
   obtain⟨hRs,hRt⟩:=sh_S hR0
   have hRs:Hid _:=hRs
   have hRt:Hid _:=hRt
   clear hR0
   have K4_1:Bk w.heap.size wr [(false,w.heap.size,GE p q g h),(true,w.heap.size+1,L0h),(true,b3_5,SE m a b)]:=⟨.c lC0 C0<| .o lC1 (K4.lo 1) C1<| .o lC2 (K4.lo 2) C2<|trivial,by simp<;>omega⟩
   go_upto_region 7 with fail
   refine Rn K4_1 HBr (cG 0 34 [_,_,_,_] []) (Oc4 g_mv g_mv (g_ln Tryz.underlying28) (g_bn (fun uZ=>Za _ _ (k:Int) (l.length:Int) _ uZ hl))) fun u5 HB5 sz5 K5=>?_
   simp only[sQ] at K5⊢
   cases hne:(n !=m)
   ·skip
    go_upto_region 9 with fail
    refine Rm K5 HB5 (cG 0 40 [_,_,_,_,_,_,_,_] []) (Oc8 g_mv g_mv (g_ix hX.out) (g_fd (fdS0o _ _)) (V9 gb (go+9*k) lI hcn.out hg) (g_fd (fdS0 _)) (g_lc 2 0 lI) (g_bn (fun uZ=>Y7 _ _ _ n m _ uZ hne))) fun u6 HB6 sz6 K6=>?_
    simp only[sQ] at K6⊢
    have hok':=hok.out (by simpa using hne)
    go_upto_region 11 with fail
    refine Rd K6 HB6 [.no,.no,.all 14 (SE m (a') b)] [] (cG 0 50 [_,_,_,_,_,_,_,_,_,_] [(10,49,_),(11,60,_),(12,61,_),(13,62,_)]) [(14,1)] [] [] (Od8 (g_fd (fdS1 _)) (g_lo 2 1 uN iN) g_mv g_mv (g_ix hX.out) (g_fd (fdS1o _ _)) (g_lf hRs.out hg uN iN) (g_fd (fdG1 _))<|Oc7 (g_lo 0 4 uN iN) (g_cl ent_J3 hA1.out) g_mv g_ex g_ex (g_fd (fdS1 _)) (g_sm 2 1 ([iI m]) (LN a) (LN b) (post:=LN a') iN)) fun u7 HB7 sz7 K7=>?_
    simp only[sQ] at K7⊢
    go_upto_region 12 with fail
    refine Rd K7 HB7 [.no,.no,.all 14 (SE m (a') (b'))] [] (cG 0 64 [_,_,_,_,_,_,_,_,_,_] [(10,63,_),(11,74,_),(12,75,_),(13,76,_)]) [(14,1)] [] [] (Od8 (g_fd (fdS2 _)) (g_lo 2 5 uN iN) g_mv g_mv (g_ix hX.out) (g_fd (fdS2o _ _)) (g_lf hRt.out hg uN iN) (g_fd (fdG1 _))<|Oc7 (g_lo 0 4 uN iN) (g_cl ent_J3 hA2.out) g_mv g_ex g_ex (g_fd (fdS2 _)) (g_sm 2 5 ([iI m]++LN a') (LN b) ([]) (post:=LN b') iN)) fun u8 HB8 _ K8=>?_
    simp only[sQ] at K8⊢
    go_upto_region 8 with fail
    refine Rp K8 HB8 [] [] [(0,38,_),(1,39,_),(2,7,_)] [(2,0)] [(2,7)] [] (Oc3 g_mv (g_bn (fun uZ=>Zu _ _ (k:Int) 1 ((k+1:Nat):Int) uZ Z1 Z1 Z1)) g_as) fun u9 HB9 _ K9=>?_
    simp only[sQ] at K9⊢
    go_wp2
    refine⟨⟨k+1,Z1,rfl,HB9,(K9.cv 0),(K9.lt 0),(K9.cv 1),(K9.lt 1),(by rw[ea'.out,eb'.out];exact(K9.cv 2)),(K9.lt 2),hok'⟩,?_⟩
    simp[intOf]<;>omega
   ·skip
    go_upto_region 9 with fail
    refine Rm K5 HB5 (cG 0 40 [_,_,_,_,_,_,_,_] []) (Oc8 g_mv g_mv (g_ix hX.out) (g_fd (fdS0o _ _)) (V9 gb (go+9*k) lI hcn.out hg) (g_fd (fdS0 _)) (g_lc 2 0 lI) (g_bn (fun uZ=>Y7 _ _ _ n m _ uZ hne))) fun u6 HB6 sz6 K6=>?_
    simp only[sQ] at K6⊢
    go_upto_region 10 with fail
    refine Rp K6 HB6 [.no,.all 1 L0h] [] [(0,48,_),(2,5,_)] [] [] [] (Oc3 (g_bd zSh) (g_st 1 Zb) g_as) fun u7 HB7 sz7 K7=>?_
    simp only[sQ] at K7⊢
    have c4_0:=((K7.cv 1) 0 _ rfl).1
    have c4_1:=((K7.cv 1) 1 _ rfl).1
    have c4_2:=((K7.cv 1) 2 _ rfl).1
    have c4_3:=((K7.cv 1) 3 _ rfl).1
    have c4_4:=((K7.cv 1) 4 _ rfl).1
    have c4_5:=((K7.cv 1) 5 _ rfl).1
    have c4_6:=((K7.cv 1) 6 _ rfl).1
    have c4_7:=((K7.cv 1) 7 _ rfl).1
    have c4_8:=((K7.cv 1) 8 _ rfl).1
    go_wp2
    refine bodyPost_ret (v:= .tuple #[SZ,iI 2]) (by simp[results,Tryz.results9,go_sem,c4_0,c4_1,c4_2,c4_3,c4_4,c4_5,c4_6,c4_7,c4_8]) rfl ⟨by obtain⟨ea,ee⟩:=hbad hne;rw[ea,ee],HB7⟩
  ·have hl:decide ((k:Int)<(l.length:Int))=false:=by simp;omega
   obtain rfl:k=l.length:=Z1
   obtain⟨rfl,rfl⟩:=hye.out hall.out
   clear hye hno
   obtain⟨a,ea⟩:=Z3 (S l.length)
   obtain⟨b,eb⟩:=Z3 (Z l.length)
   rw[ea,eb] at C2
   have ea:Hid _:=ea
   have eb:Hid _:=eb
   have K4_1:Bk w.heap.size wr [(false,w.heap.size,GE p q g h),(true,w.heap.size+1,L0h),(true,b3_5,SE m a b)]:=⟨.c lC0 C0<| .o lC1 (K4.lo 1) C1<| .o lC2 (K4.lo 2) C2<|trivial,by simp<;>omega⟩
   go_upto_region 7 with fail
   refine Rn K4_1 HBr (cG 0 34 [_,_,_,_] []) (Oc4 g_mv g_mv (g_ln Tryz.underlying28) (g_bn (fun uZ=>Za _ _ (l.length:Int) (l.length:Int) _ uZ hl))) fun u5 HB5 sz5 K5=>?_
   simp only[sQ] at K5⊢
   go_upto_region 13 with fail
   refine Rp K5 HB5 [.no,.all 1 (SE m a b)] [] [(0,77,_),(2,5,_)] [] [] [] (Oc3 (g_ld 2 Tryz.underlying39 Zb) (g_st 1 Zb) g_as) fun u6 HB6 sz6 K6=>?_
   simp only[sQ] at K6⊢
   have c4_0:=((K6.cv 1) 0 _ rfl).1
   have c4_1:=((K6.cv 1) 1 _ rfl).1
   have c4_2:=((K6.cv 1) 2 _ rfl).1
   have c4_3:=((K6.cv 1) 3 _ rfl).1
   have c4_4:=((K6.cv 1) 4 _ rfl).1
   have c4_5:=((K6.cv 1) 5 _ rfl).1
   have c4_6:=((K6.cv 1) 6 _ rfl).1
   have c4_7:=((K6.cv 1) 7 _ rfl).1
   have c4_8:=((K6.cv 1) 8 _ rfl).1
   go_wp2
   refine bodyPost_ret (v:= .tuple #[SX m a b,iI 0]) (by simp[results,Tryz.results9,go_sem,c4_0,c4_1,c4_2,c4_3,c4_4,c4_5,c4_6,c4_7,c4_8]) rfl ⟨by rw[ea.out,eb.out],HB6⟩
section
theorem Es.set{f:Nat->Bool}{t:Nat->Value}{u:World}: ∀{E:List En} {m:Nat} {q:En},Es f t u E->(f q.i=true->(∀c,q.c=some c->f c=false)->q.p u (t q.d))->Es f t u (E.set m q)
 | [],_,_,_,_=>trivial
 | x::r,0,q,h,hq=>⟨hq,h.2⟩
 | x::r,m+1,q,h,hq=>⟨h.1,Es.set h.2 hq⟩
section
variable {P:Program} {ops:Array Oper} {Q:Exit->Act->World->Prop} {id:Nat} {w0 w:World} {fr:List Value} {lo:Nat} {ks:List Blk}
theorem rgZ(n m:Nat)(pz:World->Value->Prop){o:Oper}{j d:Nat}{c:Option Nat}{p:World->Value->Prop}(K:Bk lo w0 ks)(HB:Below lo w w0)(hlo:lo<=w0.heap.size)(X:List Wr)(nw:List Nw)(G:List (Nat×Nat×Value))(O N:List (Nat×Nat))(E E2:List En)(M:List Bool)(hst:Stab E)
 (hE:E[m]?=some ⟨j,d,c,p⟩)(hE2:E2=E.set m ⟨j,d,none,pz⟩)(hn:ops[n]?=some o)(hsz:ops.size=n+1)(hcov:(List.range n).all (Zs o)=true)
 (hops:OpsAll (mkR fr lo w w0.heap.size ks X nw G O N E) P ops Q 0 (ops.toList.take n))
 (hlast: ∀f t u a,Xs (mkR fr lo w w0.heap.size ks X nw G O N E) ops f t u a n o->wpOp P ops Q n (fun a' u'=> ∃t',Fr fr (mkR fr lo w w0.heap.size ks X nw G O N E).S a' t'/\Inv (mkR fr lo w w0.heap.size ks X nw G O N E) (updF f n) t' u'/\pz u' (t' d)) a u)
 (hend: ∀u',AllNew nw fun bs=>AllE u' E2 fun vs=>Below lo w u'->w0.heap.size<=u'.heap.size->Bk lo u' (pM M (aK (fX ks X) (nK bs nw)))->Q .normal ⟨(setE (setN (setG fr G) bs nw) vs E2).toArray,[]⟩ u')
 (hm:P.follows .mixedOrders=true:=by kernel_rfl)(hb:We .any ops=true:=by kernel_rfl)(hok:(mkR fr lo w w0.heap.size ks X nw G O N E).ok=true:=by kernel_rfl)(hfit:fits ops.size X nw G E2=true:=by kernel_rfl):(Code.region id ops true).wp P Q ⟨fr.toArray,[]⟩ w0:=by
 have hKd:KA lo w0.drew ks:=by
  have:=K.a
  revert this
  clear hend hops K hok hlast
  induction ks with
  | nil=>intro _;trivial
  | cons q r ih=>exact fun h=>⟨⟨h.1.1,h.1.2.1,h.1.2.2.drew⟩,ih h.2⟩
 have hmap: ∀(E:List En) (m:Nat),E[m]?=some ⟨j,d,c,p⟩->(E.set m ⟨j,d,none,pz⟩).map (·.d)=E.map (·.d):=by
  intro E
  induction E with
  | nil=>intro m h;simp at h
  | cons x r ih=>
   intro m h
   cases m with
   | zero=>simp at h;subst h;rfl
   | succ m=>simp at h;simp[ih m h]
 have hS:(mkR fr lo w w0.heap.size ks X nw G O N E2).S=(mkR fr lo w w0.heap.size ks X nw G O N E).S:=by
  show G.map (·.2.1)++(nw.map (·.2.1)++E2.map (·.d))=G.map (·.2.1)++(nw.map (·.2.1)++E.map (·.d))
  rw[hE2,hmap E m hE]
 refine Xr (mkR fr lo w w0.heap.size ks X nw G O N E).S (fun f t u=>Inv (mkR fr lo w w0.heap.size ks X nw G O N E) f t u/\(f n=true->pz u (t d)/\ ∀i,i<n->f i=true)) hm hb ⟨Inv.start HB.drew rfl hKd hlo X nw G O N E,fun e=>by cases e⟩ ?_ ?_
 ·rintro f t u i oi a hF ⟨hI,hI2⟩ ho hfi hdep
  have hX:Xs (mkR fr lo w w0.heap.size ks X nw G O N E) ops f t u a i oi:=⟨hok,by show ((U9 ks X).map (·.2.1)).Nodup;rw[Xb];exact K.n,hst,hF,hI,ho,hfi,hdep⟩
  by_cases e:i=n
  ·subst e
   have e2:oi=o:=by rw[hn] at ho;cases ho;rfl
   subst e2
   have hc: ∀k,k<i->f k=true:=fun k hk=>Y4 (List.all_eq_true.1 hcov k (List.mem_range.2 hk)) hdep
   refine wpOp_mono (fun a' u' h=>?_) (hlast f t u a hX)
   obtain⟨t',h1,h2,h3⟩:=h
   exact⟨t',h1,h2,fun _=>⟨h3,fun k hk=>by simp[updF,Nat.ne_of_lt hk,hc k hk]⟩⟩
  ·have hlt:i<n:=by
    have:i<ops.size:=(Array.getElem?_eq_some_iff.1 ho).1
    omega
   have hfn:f n=false:=by
    cases hf:f n
    ·rfl
    ·rw[(hI2 hf).2 i hlt] at hfi;cases hfi
   have hg:=hops.get (n:=i) (o:=oi) (by rw[List.getElem?_take_of_lt hlt,Array.getElem?_toList];exact ho)
   rw[Nat.zero_add] at hg
   refine wpOp_mono (fun a' u' h=>?_) (hg f t u a hX)
   obtain⟨t',h1,h2⟩:=h
   exact⟨t',h1,h2,fun e3=>by rw[updF,if_neg Z1,hfn] at e3;cases e3⟩
 ·rintro f t u ⟨hI,hI2⟩ hall
  have h2:=hI2 (hall n Z1)
  have hI3:Inv (mkR fr lo w w0.heap.size ks X nw G O N E2) f t u:=by
   obtain⟨a1,a2,a3,a4,a5,a6⟩:=hI
   refine⟨a1,a2,a3,a4,a5,?_⟩
   show Es f t u E2
   rw[hE2]
   exact Es.set a6 fun _ _=>h2.1
  have:=hI3.end hall hfit K.n hend
  rw[hS] at this
  exact this
end
section
variable {R:Rg} {P:Program} {ops:Array Oper} {Q:Exit->Act->World->Prop} {i:Nat} {o:Oper}
theorem st_last(k c m:Nat)(p pz:World->Value->Prop){T:TypeId}{x:Operand}{b j d:Nat}{l post:List Value}{v0:Value}(hr: ∀(u:World) (v:Value),p u v->u.cell? ⟨b,c,none⟩=some v0->u.frozen? ⟨b,c,none⟩=false->(Instr.storeAt T (.pointer (some ⟨b,c,none⟩)) v).run P u= .ok () (u.setCell ⟨b,c,none⟩ v))
 (hpp: ∀(u:World) (v:Value),Below R.lo R.w u->R.base<=u.heap.size->b<R.base->CV u b l->p u v->pz (u.setCell ⟨b,c,none⟩ v) v)(h0:l[c]?=some v0)(hp:post=l.take c)
 (hop:o.op= .store T x (.tmp d):=by rfl)(hn:R.es[k]?=some (true,b,l,.all i post):=by rfl)(hx:evR R i o x=some (.pointer (some ⟨b,c,none⟩)):=by rfl)(hm:R.E[m]?=some ⟨j,d,some i,p⟩:=by rfl)(hd:(Zs o j&&R.S.contains d)=true:=by rfl)
 (hf:(((R.es.eraseIdx k).all fun q=>q.2.2.2.free i)&&(R.nw.all (nwf0 i)))=true:=by rfl)(hE:(R.E.all (eGone [] i o))=true:=by rfl)(hc:({R with E:=[]}:Rg).chkS ops i o=true:=by rfl): ∀f t u a,Xs R ops f t u a i o->wpOp P ops Q i (fun a' u'=> ∃t',Fr R.fr R.S a' t'/\Inv R (updF f i) t' u'/\pz u' (t' d)) a u:=fun f t u a X=>by
 simp only[Bool.and_eq_true] at hf
 rw[Bool.and_eq_true,List.contains_iff_mem] at hd
 obtain⟨d2,d4⟩:=hd
 obtain⟨q1,q2,q3⟩:=X.I.2.1.get hn
 have q3:CV u b (bif f i then post else l):=q3
 rw[X.fi] at q3
 have q3:CV u b l:=q3
 have hv:p u (t d):=X.val hm d2 rfl
 have cc:=Chg.cell u b c (t d)
 have hlt:c<l.length:=(List.getElem?_eq_some_iff.1 h0).1
 obtain⟨hdst,s1,⟨s5,_⟩,s7⟩:=Yu hc
 have s1:lacks i R.G=true:=s1
 have s5:R.okO i o=true:=s5
 have s7:Wt R ops o=some true:=s7
 refine X.go s7 fun K hK=>wp_store hop (X.ev hx) (X.inS d4) (hr u _ hv (q3 c _ h0).1 (q3 c _ h0).2) (hK _ _ ?_)
 refine⟨t,by rw[hdst];exact X.F,⟨?_,?_,Gs.idle s1 X.I.2.2.1,Yj s5 X.I.2.2.2.1 X.dep,Ns.idle X.I.2.2.2.2.1,Es.gone (O:=[]) (fun j hj=>by simp at hj) X.dep hE⟩,hpp u _ X.I.1.bel X.I.1.sz q1 q3 hv⟩
 ·rw[Xc hf.2]
  exact X.I.1.wr (X.I.1.bel.setCell (q2 rfl) _) cc q1
 ·refine KC.put cc X.I.2.1 hn X.nd hf.1 ?_
  simp only[Wr.val,Yl,cond_true]
  rw[hp]
  intro jj v hj
  have h5:=q3.setC c hlt (t d) jj v
  refine h5 ?_
  rw[List.getElem?_take] at hj
  split at hj
  ·rename_i h6
   rw[List.getElem?_set_ne Z1];exact hj
  ·cases hj
end
end
abbrev DZ:Value:= .agg L0d.toArray
theorem zDl(w:World):(Instr.build 33 [].toArray).run Tryz.prog w= .ok DZ w:=by kernel_rfl
theorem bdDl(d:Int)(w:World):(Instr.build 33 [(0,iI d)].toArray).run Tryz.prog w= .ok (DX d (.slice none 0 0)) w:=by kernel_rfl
theorem sSN{b c n cap n0 c0:Nat}{sl s0:Option Addr}(w:World)(h:w.cell? ⟨b,c,none⟩=some (.slice s0 n0 c0))(hf:w.frozen? ⟨b,c,none⟩=false):(Instr.storeAt 31 (.pointer (some ⟨b,c,none⟩)) (.slice sl n cap)).run Tryz.prog w= .ok () (w.setCell ⟨b,c,none⟩ (.slice sl n cap)):=by go_simp
theorem Bk.setC{lo:Nat}{u:World}{ks:List Blk}{o:Bool}{b:Nat}{l:List Value}(k:Nat)(l':List Value)(K:Bk lo u ks)(e:ks[k]?=some (o,b,l))(h:CV u b l'):Bk lo u (ks.set k (o,b,l')):=by
 have hm: ∀(ks:List Blk) (k:Nat),ks[k]?=some (o,b,l)->KA lo u ks->KA lo u (ks.set k (o,b,l'))/\(ks.set k (o,b,l')).map (·.2.1)=ks.map (·.2.1):=by
  intro ks
  induction ks with
  | nil=>intro k e;simp at e
  | cons x r ih=>
   intro k e hK
   cases k with
   | zero=>simp at e;subst e;exact⟨⟨⟨hK.1.1,hK.1.2.1,h⟩,hK.2⟩,rfl⟩
   | succ k=>
    simp at e
    have:=ih k e hK.2
    exact⟨⟨hK.1,this.1⟩,by simp[this.2]⟩
 have:=hm ks k e K.a
 exact⟨this.1,by rw[this.2];exact K.n⟩
def PZD(bd:Nat)(dl:Int)(lo s n:Nat)(xs:List Value)(u:World)(v:Value):Prop:=PG lo s n xs u v/\CV u bd [iI dl,v]
theorem st_pg{lo s n:Nat}{xs:List Value}{b c n0 c0:Nat}{s0:Option Addr}(u:World)(v:Value)(hv:PG lo s n xs u v)(h:u.cell? ⟨b,c,none⟩=some (.slice s0 n0 c0))(hf:u.frozen? ⟨b,c,none⟩=false):(Instr.storeAt 31 (.pointer (some ⟨b,c,none⟩)) v).run Tryz.prog u= .ok () (u.setCell ⟨b,c,none⟩ v):=by
 obtain⟨b2,cap,zs,rfl,_⟩:=hv
 exact sSN u h hf
theorem st_pz{lo s n bd:Nat}{xs:List Value}{dl:Int}{v0:Value}{u:World}{v:Value}(hb:bd<lo)(hc:CV u bd [iI dl,v0])(hv:PG lo s n xs u v):PZD bd dl lo s n xs (u.setCell ⟨bd,1,none⟩ v) v:=by
 refine⟨?_,hc.setC 1 (by simp) v⟩
 obtain⟨b2,cap,zs,e,h1,h2,h3,h4,h5⟩:=hv
 exact⟨b2,cap,zs,e,h1,by simpa using h2,h3,h4,h5.oset ⟨bd,1,none⟩ v (by show b2≠bd;omega)⟩
def PQn(lo:Nat)(ns:List Int)(u:World)(y:Value):Prop:= ∃b co zs,y= .slice (some ⟨b,0,none⟩) ns.length co/\lo<=b/\b<u.heap.size/\ns.length<=co/\CV u b (flN ns++zs)
theorem PQn.nl{lo:Nat}{ns:List Int}{u:World}{y:Value}(h:PQn lo ns u y):NL u y ns:=by
 obtain⟨b,co,zs,rfl,_,hb,hc,h⟩:=h
 refine⟨_,b,0,co,rfl,hc,(by simp),.inr rfl,.inr hb,fun i v hi=>?_⟩
 rw[Nat.zero_add]
 exact(h i v (by rw[List.getElem?_append_left (List.getElem?_eq_some_iff.1 hi).1];exact hi)).1
theorem dl_row{u:World}{lo b j c:Nat}{ns:List Int}{zs:List Value}(hl:lo<=b)(hb:b<u.heap.size)(h:CV u b (flN (ns.take j)++zs))(hj:j=ns.length)(hc:j<=c):PQn lo ns u (.slice (some ⟨b,0,none⟩) j c):=by
 subst hj
 rw[List.take_length] at h
 exact⟨b,c,zs,rfl,hl,hb,hc,h⟩
theorem xdl_k(p q g h dl:Int)(sa sb:Option Addr)(ca cb ga oa gb ob:Nat)(ss ts ns:List Int)(w:World)(hC:Hid (∀u,CC 17 #[GX p q g h] u (iI 0)))(hN:Hid (∀u,CC 44 #[iI dl] u (.bool true)))(hS:Hid (∀u,CC 56 #[.slice sa ss.length ca,.slice sb ts.length cb] u (.bool true)))(hI:Hid (∀u,CC 45 #[GX p q g h,NV g] u (.bool true)))(hJ:Hid (∀u,CC 45 #[GX p q g h,NV h] u (.bool true)))(hP:Hid (∀j,j<ss.length-> ∀u,CC 78 #[GX p q g h,NV (ss.getD j 0),NV (ts.getD j 0)] u (NV (ns.getD j 0))))(hixa:Hid (∀j,j<ss.length-> ∀W,(Instr.indexAt 31 (.slice sa ss.length ca) (iI j)).run Tryz.prog W= .ok (.pointer (some ⟨ga,oa+4*j,none⟩)) W))(hga:ss.length=0\/ga<w.heap.size)(hSa:Hid (SN w ga oa ss))(hixb:Hid (∀j,j<ts.length-> ∀W,(Instr.indexAt 31 (.slice sb ts.length cb) (iI j)).run Tryz.prog W= .ok (.pointer (some ⟨gb,ob+4*j,none⟩)) W))(hgb:ts.length=0\/gb<w.heap.size)(hSb:Hid (SN w gb ob ts))(hln:ns.length=ss.length)(hlt:ts.length=ss.length)(h1:1<=ss.length)(h6:ss.length<=6):
 Calls Tryz.prog 54 #[GX p q g h,iI dl,.slice sa ss.length ca,.slice sb ts.length cb] w fun e' w'=> ∃y,e'= .returned (.tuple #[DX dl y,iI 0])/\PQn w.heap.size ns w' y/\Bw w w':=by
 go_enter Tryz.func54,Tryz.ntmps54
 go_upto_region 1 with fail
 obtain⟨v0,hC,HB0,K0⟩:=bx2 w (GE p q g h) 26 L0d 33
 rw[hC]
 clear hC
 refine Rn K0 HB0 (cG 0 12 [_,_,_] []) (Oc3 (g_ld 0 Tryz.underlying26 Z4) (g_cl Z6 hC.out) (g_bn (fun uZ=>Y7 _ _ _ 0 0 _ uZ rfl))) fun u1 HB1 _ K1=>?_
 simp only[sQ] at K1⊢
 go_upto_region 3 with fail
 refine Rn K1 HB1 (cG 0 16 [_,_,_,_,_,_,_,_,_] []) (Oc9 g_mv (g_cl Zc hN.out) (g_un Xe) g_mv g_mv g_mv (g_cl Yn hS.out) (g_un Xe) g_pk) fun u2 HB2 _ K2=>?_
 simp only[sQ] at K2⊢
 go_upto_region 5 with fail
 refine Rn K2 HB2 (cG 0 26 [_,_,_,_,_,_,_,_,_,_,_,_] []) (Od8 (g_ld 0 Tryz.underlying26 Z4) (g_fd (fdG2 _)) (g_lo 0 8 uN iN) (g_cl Y9 hI.out) (g_un Xe) g_mv (g_ld 0 Tryz.underlying26 Z4) (g_fd (fdG3 _))<|Oc4 (g_lo 0 12 uN iN) (g_cl Y9 hJ.out) (g_un Xe) g_pk) fun u3 HB3 _ K3=>?_
 simp only[sQ] at K3⊢
 go_upto_region 7 with fail
 refine Rp K3 HB3 [] [(2,10,L0d,some (3,DE dl (.slice none 0 0)))] [(0,39,_),(1,40,_)] [(3,2)] [] [] (Oc4 g_mv (g_bd (bdDl dl)) (g_al 0 Yd) (g_sn 0 Z8)) fun u4 b4_2 HB4 _ K4=>?_
 simp only[sQ] at K4⊢
 go_upto_region 8 with fail
 refine Rn K4 HB4 [(0,11,_)] (Oc1 g_as) fun u5 HB5 _ K5=>?_
 simp only[sQ] at K5⊢
 go_wp2_with fail
 go_loopw [11] (fun s11 wr=> ∃(j:Nat),j<=ss.length/\s11=iI (j:Int)/\Bw w wr/\((j=0/\Bk w.heap.size wr [(true,w.heap.size,GE p q g h),(true,w.heap.size+1,L0d),(true,b4_2,DE dl (.slice none 0 0))])\/ ∃(b c:Nat) (zs:List Value),j<=c/\zs.length=(c -j)*4/\Bk w.heap.size wr [(true,w.heap.size,GE p q g h),(true,w.heap.size+1,L0d),(true,b4_2,DE dl (.slice (some ⟨b,0,none⟩) j c)),(true,b,flN (ns.take j)++zs)])) (fun s11 _=>ss.length -(intOf s11).toNat)
 case atStart=>exact⟨0,Z1,rfl,HB5,.inl ⟨rfl,K5⟩⟩
 case round=>
  obtain⟨j,hj,rfl,HBr,hrow⟩:=hrel
  by_cases hjl:j<ss.length
  ·have hl:decide ((j:Int)<(ss.length:Int))=true:=by simp;omega
   obtain⟨y,ey⟩:=Z3 (ns.getD j 0)
   obtain⟨s,es⟩:=Z3 (ss.getD j 0)
   obtain⟨t,et⟩:=Z3 (ts.getD j 0)
   have hy:=flN_tk ns j Z1
   have hP:=hP.out j hjl
   have hXa:=hixa.out _ hjl
   have hXb:=hixb.out j Z1
   have hRa:=hSa.out.at _ hjl
   have hRb:=hSb.out.at j Z1
   have hga':=hga.resolve_left Z1
   have hgb':=hgb.resolve_left Z1
   have hsl:=Xf (ns.take j)
   rw[List.length_take,show min j ns.length=j by omega] at hsl
   rw[ey] at hy hP
   rw[es] at hP hRa
   rw[et] at hP hRb
   have hy:Hid _:=hy
   have hP:Hid _:=hP
   have hXa:Hid _:=hXa
   have hXb:Hid _:=hXb
   have hRa:Hid _:=hRa
   have hRb:Hid _:=hRb
   obtain⟨ti,hti,hm⟩:=Option.map_eq_some_iff.1 infoNt
   simp only[Prod.mk.injEq] at hm
   obtain⟨hzv,hsz,hby⟩:=hm
   clear ey es et hC hN hS hI hJ
   rcases hrow with⟨hj0,Kr⟩ | ⟨b5,c5,zs,hjc,hzl,Kr⟩
   ·skip
    go_upto_region 9 with fail
    refine Rn Kr HBr (cG 0 41 [_,_,_,_] []) (Oc4 g_mv g_mv (g_ln Tryz.underlying31) (g_bn (fun uZ=>Za _ _ (j:Int) (ss.length:Int) _ uZ hl))) fun u6 HB6 sz6 K6=>?_
    simp only[sQ] at K6⊢
    have hw9:=HB6.size
    go_upto_region 11 with fail
    refine rgZ 15 1 (PZD b4_2 dl u6.heap.size ti.size (j+1) (flN (ns.take j)++LN y)) K6 HB6 HB6.size [.no,.no,.all 15 ([iI dl])] [] [(0,47,.pointer (some ⟨b4_2,1,none⟩)),(1,48,.slice none 0 0),(2,49,GX p q g h),(3,50,.slice sa ss.length ca),(4,51,iI (j:Int)),(5,52,.pointer (some ⟨ga,oa+4*j,none⟩)),(6,53,NV s),(7,54,.slice sb ts.length cb),(8,55,iI (j:Int)),(9,56,.pointer (some ⟨gb,ob+4*j,none⟩)),(10,57,NV t),(11,58,NV y),(14,61,.pointer (some ⟨b4_2,1,none⟩))] [(15,1)] [] [⟨12,59,some 13,P1 (LN y)⟩,⟨13,60,some 15,PG u6.heap.size ti.size (j+1) (flN (ns.take j)++LN y)⟩] [⟨12,59,some 13,P1 (LN y)⟩,⟨13,60,none,PZD b4_2 dl u6.heap.size ti.size (j+1) (flN (ns.take j)++LN y)⟩] [] (.cons (fun _ _ _ h1 h2=>h2.stab h1)<| .cons (fun _ _ _ h1 h2=>h2.stab h1)<|Stab.nil) rfl rfl rfl rfl (by kernel_rfl) ?_ ?_ ?_
    ·exact Od8 (g_fd (fdD1 _)) (g_lc 2 1 lSN) (g_ld 0 Tryz.underlying26 Z4) g_mv g_mv (g_ix hXa.out) (g_lf hRa.out hga' uN iN) g_mv<|Oc7 g_mv (g_ix hXb.out) (g_lf hRb.out hgb' uN iN) (g_cl Y6 hP.out) (g_bR 0 (P1 (LN y)) [0] [NV y] (LN y) (bsN1 _) (fun u hu=>P1.new _ _ u)) (g_pG 0 1 (P1 (LN y)) (n:=j) (xs:=flN (ns.take j)) (news:=LN y) Tryz.underlying31 hti hzv (by rw[hsz];rfl) P1.at hsz.symm (fun f u kZ=>⟨by rw[hsz];omega,.inl ⟨rfl,hj0⟩⟩) (by rw[hby];omega) Z1) (g_fd (fdD1 _))
    ·exact(st_last 2 1 1 (PG u6.heap.size ti.size (j+1) (flN (ns.take j)++LN y)) (PZD b4_2 dl u6.heap.size ti.size (j+1) (flN (ns.take j)++LN y)) st_pg (fun u v _ _ hb hc hv=>st_pz hb hc hv) rfl rfl)
    intro u7 v7_12 hv7_12 v7_13 hv7_13 HB7 sz7 K7
    simp only[sQ] at K7⊢
    obtain⟨⟨b6,c6,zs6,rfl,ho1,ho2,hc6,hz6,hoC⟩,hdC⟩:=hv7_13 rfl
    have K7xrow6:=Bk.moreT K6 K7 Z1 ho1 ho2 hoC (by intro x hx;first | (simp at hx;done) | (simp at hx⊢;omega))
    simp only[aK] at K7xrow6
    rw[hsz] at hz6
    have Kz:=Bk.setC 2 (DE dl (.slice (some ⟨b6,0,none⟩) (j+1) c6)) K7xrow6 rfl hdC
    simp only[List.set_cons_succ,List.set_cons_zero] at Kz
    go_upto_region 10 with fail
    refine Rp Kz HB7 [] [] [(0,45,_),(1,46,_),(2,11,_)] [(2,0)] [(2,11)] [] (Oc3 g_mv (g_bn (fun uZ=>Zu _ _ (j:Int) 1 ((j+1:Nat):Int) uZ Z1 Z1 Z1)) g_as) fun u8 HB8 sz8 K8=>?_
    simp only[sQ] at K8⊢
    go_wp2
    refine⟨⟨j+1,Z1,rfl,HB8,.inr ⟨b6,c6,zs6,hc6,hz6,(by rw[hy.out];exact K8)⟩⟩,?_⟩
    simp[intOf]<;>omega
   ·by_cases hrm:j+1<=c5
    ·rw[<-add_drop4 (xs:=flN (ns.take j)) (zs:=zs)] at Kr
     go_upto_region 9 with fail
     refine Rn Kr HBr (cG 0 41 [_,_,_,_] []) (Oc4 g_mv g_mv (g_ln Tryz.underlying31) (g_bn (fun uZ=>Za _ _ (j:Int) (ss.length:Int) _ uZ hl))) fun u6 HB6 sz6 K6=>?_
     simp only[sQ] at K6⊢
     have hw9:=HB6.size
     go_upto_region 11 with fail
     refine Re K6 HB6 [.no,.no,.all 15 (DE dl (.slice (some ⟨b5,0,none⟩) (j+1) c5)),.all 13 (flN (ns.take j)++LN y++zs.drop 4)] [] (cG 0 47 [_,_,_,_,_,_,_,_,_,_,_,_] [(13,60,_),(14,61,_)]) [(15,1)] [] [⟨12,59,some 13,P1 (LN y)⟩] [] (Od8 (g_fd (fdD1 _)) (g_lc 2 1 lSN) (g_ld 0 Tryz.underlying26 Z4) g_mv g_mv (g_ix hXa.out) (g_lf hRa.out hga' uN iN) g_mv<|Oc8 g_mv (g_ix hXb.out) (g_lf hRb.out hgb' uN iN) (g_cl Y6 hP.out) (g_bR 0 (P1 (LN y)) [0] [NV y] (LN y) (bsN1 _) (fun u hu=>P1.new _ _ u)) (g_pI 3 0 (P1 (LN y)) (xs:=flN (ns.take j)) (ys:=zs.take 4) (zs:=zs.drop 4) (news:=LN y) Tryz.underlying31 hti P1.at LN_one hsz.symm (by rw[hsz];omega) (by rw[List.length_take];simp;omega) hrm) (g_fd (fdD1 _)) (g_sw 2 1 sSN rfl rfl)) fun u7 v7_12 hv7_12 HB7 sz7 K7=>?_
     simp only[sQ] at K7⊢
     go_upto_region 10 with fail
     refine Rp K7 HB7 [] [] [(0,45,_),(1,46,_),(2,11,_)] [(2,0)] [(2,11)] [] (Oc3 g_mv (g_bn (fun uZ=>Zu _ _ (j:Int) 1 ((j+1:Nat):Int) uZ Z1 Z1 Z1)) g_as) fun u8 HB8 sz8 K8=>?_
     simp only[sQ] at K8⊢
     go_wp2
     refine⟨⟨j+1,Z1,rfl,HB8,.inr ⟨b5,c5,zs.drop 4,hrm,(by rw[List.length_drop];omega),(by rw[hy.out];exact K8)⟩⟩,?_⟩
     simp[intOf]<;>omega
    ·have ec:j=c5:=Z1
     subst ec
     go_upto_region 9 with fail
     refine Rn Kr HBr (cG 0 41 [_,_,_,_] []) (Oc4 g_mv g_mv (g_ln Tryz.underlying31) (g_bn (fun uZ=>Za _ _ (j:Int) (ss.length:Int) _ uZ hl))) fun u6 HB6 sz6 K6=>?_
     simp only[sQ] at K6⊢
     have hw9:=HB6.size
     go_upto_region 11 with fail
     refine rgZ 15 1 (PZD b4_2 dl u6.heap.size ti.size (j+1) (flN (ns.take j)++LN y)) K6 HB6 HB6.size [.no,.no,.all 15 ([iI dl])] [] [(0,47,.pointer (some ⟨b4_2,1,none⟩)),(1,48,.slice (some ⟨b5,0,none⟩) j j),(2,49,GX p q g h),(3,50,.slice sa ss.length ca),(4,51,iI (j:Int)),(5,52,.pointer (some ⟨ga,oa+4*j,none⟩)),(6,53,NV s),(7,54,.slice sb ts.length cb),(8,55,iI (j:Int)),(9,56,.pointer (some ⟨gb,ob+4*j,none⟩)),(10,57,NV t),(11,58,NV y),(14,61,.pointer (some ⟨b4_2,1,none⟩))] [(15,1)] [] [⟨12,59,some 13,P1 (LN y)⟩,⟨13,60,some 15,PG u6.heap.size ti.size (j+1) (flN (ns.take j)++LN y)⟩] [⟨12,59,some 13,P1 (LN y)⟩,⟨13,60,none,PZD b4_2 dl u6.heap.size ti.size (j+1) (flN (ns.take j)++LN y)⟩] [true,true,true,false] (.cons (fun _ _ _ h1 h2=>h2.stab h1)<| .cons (fun _ _ _ h1 h2=>h2.stab h1)<|Stab.nil) rfl rfl rfl rfl (by kernel_rfl) ?_ ?_ ?_
     ·exact Od8 (g_fd (fdD1 _)) (g_lc 2 1 lSN) (g_ld 0 Tryz.underlying26 Z4) g_mv g_mv (g_ix hXa.out) (g_lf hRa.out hga' uN iN) g_mv<|Oc7 g_mv (g_ix hXb.out) (g_lf hRb.out hgb' uN iN) (g_cl Y6 hP.out) (g_bR 0 (P1 (LN y)) [0] [NV y] (LN y) (bsN1 _) (fun u hu=>P1.new _ _ u)) (g_pG 0 1 (P1 (LN y)) (n:=j) (xs:=flN (ns.take j)) (news:=LN y) Tryz.underlying31 hti hzv (by rw[hsz];rfl) P1.at hsz.symm (fun f u kZ=>⟨by rw[hsz];omega,.inr ⟨b5,rfl,(KC.cv kZ 3).pre2⟩⟩) (by rw[hby];omega) Z1) (g_fd (fdD1 _))
     ·exact(st_last 2 1 1 (PG u6.heap.size ti.size (j+1) (flN (ns.take j)++LN y)) (PZD b4_2 dl u6.heap.size ti.size (j+1) (flN (ns.take j)++LN y)) st_pg (fun u v _ _ hb hc hv=>st_pz hb hc hv) rfl rfl)
     intro u7 v7_12 hv7_12 v7_13 hv7_13 HB7 sz7 K7
     simp only[sQ] at K7⊢
     obtain⟨⟨b6,c6,zs6,rfl,ho1,ho2,hc6,hz6,hoC⟩,hdC⟩:=hv7_13 rfl
     have K7xrow6:=Bk.moreT K6 K7 Z1 ho1 ho2 hoC (by intro x hx;first | (simp at hx;done) | (simp at hx⊢;omega))
     simp only[aK] at K7xrow6
     rw[hsz] at hz6
     have Kz:=Bk.setC 2 (DE dl (.slice (some ⟨b6,0,none⟩) (j+1) c6)) K7xrow6 rfl hdC
     simp only[List.set_cons_succ,List.set_cons_zero] at Kz
     go_upto_region 10 with fail
     refine Rp Kz HB7 [] [] [(0,45,_),(1,46,_),(2,11,_)] [(2,0)] [(2,11)] [] (Oc3 g_mv (g_bn (fun uZ=>Zu _ _ (j:Int) 1 ((j+1:Nat):Int) uZ Z1 Z1 Z1)) g_as) fun u8 HB8 sz8 K8=>?_
     simp only[sQ] at K8⊢
     go_wp2
     refine⟨⟨j+1,Z1,rfl,HB8,.inr ⟨b6,c6,zs6,hc6,hz6,(by rw[hy.out];exact K8)⟩⟩,?_⟩
     simp[intOf]<;>omega
  ·have hl:decide ((j:Int)<(ss.length:Int))=false:=by simp;omega
   have hjn:j=ns.length:=Z1
   rcases hrow with⟨hj0,Kr⟩ | ⟨b5,c5,zs,hjc,hzl,Kr⟩
   ·omega
   go_upto_region 9 with fail
   refine Rn Kr HBr (cG 0 41 [_,_,_,_] []) (Oc4 g_mv g_mv (g_ln Tryz.underlying31) (g_bn (fun uZ=>Za _ _ (j:Int) (ss.length:Int) _ uZ hl))) fun u6 HB6 sz6 K6=>?_
   simp only[sQ] at K6⊢
   go_upto_region 12 with fail
   refine Rp K6 HB6 [.no,.all 1 (DE dl (.slice (some ⟨b5,0,none⟩) j c5))] [] [(0,62,_),(2,9,_)] [] [] [] (Oc3 (g_ld 2 Tryz.underlying33 Z8) (g_st 1 Z8) g_as) fun u7 HB7 sz7 K7=>?_
   simp only[sQ] at K7⊢
   have c8_0:=((K7.cv 1) 0 _ rfl).1
   have c8_1:=((K7.cv 1) 1 _ rfl).1
   go_wp2
   refine bodyPost_ret (v:= .tuple #[DX dl (.slice (some ⟨b5,0,none⟩) j c5),iI 0]) (by simp[results,Tryz.results54,go_sem,c8_0,c8_1]) rfl ⟨_,rfl,dl_row (K7.lo 3) (K7.lt 3) (K7.cv 3) hjn hjc,HB7⟩
theorem NL.nilI(u:World):NL u (.slice none 0 0) []:=⟨none,0,0,0,rfl,Nat.le_refl _,fun _=>rfl,.inl rfl,.inl rfl,fun j v hj=>by simp[flN] at hj⟩
theorem xDealG(p q g h d:Int)(ss ts:List Int)(v v2:Value)(w:World)(hp:In p)(hq:In q)(hg:In g)(hh:In h)(hv:NL w v ss)(hv2:NL w v2 ts)(hs: ∀z∈ss,In z)(ht: ∀z∈ts,In z)(e0:dlE p q g h d ss ts=0):Calls Tryz.prog 54 #[GX p q g h,iI d,v,v2] w fun e u=> ∃y,e= .returned (.tuple #[DX (dlD p q g h d ss ts) y,iI (dlE p q g h d ss ts)])/\(NL u y (dlC p q g h d ss ts)/\(dlE p q g h d ss ts=0->PQn w.heap.size (dlC p q g h d ss ts) u y))/\Bw w u:=by
 have a':=hv
 have b':=hv2
 obtain⟨sa,ga,oa,ca,rfl,a2,a3,a4,a5,a6⟩:=hv
 obtain⟨sb,gb,ob,cb,rfl,b2,b3,b4,b5,b6⟩:=hv2
 have hc:gOk p q/\(ndB d=true/\shB ss.length ts.length=true)/\isB p q g=true/\isB p q h=true:=by
  unfold dlE at e0
  split at e0
  ·rename_i c1
   split at e0
   ·rename_i c2
    split at e0
    ·rename_i c3
     exact⟨c1,by simpa using c2,by simpa using c3⟩
    ·cases e0
   ·cases e0
  ·cases e0
 obtain⟨c1,⟨c2,c3⟩,c4,c5⟩:=hc
 have hC:=fun u=>Vz p q g h u hp hq c1
 have hS:=fun u=>xShaped sa sb ss.length ts.length ca cb u
 have hN:=fun u=>xNode d u
 have hI:=fun u=>xIsK p q g h g u hp hq hg c4
 have hJ:=fun u=>xIsK p q g h h u hp hq hh c5
 rw[c2] at hN
 rw[c3] at hS
 rw[dlD,dlC,e0,if_pos rfl,if_pos rfl]
 have hb:=shB_iff.1 c3
 have hq3:=c1.q3
 have hp7:=c1.2
 refine(xdl_k p q g h d sa sb ca cb ga oa gb ob ss ts (cmS p q g h ss ts) w hC hN hS hI hJ (fun j hj u=>?_) (NL.ix (u:=w) a4) a5 a6 (NL.ix (u:=w) b4) b5 b6 (W4 _ _ _ _ _ _) Z1 Z1 Z1).mono fun e u ⟨y,e1,h1,h2⟩=>⟨y,e1,⟨h1.nl,fun _=>h1⟩,h2⟩
 have e:(cmS p q g h ss ts).getD j 0=g^((ss.getD j 0)%q).toNat%p*(h^((ts.getD j 0)%q).toNat%p)%p:=by
  rw[cmS,W0 hj,Te c4 c5]
 rw[e]
 exact xPair p q g h _ _ u hp hq hg hh (Yb hs j hj) (Yb ht j Z1) Z1 Z1
theorem ent_J1:EnT 41:=fun _ _=>by kernel_rfl
theorem ent_J2:EnT 40:=fun _ _=>by kernel_rfl
def PNj(ns:List Int)(u:World)(v:Value):Prop:=NL u v ns
theorem PNj.stab{ns:List Int}{u u2:World}{x:Value}(hB:Bw u u2)(h:PNj ns u x):PNj ns u2 x:=NL.up h hB
theorem fdDo(b o:Nat)(w:World):(Instr.fieldAt 33 (.pointer (some ⟨b,o,none⟩)) 0).run Tryz.prog w= .ok (.pointer (some ⟨b,o+0,none⟩)) w:=by go_simp
theorem together_core(p q g h:Int)(sl:Option Addr)(gb go n cap m:Nat)(dn:Nat->Int)(sy:Nat->Option Addr)(ns aa:Nat->List Int)(cy gy oy mx:Nat->Nat)(cs:List Int)(w:World)(hD:Hid (DM w sl gb go n cap dn sy ns cy gy oy))(hn0:0<n)(hn:n<=1000)(hm0:mx 0=0)(hms:Hid (∀j,j<n->max (mx j:Int) ((ns j).length:Int)=(mx (j+1):Int)))(hmn:mx n=m)(hm6:m<=100)(hcl:Hid (cs.length=m))(hAll:Hid (∀k,k<m-> ∀u,Bw w u->Calls Tryz.prog 41 #[iI (k:Int),.slice sl n cap] u fun e u'=> ∃v,e= .returned v/\PNj (aa k) u' v/\Bw u u'))(hMul:Hid (∀k,k<m-> ∀u y,Bw w u->PNj (aa k) u y->CC 40 #[GX p q g h,y] u (.tuple #[NV (cs.getD k 0),iI 0]))):
 Calls Tryz.prog 16 #[GX p q g h,.slice sl n cap] w fun e' w'=> ∃y,e'= .returned (DX (dn 0) y)/\PRw w.heap.size cs w' y/\Bw w w':=by
 go_enter Tryz.func16,Tryz.ntmps16
 go_upto_region 1 with fail
 obtain⟨v0,hC,HB0,K0⟩:=bx2 w (GE p q g h) 26 L0d 33
 rw[hC]
 clear hC
 refine Rn K0 HB0 [(0,5,_)] (Oc1 g_as) fun u1 HB1 _ K1=>?_
 simp only[sQ] at K1⊢
 go_upto_region 2 with fail
 refine Rn K1 HB1 (cG 0 10 [_,_,_] []) (Oc3 g_mv (g_ln Tryz.underlying27) g_mv) fun u2 HB2 _ K2=>?_
 simp only[sQ] at K2⊢
 go_wp2_with fail
 go_loopw [12,5] (fun s12 s5 wr=> ∃(k:Nat),k<=n/\s12=iI (k:Int)/\s5=iI (mx k:Int)/\Bw w wr/\CV wr (w.heap.size) (GE p q g h)/\w.heap.size<wr.heap.size/\CV wr (w.heap.size+1) (L0d)/\w.heap.size+1<wr.heap.size) (fun s12 _ _=>n -(intOf s12).toNat)
 case atStart=>exact⟨0,Z1,rfl,by rw[hm0];rfl,HB2,(K2.cv 0),(K2.lt 0),(K2.cv 1),(K2.lt 1)⟩
 case round=>
  obtain⟨k,hk,rfl,rfl,HBr,C0,lC0,C1,lC1⟩:=hrel
  have hnK:=K2.n
  simp at hnK
  by_cases hj:k<n
  ·have hl:decide ((k:Int)<(n:Int))=true:=by simp;omega
   have hX:=hD.out.ix k hj
   have hX:Hid _:=hX
   have hR:=hD.out.at_ k hj
   have hR:Hid _:=hR
   have hg':=hD.out.lt.resolve_left Z1
   have hmx:=hms.out k hj
   have hmx:Hid _:=hmx
   have K2_1:Bk w.heap.size wr [(false,w.heap.size,GE p q g h),(true,w.heap.size+1,L0d)]:=⟨.c lC0 C0<| .o lC1 (K2.lo 1) C1<|trivial,by simp<;>omega⟩
   go_upto_region 3 with fail
   refine Rn K2_1 HBr [(0,13,_)] (Oc1 (g_bn (fun uZ=>Za _ _ (k:Int) (n:Int) _ uZ hl))) fun u3 HB3 sz3 K3=>?_
   simp only[sQ] at K3⊢
   go_upto_region 4 with fail
   refine Rp K3 HB3 [] [(2,7,L0d,some (3,DE (dn k) (.slice (sy k) (ns k).length (cy k))))] [(0,14,_),(1,15,_)] [(3,2)] [] [] (Oc4 (g_ix hX.out) (g_lf hR.out hg' Tryz.underlying33 Z8) (g_al 0 Yd) (g_sn 0 Z8)) fun u4 b4_2 HB4 sz4 K4=>?_
   simp only[sQ] at K4⊢
   go_upto_region 5 with fail
   refine Rp K4 HB4 [] [] (cG 0 16 [_,_,_,_,_] [(5,5,_)]) [(5,0)] [(5,5)] [] (Oc6 g_mv (g_fd (fdD1 _)) (g_lc 2 1 lSN) (g_ln Tryz.underlying31) (g_mx hmx.out) g_as) fun u5 HB5 sz5 K5=>?_
   simp only[sQ] at K5⊢
   go_upto_region 6 with fail
   refine Rp K5 HB5 [] [] [(0,21,_),(1,12,_)] [(1,0)] [(1,12)] [] (Oc2 (g_bn (fun uZ=>Zu _ _ (k:Int) 1 ((k+1:Nat):Int) uZ Z1 Z1 Z1)) g_mv) fun u6 HB6 sz6 K6=>?_
   simp only[sQ] at K6⊢
   go_wp2
   refine⟨⟨k+1,Z1,rfl,rfl,HB6,(K6.cv 0),(K6.lt 0),(K6.cv 1),(K6.lt 1)⟩,?_⟩
   simp[intOf]<;>omega
  ·have hl:decide ((k:Int)<(n:Int))=false:=by simp;omega
   have hkn:mx k=m:=by rw[show k=n by omega];exact hmn
   rw[hkn]
   clear hkn
   have K2_1:Bk w.heap.size wr [(false,w.heap.size,GE p q g h),(true,w.heap.size+1,L0d)]:=⟨.c lC0 C0<| .o lC1 (K2.lo 1) C1<|trivial,by simp<;>omega⟩
   go_upto_region 3 with fail
   refine Rn K2_1 HBr [(0,13,_)] (Oc1 (g_bn (fun uZ=>Za _ _ (k:Int) (n:Int) _ uZ hl))) fun u3 HB3 sz3 K3=>?_
   simp only[sQ] at K3⊢
   have hw0:w.heap.size<=u3.heap.size:=HB3.size
   go_upto_region 7 with fail
   refine Rf K3 HB3 [] [] [(0,22,_)] [] [] [⟨1,23,some 2,PRz u3.heap.size m⟩,⟨2,8,none,PRz u3.heap.size m⟩] [] (Oc3 g_mv (g_mS 0 (PRz u3.heap.size m) m (flN (List.replicate m 0)) (mkNt _ Z1) (fun u h=>PRz.new u h)) (g_sE 0 1 (PRz u3.heap.size m))) fun u4 v4_1 hv4_1 v4_2 hv4_2 HB4 sz4 K4=>?_
   simp only[sQ] at K4⊢
   obtain⟨bo,rfl,o1,o2,o3⟩:=hv4_2 rfl
   have K4xo:=Bk.more3 K3 K4 o1 o2 o3 (by intro x hx;first | (simp at hx;done) | (simp at hx⊢;omega))
   simp only[aK] at K4xo
   have hbo:w.heap.size<=bo:=Nat.le_trans hw0 o1
   go_upto_region 8 with fail
   refine Rn K4xo HB4 (cG 0 24 [_,_,_] []) (Oc3 g_mv (g_ln Tryz.underlying31) g_mv) fun u5 HB5 sz5 K5=>?_
   simp only[sQ] at K5⊢
   go_wp2_with fail
   go_loopw [26] (fun s26 wr=> ∃(i:Nat),i<=m/\s26=iI (i:Int)/\Bw w wr/\CV wr (w.heap.size) (GE p q g h)/\w.heap.size<wr.heap.size/\CV wr (w.heap.size+1) (L0d)/\w.heap.size+1<wr.heap.size/\CV wr bo (flN (rowN cs i))/\bo<wr.heap.size) (fun s26 _=>m -(intOf s26).toNat)
   case atStart=>exact⟨0,Z1,rfl,HB5,(K5.cv 0),(K5.lt 0),(K5.cv 1),(K5.lt 1),by rw[rowN_0,hcl.out];exact(K5.cv 2),(K5.lt 2)⟩
   case round=>
    obtain⟨i,hi,rfl,HBq,E0,lE0,E1,lE1,E2,lE2⟩:=hrel
    obtain⟨wq,rfl⟩:=Zr wr
    have hnK:=K5.n
    simp at hnK
    by_cases hj:i<m
    ·have hl:decide ((i:Int)<(m:Int))=true:=by simp;omega
     have hkx:i<cs.length:=by rw[hcl.out];exact hj
     have hA:=hAll.out i hj
     have hA:Hid _:=hA
     have hM:=hMul.out i hj
     have hXL:=rowN_len (vs:=cs) (k:=i) Z1
     have hNx:=V3 (vs:=cs) (k:=i) Z1
     rw[W5 (vs:=cs) (k:=i) Z1] at E2
     obtain⟨X,eX⟩:=Z3 (flN (List.take i cs))
     obtain⟨Z,eZ⟩:=Z3 (flN (List.replicate (List.length cs -(i+1)) 0))
     rw[eX] at hXL hNx E2
     rw[eZ] at hNx E2
     clear eX eZ
     obtain⟨c,ec⟩:=Z3 (cs.getD i 0)
     rw[ec] at hM hNx
     clear ec hkx
     have hXL:Hid _:=hXL
     have hNx:Hid _:=hNx
     have hM:Hid _:=hM
     have K5_2:Bk w.heap.size wq [(false,w.heap.size,GE p q g h),(true,w.heap.size+1,L0d),(true,bo,X++LN 0++Z)]:=⟨.c lE0 E0<| .o lE1 (K5.lo 1) E1<| .o lE2 Z1 E2<|trivial,by simp<;>omega⟩
     go_upto_region 9 with fail
     refine Rn K5_2 HBq [(0,27,_)] (Oc1 (g_bn (fun uZ=>Za _ _ (i:Int) (m:Int) _ uZ hl))) fun u6 HB6 sz6 K6=>?_
     simp only[sQ] at K6⊢
     go_upto_region 10 with fail
     refine Rn K6 HB6 [(0,28,_),(1,9,_)] (Oc2 g_mv g_as) fun u7 HB7 sz7 K7=>?_
     simp only[sQ] at K7⊢
     go_upto_region 11 with fail
     refine Re K7 HB7 [.no,.no,.all 11 (X++LN c++Z)] [] (cG 0 30 [_,_,_,_,_] [(6,36,_),(7,29,_),(8,37,_),(9,38,_),(10,39,_)]) [] [] [⟨5,35,some 6,PNj (aa i)⟩] [] (Od8 g_mv g_mv (g_ld 0 Tryz.underlying26 Z4) g_mv g_mv (g_cE 0 (PNj (aa i)) ent_J1 (fun u hB hs=>hA.out u hB)) (g_cWg 0 (PNj (aa i)) (fun y=>[GX p q g h,y]) ent_J2 (fun u y bZ hy=>hM.out u y bZ hy)) g_mv<|Oc4 g_ex g_ex (g_ix (ixZ _ _ _ i hj)) (g_sm 2 (4*i) X (LN 0) Z (post:=LN c) (hxc:=hXL.out) iN)) fun u8 v8_5 hv8_5 HB8 _ K8=>?_
     simp only[sQ] at K8⊢
     go_upto_region 12 with fail
     refine Rp K8 HB8 [] [] [(0,40,_),(1,26,_)] [(1,0)] [(1,26)] [] (Oc2 (g_bn (fun uZ=>Zu _ _ (i:Int) 1 ((i+1:Nat):Int) uZ Z1 Z1 Z1)) g_mv) fun u9 HB9 _ K9=>?_
     simp only[sQ] at K9⊢
     go_wp2
     refine⟨⟨i+1,Z1,rfl,HB9,(K9.cv 0),(K9.lt 0),(K9.cv 1),(K9.lt 1),by rw[hNx.out];exact(K9.cv 2),(K9.lt 2)⟩,?_⟩
     simp[intOf]<;>omega
    ·have hl:decide ((i:Int)<(m:Int))=false:=by simp;omega
     have hkn:i=cs.length:=by rw[hcl.out];omega
     rw[hkn,rowN_end] at E2
     clear hkn
     have hX:=hD.out.ix 0 hn0
     have hX:Hid _:=hX
     have hg':=hD.out.lt.resolve_left Z1
     have hR:=(hD.out.at_ 0 hn0) 0 _ rfl
     have hR:Hid _:=hR
     have K5_2:Bk w.heap.size wq [(false,w.heap.size,GE p q g h),(true,w.heap.size+1,L0d),(true,bo,flN cs)]:=⟨.c lE0 E0<| .o lE1 (K5.lo 1) E1<| .o lE2 Z1 E2<|trivial,by simp<;>omega⟩
     go_upto_region 9 with fail
     refine Rn K5_2 HBq [(0,27,_)] (Oc1 (g_bn (fun uZ=>Za _ _ (i:Int) (m:Int) _ uZ hl))) fun u6 HB6 sz6 K6=>?_
     simp only[sQ] at K6⊢
     go_upto_region 13 with fail
     refine Rp K6 HB6 [.no,.all 6 (DE (dn 0) (.slice (some ⟨bo,0,none⟩) m m))] [] (cG 0 41 [_,_,_,_,_,_] []) [] [] [] (Oc7 g_mv (g_ix hX.out) (g_fd (fdDo _ _)) (g_lg gb (go+2*0+0) lI (hR.out) (hg')) g_mv (g_bd (bdDq (dn 0) _ _ _)) (g_st 1 Z8)) fun u7 HB7 sz7 K7=>?_
     simp only[sQ] at K7⊢
     have c0:=((K7.cv 1) 0 _ rfl).1
     have c1:=((K7.cv 1) 1 _ rfl).1
     go_wp2
     exact bodyPost_ret (v:=DX (dn 0) (.slice (some ⟨bo,0,none⟩) m m)) (by simp[results,Tryz.results16,go_sem,c0,c1]) rfl ⟨_,rfl,⟨bo,by rw[hcl.out],hbo,(K7.lt 2),(K7.cv 2)⟩,HB7⟩
end
end Go.Proofs.YtoffgfhilkpdpaaGreatDoor
