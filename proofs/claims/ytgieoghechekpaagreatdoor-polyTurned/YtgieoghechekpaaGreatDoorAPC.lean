import Derived.Test.YtgieoghechekpaaGreatDoorAP7
namespace Go.Proofs.YtgieoghechekpaaGreatDoor
set_option linter.unusedVariables false
set_option linter.unusedSimpArgs false
set_option maxRecDepth 100000
set_option maxHeartbeats 4000000
open Go.RowKit
def tab(n:Nat)(f:Nat->Int):List Int:=(List.range n).map f
theorem tab_len(n:Nat)(f:Nat->Int):(tab n f).length=n:=by simp[tab]
theorem tab_get{n:Nat}{f:Nat->Int}{i:Nat}(h:i<n):(tab n f).getD i 0=f i:=by simp[tab,List.getElem?_map,List.getElem?_range h]
def fa1(q t:Int)(ns vs:List Int):List Int:=tab ns.length fun i=>vs.getD i 0*ahN q t ns i%q
def fac(q t:Int)(ns vs:List Int):List Int:=tab ns.length fun i=>(vs.getD i 0*ahN q t ns i%q)*bhN q t ns (ns.length -1 -i)%q
theorem fac_len(q t:Int)(ns vs:List Int):(fac q t ns vs).length=ns.length:=tab_len _ _
theorem fac_get{q t:Int}{ns vs:List Int}{i:Nat}(h:i<ns.length):(fac q t ns vs).getD i 0=(vs.getD i 0*ahN q t ns i%q)*bhN q t ns (ns.length -1 -i)%q:=tab_get h
theorem getD_mem{ns:List Int}(h: ∀z∈ns,In z): ∀k,k<ns.length->In (ns.getD k 0):=fun k hk=>h _ (by simp[List.getElem?_eq_getElem hk])
theorem NL.ix{u:World}{sl:Option Addr}{gb go cap:Nat}{ns:List Int}(h:ns=[]\/sl=some ⟨gb,go,none⟩): ∀j,j<ns.length-> ∀W,(Instr.indexAt 25 (.slice sl ns.length cap) (.int .i64 j)).run Tryz.prog W= .ok (.pointer (some ⟨gb,go+4*j,none⟩)) W:=fun j hj W=>by
 obtain rfl:=h.resolve_left (fun e=>by subst e;simp at hj)
 exact ixS gb go ns.length cap j hj W
theorem PtL.ix{sl:Option Addr}{gb go cap:Nat}{ps:List (Int×Int)}(h:ps=[]\/sl=some ⟨gb,go,none⟩): ∀j,j<ps.length-> ∀W,(Instr.indexAt 31 (.slice sl ps.length cap) (.int .i64 j)).run Tryz.prog W= .ok (.pointer (some ⟨gb,go+8*j,none⟩)) W:=fun j hj W=>by
 obtain rfl:=h.resolve_left (fun e=>by subst e;simp at hj)
 exact ixP gb go ps.length cap j hj W
theorem cPolyn{q:Int}{sl:Option Addr}{n cap:Nat}{w:World}(hG:GP w)(hq:In q)(hq2:2<=q)(hn:n<=256)(h1:1<=n): ∀u,Bw w u->CC 27 #[NV q,.slice sl n cap] u .nilIface:=fun u hB=>by
 refine(pPolynomial q sl n cap u (hG.below hB) hq hn).mono ?_
 rintro e u' ⟨y,rfl,hy,hB'⟩
 rw[decide_eq_false (show ¬q<2 by omega),decide_eq_false (show ¬n<1 by omega)] at hy
 obtain rfl:=hy.no
 exact⟨rfl,hB'⟩
theorem cPtsOf{q:Int}{n:Nat}{w:World}(hG:GP w)(hq:In q)(hq2:2<=q)(hn:n<=256)(h1:1<=n): ∀u,Bw w u->CC 39 #[NV q,.int .i64 (n:Int)] u .nilIface:=fun u hB=>by
 refine(pPointsOf q n u (hG.below hB) hq hn).mono ?_
 rintro e u' ⟨y,rfl,hy,hB'⟩
 rw[decide_eq_false (show ¬q<2 by omega),decide_eq_false (show ¬n<1 by omega)] at hy
 obtain rfl:=hy.no
 exact⟨rfl,hB'⟩
theorem pValue(q x:Int)(ns:List Int)(v:Value)(w:World)(hq:In q)(hq0:q≠0)(hx:In x)(hv:NL w v ns)(hns: ∀z∈ns,In z)(hl:ns.length<=1000):
 CC 29 #[NV q,v,NV x] w (NV (hoN q x ns ns.length)):=by
 obtain⟨sl,gb,go,cap,rfl,h2,h3,h4,h5,h6⟩:=hv
 exact pValue_core q x sl gb go cap ns w hq hq0 hx (NL.ix (u:=w) h4) h5 h6 (getD_mem hns) hl
theorem cEval(q x:Int)(ns:List Int)(v:Value)(w:World)(hG:GP w)(hq:In q)(hq2:2<=q)(hx:In x)(hv:NL w v ns)(hns: ∀z∈ns,In z)(h1:1<=ns.length)(hl:ns.length<=256):
 CC 8 #[NV q,v,NV x] w (.tuple #[NV (hoN q x ns ns.length),.int .i64 0]):=by
 have hv':=hv
 obtain⟨sl,gb,go,cap,rfl,_⟩:=hv
 exact eval_ok q x _ sl _ cap w (cPolyn hG hq hq2 hl h1) (fun u hB=>pValue q x ns _ u hq (by omega) hx (hv'.up hB) hns (by omega))
def pts(q:Int)(ns xs:List Int):List (Int×Int):=xs.map fun x=>(x,hoN q x ns ns.length)
theorem pts_len(q:Int)(ns xs:List Int):(pts q ns xs).length=xs.length:=by simp[pts]
theorem Zz{q:Int}{ns xs:List Int}{k:Nat}(h:k<xs.length):(pts q ns xs).getD k (0,0)=(xs.getD k 0,hoN q (xs.getD k 0) ns ns.length):=by
 simp[pts,List.getElem?_map,List.getElem?_eq_getElem h]
theorem pts_fst(q:Int)(ns xs:List Int):(pts q ns xs).map Prod.fst=xs:=by simp[pts,Function.comp_def]
theorem cPoints(q:Int)(ns xs:List Int)(v vx:Value)(w:World)(hG:GP w)(hq:In q)(hq2:2<=q)(hv:NL w v ns)(hns: ∀z∈ns,In z)(h1:1<=ns.length)(hl:ns.length<=256)(hvx:IL w vx xs)(hx: ∀x∈xs,0<=x/\x<=9223372036854775807)(hxl:xs.length<=256):
 Calls Tryz.prog 10 #[NV q,v,vx] w fun e u=> ∃y,e= .returned (.tuple #[y,.int .i64 0])/\PRp w.heap.size (pts q ns xs) u y/\Bw w u:=by
 have hv':=hv
 have hvx':=hvx
 obtain⟨sl,gb,go,cap,rfl,_⟩:=hv
 obtain⟨si,gi,oi,ci,rfl,i2,i3,i4,i5,i6⟩:=hvx
 have hg: ∀k,k<xs.length->0<=xs.getD k 0/\xs.getD k 0<=9223372036854775807:=fun k hk=>hx _ (by simp[List.getElem?_eq_getElem hk])
 refine points_ok q sl si _ cap gi oi ci xs _ (fun k=>hoN q (xs.getD k 0) ns ns.length) w (by omega) (cPolyn hG hq hq2 hl h1) (fun u hB=>?_) (pts_len q ns xs) (fun k hk=>Zz hk) (fun h=>⟨i4.resolve_left (fun e=>by subst e;simp at h),i5.resolve_left (by omega)⟩) i6 hg (fun k u hk hB=>?_)
 ·refine(pPlaces xs _ u (hG.below hB) hxl (fun x h=>⟨by have:=(hx x h).1;omega,(hx x h).2⟩) (hvx'.up hB)).mono ?_
  rintro e u' ⟨y,rfl,hy,hB'⟩
  rw[poS_of (fun j hj=>(hg j hj).1)] at hy
  obtain rfl:=AE.no hy
  exact⟨rfl,hB'⟩
 ·have:=hg k hk
  exact pValue q _ ns _ u hq (by omega) ⟨this.1,by have:=this.2;omega⟩ (hv'.up hB) hns (by omega)
theorem inv_In{q a v:Int}(hq:In q)(h:IsInv a q v):In v:=In_le hq h.1 (by have:=h.2.1;omega)
theorem cBaseOf(q:Int)(ns vs:List Int)(sl:Option Addr)(cap:Nat)(w:World)(hq:In q)(hq2:2<=q)(hv:NL w (.slice sl ns.length cap) ns)(hns: ∀z∈ns,In z)(hl:ns.length<=256)(hi:Invs q ns vs):
 Calls Tryz.prog 40 #[NV q,.slice sl ns.length cap] w fun e u=> ∃vd,e= .returned (.tuple #[BX q (.slice sl ns.length cap) vd,.nilIface])/\PRw w.heap.size vs u vd/\Bw w u:=by
 obtain⟨sl',gb,go,cap',e,h2,h3,h4,h5,h6⟩:=hv
 cases e
 exact baseOf_core q sl gb go cap ns vs w hq (by omega) hi.1 hi.2 (NL.ix (u:=w) h4) h5 h6 (getD_mem hns) (by omega)
theorem cFactorsB(q t:Int)(ns vs:List Int)(sx:Option Addr)(cx bd:Nat)(w:World)(hq:In q)(hq2:2<=q)(ht:In t)(hv:NL w (.slice sx ns.length cx) ns)(hns: ∀z∈ns,In z)(hl:ns.length<=256)(hi:Invs q ns vs)(hb:bd<w.heap.size)(hK:CV w bd (flN vs)):
 Calls Tryz.prog 41 #[BX q (.slice sx ns.length cx) (.slice (some ⟨bd,0,none⟩) vs.length vs.length),NV t] w fun e u=> ∃y,e= .returned y/\PRw w.heap.size (fac q t ns vs) u y/\Bw w u:=by
 obtain⟨sl',gx,ox,cap',e,h2,h3,h4,h5,h6⟩:=hv
 cases e
 obtain⟨hil,hii⟩:=hi
 rw[hil]
 refine factors_core q t sx (some ⟨bd,0,none⟩) gx ox cx bd 0 ns.length ns vs (fa1 q t ns vs) (fac q t ns vs) w hq (by omega) ht (NL.ix (u:=w) h4) h5 h6 (getD_mem hns) (by omega) (fun j hj W=>?_) (.inr hb) (fun j v hj=>by rw[Nat.zero_add];exact(hK j v hj).1) (fun k hk=>inv_In hq (hii k hk)) hil (tab_len _ _) (by rw[fac_len];exact(tab_len _ _).symm) (fun i hi=>tab_get hi) (fun i hi=>?_)
 ·rw[Nat.zero_add];exact ixZ bd ns.length ns.length j hj W
 ·rw[fac_get hi,fa1,tab_get hi]
theorem row_nl{u:World}{b:Nat}{ns:List Int}(h2:b<u.heap.size)(h3:CV u b (flN ns)):NL u (.slice (some ⟨b,0,none⟩) ns.length ns.length) ns:=
 ⟨_,b,0,_,rfl,Nat.le_refl _,(by simp),.inr rfl,.inr h2,fun j v hj=>by rw[Nat.zero_add];exact(h3 j v hj).1⟩
theorem fac_In{q t:Int}{ns vs:List Int}(hq:In q)(hq0:q≠0): ∀k,k<(fac q t ns vs).length->In ((fac q t ns vs).getD k 0):=fun k hk=>by
 rw[fac_len] at hk
 rw[fac_get hk];exact Zd hq hq0
theorem cSumB(q t:Int)(ns vs:List Int)(ps:List (Int×Int))(v:Value)(sx:Option Addr)(cx bd:Nat)(w:World)(hq:In q)(hq2:2<=q)(ht:In t)(hx:NL w (.slice sx ns.length cx) ns)(hns: ∀z∈ns,In z)(hl:ns.length<=256)(hi:Invs q ns vs)(hb:bd<w.heap.size)(hK:CV w bd (flN vs))(hv:PtL w v ps)(hps: ∀p∈ps,In p.2)(hpl:ns.length=ps.length):
 CC 46 #[BX q (.slice sx ns.length cx) (.slice (some ⟨bd,0,none⟩) vs.length vs.length),NV t,v] w (NV (smN q (fac q t ns vs) ps ps.length)):=by
 have hq0:q≠0:=by omega
 have hp1:ps.length<=1000:=by omega
 obtain⟨sl,gb,go,cap,rfl,h2,h3,h4,h5,h6⟩:=hv
 have hfl:(fac q t ns vs).length=ps.length:=by rw[fac_len,hpl]
 have hc:=fun u (hB:Bw w u)=>cFactorsB q t ns vs sx cx bd u hq hq2 ht (hx.up hB) hns hl hi (Nat.lt_of_lt_of_le hb hB.size) (hK.below hB hb)
 rw[hi.1] at hc⊢
 have hz:=sum_core q t sx (some ⟨bd,0,none⟩) sl cx ns.length gb go cap ns (fac q t ns vs) ps w hq hq0 (PtL.ix h4) h5 h6 hp1 hc hfl (fac_In hq hq0) (fun k hk=>hps _ (by simp[List.getElem?_eq_getElem hk]))
 rw[hfl] at hz
 exact hz
theorem cCombine(q t:Int)(vs:List Int)(ps:List (Int×Int))(v:Value)(w:World)(hG:GP w)(hq:In q)(hq2:2<=q)(ht:In t)(hv:PtL w v ps)(hps: ∀p∈ps,In p.1/\In p.2)(h1:1<=ps.length)(hl:ps.length<=256)(hi:Invs q (ps.map Prod.fst) vs):
 CC 37 #[NV q,NV t,v] w (.tuple #[NV (smN q (fac q t (ps.map Prod.fst) vs) ps ps.length),.int .i64 0]):=by
 have hv':=hv
 obtain⟨sl,gb,go,cap,rfl,_⟩:=hv
 have hxl:(ps.map Prod.fst).length=ps.length:=by simp
 have hxs: ∀z∈ps.map Prod.fst,In z:=fun z hz=>by
  obtain⟨p,hp,rfl⟩:=List.mem_map.1 hz
  exact(hps p hp).1
 refine combineOk q t _ sl _ cap (ps.map Prod.fst) vs w (cPtsOf hG hq hq2 hl h1) (fun u hB=>?_) (fun u bx hB hb hK=>?_) (fun u bx bd hB hb hd hKx hKd=>?_)
 ·obtain⟨sl',gb',go',cap',e,h2,h3,h4,h5,h6⟩:=hv'.up hB
  cases e
  exact allX_core sl gb' go' cap ps (ps.map Prod.fst) u hxl (fun k hk=>by simp[List.getElem?_map,List.getElem?_eq_getElem hk]) (PtL.ix h4) h5 h6 (by omega)
 ·exact cBaseOf q _ vs _ _ u hq hq2 (row_nl hb hK) hxs (by omega) hi
 ·exact cSumB q t _ vs ps _ _ _ bd u hq hq2 ht (row_nl hb hKx) hxs (by omega) hi hd hKd (hv'.up hB) (fun p hp=>(hps p hp).2) hxl
theorem xaddG_lt(a b m0 m1 m2 m3 r0 r1 r2 r3 ec:Int)(w:World)(ha:In a)(hb:In b)(hR:Hid (∀u,CC 25 #[WV (a+b),A4 m0 m1 m2 m3] u (.tuple #[A4 r0 r1 r2 r3,.int .i64 ec])))(hl:a+b<115792089237316195423570985008687907853269984665640564039457584007913129639936):CC 23 #[NV a,NV b,A4 m0 m1 m2 m3] w (.tuple #[A4 r0 r1 r2 r3,.int .i64 ec]):=by
 have hi:In (a+b):=⟨by have:=ha.1;have:=hb.1;omega,hl⟩
 go_enter Tryz.func23,Tryz.ntmps23
 go_upto_region 1 with fail
 generalize hC:((((w.alloc (.cells (LN a:List Value).toArray 24)).alloc (.cells (LN b:List Value).toArray 24)).alloc (.cells ([.int .u64 m0,.int .u64 m1,.int .u64 m2,.int .u64 m3]:List Value).toArray 24)).alloc (.cells (L0s:List Value).toArray 24))=v0 at *
 have HB0:Bw w v0:=by rw[<-hC];exact Z0 (Z0 (Z0 (Z0 (Z2 w) _) _) _) _
 have K0:Bk w.heap.size v0 [(true,w.heap.size,LN a),(true,w.heap.size+1,LN b),(true,w.heap.size+1+1,[.int .u64 m0,.int .u64 m1,.int .u64 m2,.int .u64 m3]),(true,w.heap.size+1+1+1,L0s)]:=by rw[<-hC];exact(Bk.nil _ w).ad.ad.ad.ad
 clear hC
 refine rgP K0 HB0 HB0.size [] [(6,8,L0s,some (7,LN (a+b)))] [(0,12,NV a),(1,13,NV b),(2,14,.tuple #[NV (a+b),.bool false]),(3,11,.tuple #[NV (a+b),.bool false]),(4,15,NV (a+b)),(5,16,.bool false),(8,9,.bool false)] [(7,6)] [] [false,false] ?_ ?_
 ·exact oc (g_ld 0 uN iN)<|oc (g_ld 1 uN iN)<|oc (g_cl Zr (fun uZ=>nrAdd_lt a b uZ ha hb hl))<|oc g_mv<|oc g_ex<|oc g_ex<|oc (g_al 0 aN)<|oc (g_sn 0 iN)<|oc g_as on
 intro u1 b1_6 HB1 sz1 K1
 simp only[sQ] at K1⊢
 clear K0 HB0
 go_upto_region 2 with fail
 refine rgP K1 HB1 HB1.size [] [(2,10,L0w,some (3,LW (a+b)))] [(0,17,NV (a+b)),(1,18,WV (a+b))] [(3,2)] [] [true,true,false] ?_ ?_
 ·exact oc (g_ld 2 uN iN)<|oc (g_cl Zb (fun uZ=>nrWiden (a+b) uZ hi))<|oc (g_al 0 aW)<|oc (g_sn 0 iW) on
 intro u2 b2_2 HB2 sz2 K2
 simp only[sQ] at K2⊢
 clear K1 HB1
 go_upto_region 5 with fail
 refine rgP K2 HB2 HB2.size [.no,.all 5 ([.int .u64 r0,.int .u64 r1,.int .u64 r2,.int .u64 r3])] [] [(0,21,WV (a+b)),(1,22,.agg #[.int .u64 m0,.int .u64 m1,.int .u64 m2,.int .u64 m3]),(2,23,.tuple #[A4 r0 r1 r2 r3,.int .i64 ec]),(3,24,A4 r0 r1 r2 r3),(4,25,.int .i64 ec),(6,7,.int .i64 ec)] [] [] [false,true,false] ?_ ?_
 ·exact oc (g_ld 2 uW iW)<|oc (g_ld 0 uN iN)<|oc (g_cl Z9 (fun uZ=>hR.out uZ))<|oc g_ex<|oc g_ex<|oc (g_st 1 iN)<|oc g_as on
 intro u3 HB3 sz3 K3
 simp only[sQ] at K3⊢
 clear K2 HB2
 have c6:=(K3.cv 0).n4
 go_wp2
 refine bodyPost_ret (v:= .tuple #[A4 r0 r1 r2 r3,.int .i64 ec]) (by simp[results,Tryz.results23,go_sem,c6]) rfl ⟨rfl,HB3⟩
theorem xaddG_ge(a b m0 m1 m2 m3 r0 r1 r2 r3 ec:Int)(w:World)(ha:In a)(hb:In b)(hR:Hid (∀u,CC 25 #[WV (a+b),A4 m0 m1 m2 m3] u (.tuple #[A4 r0 r1 r2 r3,.int .i64 ec])))(hl:115792089237316195423570985008687907853269984665640564039457584007913129639936<=a+b):CC 23 #[NV a,NV b,A4 m0 m1 m2 m3] w (.tuple #[A4 r0 r1 r2 r3,.int .i64 ec]):=by
 have ha2:=ha.2;have hb2:=hb.2
 obtain⟨s,hs⟩: ∃s,a+b -115792089237316195423570985008687907853269984665640564039457584007913129639936=s:=⟨_,rfl⟩
 have hA:WV (a+b)=A8 (D0 s) (D1 s) (D2 s) (D3 s) 1 0 0 0:=WV_of (a+b) (D0 s) (D1 s) (D2 s) (D3 s) 1 0 0 0 (W_D0 s) (W_D1 s) (W_D2 s) (W_D3 s) ⟨by omega,by omega⟩ W_0 W_0 W_0 (by rw[V_In ⟨by omega,by omega⟩];simp[V];omega)
 rw[hA] at hR
 have nA:Hid (∀u,CC 42 #[NV a,NV b] u (.tuple #[NV s,.bool true])):=fun u=>by rw[<-hs];exact nrAdd_ge a b u ha hb hl
 clear hs hA ha2 hb2
 go_enter Tryz.func23,Tryz.ntmps23
 go_upto_region 1 with fail
 generalize hC:((((w.alloc (.cells (LN a:List Value).toArray 24)).alloc (.cells (LN b:List Value).toArray 24)).alloc (.cells ([.int .u64 m0,.int .u64 m1,.int .u64 m2,.int .u64 m3]:List Value).toArray 24)).alloc (.cells (L0s:List Value).toArray 24))=v0 at *
 have HB0:Bw w v0:=by rw[<-hC];exact Z0 (Z0 (Z0 (Z0 (Z2 w) _) _) _) _
 have K0:Bk w.heap.size v0 [(true,w.heap.size,LN a),(true,w.heap.size+1,LN b),(true,w.heap.size+1+1,[.int .u64 m0,.int .u64 m1,.int .u64 m2,.int .u64 m3]),(true,w.heap.size+1+1+1,L0s)]:=by rw[<-hC];exact(Bk.nil _ w).ad.ad.ad.ad
 clear hC
 refine rgP K0 HB0 HB0.size [] [(6,8,L0s,some (7,LN s))] [(0,12,NV a),(1,13,NV b),(2,14,.tuple #[NV s,.bool true]),(3,11,.tuple #[NV s,.bool true]),(4,15,NV s),(5,16,.bool true),(8,9,.bool true)] [(7,6)] [] [false,false] ?_ ?_
 ·exact oc (g_ld 0 uN iN)<|oc (g_ld 1 uN iN)<|oc (g_cl Zr (fun uZ=>nA.out uZ))<|oc g_mv<|oc g_ex<|oc g_ex<|oc (g_al 0 aN)<|oc (g_sn 0 iN)<|oc g_as on
 intro u1 b1_6 HB1 sz1 K1
 simp only[sQ] at K1⊢
 clear K0 HB0
 go_upto_region 2 with fail
 refine rgP K1 HB1 HB1.size [] [(2,10,L0w,some (3,[.int .u64 (D0 s),.int .u64 (D1 s),.int .u64 (D2 s),.int .u64 (D3 s),.int .u64 (0),.int .u64 (0),.int .u64 (0),.int .u64 (0)]))] [(0,17,NV s),(1,18,A8 (D0 s) (D1 s) (D2 s) (D3 s) (0) (0) (0) (0))] [(3,2)] [] [true,true,false] ?_ ?_
 ·exact oc (g_ld 2 uN iN)<|oc (g_cl Zb (fun uZ=>rWiden_any (D0 s) (D1 s) (D2 s) (D3 s) uZ (W_D0 s) (W_D1 s) (W_D2 s) (W_D3 s)))<|oc (g_al 0 aW)<|oc (g_sn 0 iW) on
 intro u2 b2_2 HB2 sz2 K2
 simp only[sQ] at K2⊢
 clear K1 HB1
 go_upto_region 4 with fail
 refine rgP K2 HB2 HB2.size [.no,.no,.cs [(4,1,(Go.Value.int Go.IntKind.u64 1))]] [] [(0,20,.pointer (some ⟨b2_2,4,none⟩))] [] [] [] ?_ ?_
 ·exact oc (g_ix (jW 4))<|oc (g_sc 2 0 sU) on
 intro u3 HB3 sz3 K3
 simp only[fX,nK,nP,Wr.f,aK,pM,List.foldl,List.set_cons_zero,List.set_cons_succ] at K3
 simp only[setG,setN,List.set_cons_zero,List.set_cons_succ]
 clear K2 HB2
 go_upto_region 5 with fail
 refine rgP K3 HB3 HB3.size [.no,.all 5 ([.int .u64 r0,.int .u64 r1,.int .u64 r2,.int .u64 r3])] [] [(0,21,.agg #[.int .u64 (D0 s),.int .u64 (D1 s),.int .u64 (D2 s),.int .u64 (D3 s),(Go.Value.int Go.IntKind.u64 1),.int .u64 (0),.int .u64 (0),.int .u64 (0)]),(1,22,.agg #[.int .u64 m0,.int .u64 m1,.int .u64 m2,.int .u64 m3]),(2,23,.tuple #[A4 r0 r1 r2 r3,.int .i64 ec]),(3,24,A4 r0 r1 r2 r3),(4,25,.int .i64 ec),(6,7,.int .i64 ec)] [] [] [false,true,false] ?_ ?_
 ·exact oc (g_ld 2 uW iW)<|oc (g_ld 0 uN iN)<|oc (g_cl Z9 (fun uZ=>hR.out uZ))<|oc g_ex<|oc g_ex<|oc (g_st 1 iN)<|oc g_as on
 intro u4 HB4 sz4 K4
 simp only[sQ] at K4⊢
 clear K3 HB3
 have c6:=(K4.cv 0).n4
 go_wp2
 refine bodyPost_ret (v:= .tuple #[A4 r0 r1 r2 r3,.int .i64 ec]) (by simp[results,Tryz.results23,go_sem,c6]) rfl ⟨rfl,HB4⟩
theorem xaddG(a b m0 m1 m2 m3 r0 r1 r2 r3 ec:Int)(w:World)(ha:In a)(hb:In b)(hR:Hid (∀u,CC 25 #[WV (a+b),A4 m0 m1 m2 m3] u (.tuple #[A4 r0 r1 r2 r3,.int .i64 ec]))):CC 23 #[NV a,NV b,A4 m0 m1 m2 m3] w (.tuple #[A4 r0 r1 r2 r3,.int .i64 ec]):=by
 by_cases hl:a+b<115792089237316195423570985008687907853269984665640564039457584007913129639936
 ·exact xaddG_lt a b m0 m1 m2 m3 r0 r1 r2 r3 ec w ha hb hR hl
 ·exact xaddG_ge a b m0 m1 m2 m3 r0 r1 r2 r3 ec w ha hb hR (by omega)
theorem xAdd(a b m:Int)(w:World)(ha:In a)(hb:In b)(hm:In m)(h:m≠0):CC 23 #[NV a,NV b,NV m] w (.tuple #[NV ((a+b)%m),.int .i64 0]):=
 xaddG a b _ _ _ _ _ _ _ _ 0 w ha hb (fun u=>xReduce (a+b) m u ⟨by have:=ha.1;have:=hb.1;omega,by have:=ha.2;have:=hb.2;omega⟩ hm h)
end Go.Proofs.YtgieoghechekpaaGreatDoor
