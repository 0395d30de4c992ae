import Derived.Test.YtgieoghechekpaaGreatDoorAPV
namespace Go.Proofs.YtgieoghechekpaaGreatDoor
set_option linter.unusedVariables false
set_option linter.unusedSimpArgs false
set_option maxRecDepth 100000
set_option maxHeartbeats 4000000
open Go.RowKit
theorem infoRp:(Tryz.prog.info? 42).map (fun i=>(i.zero,i.size,i.bytes))=some (some (.agg #[.int .u64 0,.int .u64 0,.int .u64 0,.int .u64 0,.int .u64 0,.int .u64 0,.int .u64 0,.int .u64 0]),8,64):=by kernel_rfl
theorem bsR0(w:World):(Instr.buildSlice 35 0 #[]).run Tryz.prog w= .ok (.slice (some ⟨w.heap.size,0,none⟩) 0 0) (w.alloc (.cells #[] 42)):=by kernel_rfl
theorem bsR1(x y:Int)(w:World):(Instr.buildSlice 35 1 #[(0,PtX x y)]).run Tryz.prog w= .ok (.slice (some ⟨w.heap.size,0,none⟩) 1 1) (w.alloc (.cells (LN x++LN y:List Value).toArray 42)):=by kernel_rfl
theorem flt_snoc: ∀(ps:List (Int×Int)) (x y:Int),flN (flt (ps++[(x,y)]))=flN (flt ps)++(LN x++LN y)
 | [],x,y=>by simp[flt,flN]
 | p::l,x,y=>by simp[flt,flN,flt_snoc l x y]
theorem app_pp{u:World}{bo m co:Nat}{ps:List (Int×Int)}{zs:List Value}{x y:Int}{ty:TypeId}(hc:CV u bo (flN (flt ps)++zs))(hb:bo<u.heap.size)(hm:ps.length=m)(hmc:m<=co)(hz:zs.length=8*(co -m))(hl:m<=1000000):
 ∃v u',(Builtin.append_ #[35,35] ty #[.slice (some ⟨bo,0,none⟩) m co,.slice (some ⟨u.heap.size,0,none⟩) 1 1]).run Tryz.prog (u.alloc (.cells (LN x++LN y:List Value).toArray 42))= .ok v u'/\(u.alloc (.cells (LN x++LN y:List Value).toArray 42)).grownBy u' (some bo)/\PH (u.alloc (.cells (LN x++LN y:List Value).toArray 42)).heap.size bo 8 (m+1) (flN (flt (ps++[(x,y)]))) u' v:=by
 obtain⟨ti,hti,htm⟩:=Option.map_eq_some_iff.1 infoRp
 simp only[Prod.mk.injEq] at htm
 obtain⟨hzv,hsz,hby⟩:=htm
 have hss:u.heap.size<=(u.alloc (.cells (LN x++LN y:List Value).toArray 42)).heap.size:=by simp
 obtain⟨v',u',hr,hg,hp⟩:=run_app (P:=Tryz.prog) (u.alloc (.cells (LN x++LN y:List Value).toArray 42)) (ty:=ty) Tryz.underlying35 hti hzv (by rw[hsz];rfl) (base:=(u.alloc (.cells (LN x++LN y:List Value).toArray 42)).heap.size) (n:=m) (cap:=co) (m:=1) (news:=LN x++LN y) (y:= .slice (some ⟨u.heap.size,0,none⟩) 1 1) (hc.below (Z0 (Z1 u) _) hb) (Nat.lt_of_lt_of_le hb hss) (by rw[hsz,X9,flt_len];omega) (by rw[hsz];omega) hmc (Nat.le_refl _) ⟨_,1,rfl,.inr ⟨_,rfl,fun j v hj=>by
  have:=(CV.new u (LN x++LN y) 42 j v hj).1
  rw[Addr.add0];exact this⟩⟩ (by rw[hsz];rfl) (fun v hv=>by simp at hv;rcases hv with h | h | h | h | h | h | h | h<;>(subst h;rfl)) (by rw[hby];omega) (by omega)
 rw[hsz] at hp
 rw[<-flt_snoc] at hp
 exact⟨v',u',hr,hg,hp⟩
theorem pl_row{u:World}{b m c:Nat}{ps:List (Int×Int)}{zs:List Value}(hb:b<u.heap.size)(h:CV u b (flN (flt ps)++zs))(hm:ps.length=m)(hc:m<=c):PtL u (.slice (some ⟨b,0,none⟩) m c) ps:=by
 subst hm
 refine⟨_,b,0,c,rfl,hc,(by simp),.inr rfl,.inr hb,fun j v hj=>?_⟩
 rw[Nat.zero_add]
 exact(h j v (by rw[List.getElem?_append_left (List.getElem?_eq_some_iff.1 hj).1];exact hj)).1
theorem xPoints_q(q:Int)(sl si:Option Addr)(n cap m ci:Nat)(w:World)(hR:Hid (∀u,CC 30 #[NV q] u (.bool false))):
 CC 12 #[NV q,.slice sl n cap,.slice si m ci] w (.tuple #[.slice none 0 0,.int .i64 2]):=by
 go_enter Tryz.func12,Tryz.ntmps12
 go_upto_region 1 with fail
 generalize hC:(w.alloc (.cells (LN q:List Value).toArray 24))=v0 at *
 have HB0:Bw w v0:=by rw[<-hC];exact Z0 (Z1 w) _
 have K0:Bk w.heap.size v0 [(true,w.heap.size,LN q)]:=by rw[<-hC];exact(Bk.nil _ w).ad
 clear hC
 refine rgP K0 HB0 HB0.size [] [] [(0,13,NV q),(1,14,.bool false),(2,15,.bool true),(3,16,.bool true),(4,17,undef),(5,18,undef),(6,19,undef),(7,20,undef),(8,21,(Go.Value.bool Bool.true)),(9,22,(Go.Value.bool Bool.true)),(10,23,undef),(11,24,undef),(12,25,undef),(13,26,(Go.Value.bool Bool.true))] [] [] [] ?_ ?_
 ·exact oc (g_ld 0 uN iN)<|oc (g_cl Z2 (fun uZ=>hR.out uZ))<|oc (g_un (fun uZ=>not_f uZ))<|oc g_mv<|oc g_sk<|oc g_sk<|oc g_sk<|oc g_sk<|oc g_pk<|oc g_mv<|oc g_sk<|oc g_sk<|oc g_sk<|oc g_pk on
 intro u1 HB1 sz1 K1
 simp only[sQ] at K1⊢
 clear K0 HB0
 go_upto_region 2 with fail
 refine rgP K1 HB1 HB1.size [] [] [(0,6,(Go.Value.slice Option.none 0 0)),(1,7,(Go.Value.int Go.IntKind.i64 2))] [] [] [] ?_ ?_
 ·exact oc g_as<|oc g_as on
 intro u2 HB2 sz2 K2
 simp only[sQ] at K2⊢
 clear K1 HB1
 go_wp2
 refine bodyPost_ret (v:= .tuple #[.slice none 0 0,.int .i64 2]) (by simp[results,Tryz.results12,go_sem,]) rfl ⟨rfl,HB2⟩
theorem xPoints_n(q:Int)(sl si:Option Addr)(n cap m ci:Nat)(w:World)(hR:Hid (∀u,CC 30 #[NV q] u (.bool true)))(hM:Hid (∀u,CC 31 #[.int .i64 (n:Int)] u (.bool false))):
 CC 12 #[NV q,.slice sl n cap,.slice si m ci] w (.tuple #[.slice none 0 0,.int .i64 2]):=by
 go_enter Tryz.func12,Tryz.ntmps12
 go_upto_region 1 with fail
 generalize hC:(w.alloc (.cells (LN q:List Value).toArray 24))=v0 at *
 have HB0:Bw w v0:=by rw[<-hC];exact Z0 (Z1 w) _
 have K0:Bk w.heap.size v0 [(true,w.heap.size,LN q)]:=by rw[<-hC];exact(Bk.nil _ w).ad
 clear hC
 refine rgP K0 HB0 HB0.size [] [] [(0,13,NV q),(1,14,.bool true),(2,15,.bool false),(3,16,.bool false),(4,17,.slice sl n cap),(5,18,.int .i64 (n:Int)),(6,19,.bool false),(7,20,.bool true),(8,21,.bool true),(9,22,.bool true),(10,23,undef),(11,24,undef),(12,25,undef),(13,26,(Go.Value.bool Bool.true))] [] [] [] ?_ ?_
 ·exact oc (g_ld 0 uN iN)<|oc (g_cl Z2 (fun uZ=>hR.out uZ))<|oc (g_un (fun uZ=>Xt uZ))<|oc g_mv<|oc g_mv<|oc (g_ln Tryz.underlying25)<|oc (g_cl Z5 (fun uZ=>hM.out uZ))<|oc (g_un (fun uZ=>not_f uZ))<|oc g_pk<|oc g_mv<|oc g_sk<|oc g_sk<|oc g_sk<|oc g_pk on
 intro u1 HB1 sz1 K1
 simp only[sQ] at K1⊢
 clear K0 HB0
 go_upto_region 2 with fail
 refine rgP K1 HB1 HB1.size [] [] [(0,6,(Go.Value.slice Option.none 0 0)),(1,7,(Go.Value.int Go.IntKind.i64 2))] [] [] [] ?_ ?_
 ·exact oc g_as<|oc g_as on
 intro u2 HB2 sz2 K2
 simp only[sQ] at K2⊢
 clear K1 HB1
 go_wp2
 refine bodyPost_ret (v:= .tuple #[.slice none 0 0,.int .i64 2]) (by simp[results,Tryz.results12,go_sem,]) rfl ⟨rfl,HB2⟩
theorem xPoints_ok(q:Int)(sl si:Option Addr)(n cap gi oi ci:Nat)(xs:List Int)(ps rs:List (Int×Int))(fy:Nat->Int)(yy:Int)(w:World)(hR:Hid (∀u,CC 30 #[NV q] u (.bool true)))(hM:Hid (∀u,CC 31 #[.int .i64 (n:Int)] u (.bool true)))(hgt:decide ((xs.length:Int)>256)=false)(hns:xs.length<=1000)(hpl:Hid (ps.length=xs.length))(hpp:Hid (∀k,k<xs.length->ps.getD k (0,0)=(xs.getD k 0,fy k)))(hsi:Hid (0<xs.length->si=some ⟨gi,oi,none⟩/\gi<w.heap.size))(hci:Hid (∀k,k<xs.length->w.cell? ⟨gi,oi+k,none⟩=some (.int .i64 (xs.getD k 0))))(hxb:Hid (∀k,k<xs.length-> -9223372036854775808<=xs.getD k 0/\xs.getD k 0<=9223372036854775807))(hv:Hid (∀k u,k<xs.length->0<=xs.getD k 0->Bw w u->CC 9 #[NV q,.slice sl n cap,NV (xs.getD k 0)] u (.tuple #[NV (fy k),.int .i64 0])))(hNeg:Hid (∀k,k<xs.length->xs.getD k 0<0->yy=2/\rs=[]))(hPos:Hid ((∀k,k<xs.length->0<=xs.getD k 0)->yy=0/\rs=ps)):
 Calls Tryz.prog 12 #[NV q,.slice sl n cap,.slice si xs.length ci] w fun e' w'=> ∃y,e'= .returned (.tuple #[y,.int .i64 yy])/\PtL w' y rs/\Bw w w':=by
 go_enter Tryz.func12,Tryz.ntmps12
 go_upto_region 1 with fail
 generalize hC:(w.alloc (.cells (LN q:List Value).toArray 24))=v0 at *
 have HB0:Bw w v0:=by rw[<-hC];exact Z0 (Z1 w) _
 have K0:Bk w.heap.size v0 [(true,w.heap.size,LN q)]:=by rw[<-hC];exact(Bk.nil _ w).ad
 clear hC
 refine rgP K0 HB0 HB0.size [] [] [(0,13,NV q),(1,14,.bool true),(2,15,.bool false),(3,16,.bool false),(4,17,.slice sl n cap),(5,18,.int .i64 (n:Int)),(6,19,.bool true),(7,20,.bool false),(8,21,.bool false),(9,22,.bool false),(10,23,.slice si xs.length ci),(11,24,.int .i64 (xs.length:Int)),(12,25,.bool false),(13,26,.bool false)] [] [] [] ?_ ?_
 ·exact oc (g_ld 0 uN iN)<|oc (g_cl Z2 (fun uZ=>hR.out uZ))<|oc (g_un (fun uZ=>Xt uZ))<|oc g_mv<|oc g_mv<|oc (g_ln Tryz.underlying25)<|oc (g_cl Z5 (fun uZ=>hM.out uZ))<|oc (g_un (fun uZ=>Xt uZ))<|oc g_pk<|oc g_mv<|oc g_mv<|oc (g_ln Tryz.underlying26)<|oc (g_bn (fun uZ=>gtr_i _ _ (xs.length:Int) 256 _ uZ hgt))<|oc g_pk on
 intro u1 HB1 sz1 K1
 simp only[sQ] at K1⊢
 clear K0 HB0
 have hT1:Bw w u1:=Z4 (Below.refl w.heap.size w) HB1
 have HBz1:Bw u1 u1:=Below.refl _ _
 have hbs:=bsR0
 have hb1:=bsR1
 go_wp2_with fail
 go_loopw [9,8] (fun s9 s8 wr=> ∃(i bo co:Nat) (zs:List Value),i<=xs.length/\s9= .int .i64 (i:Int)/\s8= .slice (some ⟨bo,0,none⟩) i co/\i<=co/\zs.length=8*(co -i)/\u1.heap.size<=bo/\bo<wr.heap.size/\Hid (CV wr bo (flN (flt (ps.take i))++zs))/\Bw u1 wr/\Hid (∀j,j<i->0<=xs.getD j 0)) (fun s9 _ _=>xs.length -(intOf s9).toNat)
 case atStart=>exact⟨0,u1.heap.size,0,[],by omega,rfl,rfl,by omega,rfl,Nat.le_refl _,by simp,(fun j v h=>by simp[flN,flt] at h),Z0 (Z1 u1) _,fun j hj=>by omega⟩
 case round=>
  obtain⟨i,bo,co,zs,hi,rfl,rfl,hic,hzl,hlo,hlt,KV,HBr,hpo⟩:=hrel
  obtain⟨wo,rfl⟩: ∃x,x=wr:=⟨_,rfl⟩
  have Kq:CV wo w.heap.size (LN q):=CV.below (K1.cv 0) HBr (K1.lt 0)
  have lq_:w.heap.size<wo.heap.size:=Nat.lt_of_lt_of_le (K1.lt 0) HBr.size
  have hTw:Bw w wo:=Z4 hT1 HBr
  have HBw:Bw wo wo:=Below.refl _ _
  by_cases hj:i<xs.length
  ·have hl:decide ((i:Int)<(xs.length:Int))=true:=by simp;omega
   obtain⟨es,hgi⟩:=hsi.out (by omega)
   have hc:=(hTw.cell (p:=⟨gi,oi+i,none⟩) hgi).trans (hci.out i hj)
   have hgo:=Nat.lt_of_lt_of_le hgi hTw.size
   have hxb':=hxb.out i hj
   have hV:=hv.out i
   have hpk:=hpp.out i hj
   obtain⟨x,ex⟩: ∃x,xs.getD i 0=x:=⟨_,rfl⟩
   rw[ex] at hc hxb' hV hpk
   have hc:Hid _:=hc
   replace hV:Hid _:=hV
   subst es
   by_cases hx0:0<=x
   ·have hxl:decide (x<(0:Int))=false:=by simp;omega
    obtain⟨y,ey⟩: ∃y,fy i=y:=⟨_,rfl⟩
    rw[ey] at hV hpk
    clear ey
    have K1_1:Bk wo.heap.size wo [(false,w.heap.size,LN q)]:=⟨.c lq_ Kq<|trivial,by simp⟩
    go_upto_region 5 with fail
    refine rgP K1_1 HBw HBw.size [] [] [(0,28,.int .i64 (i:Int)),(1,29,.slice (some ⟨gi,oi,none⟩) xs.length ci),(2,30,.int .i64 (xs.length:Int)),(3,31,.bool true)] [] [] [] ?_ ?_
    ·exact oc g_mv<|oc g_mv<|oc (g_ln Tryz.underlying26)<|oc (g_bn (fun uZ=>Z7 _ _ (i:Int) (xs.length:Int) _ uZ hl)) on
    intro u2 HB2 sz2 K2
    simp only[sQ] at K2⊢
    go_upto_region 7 with fail
    refine rgP K2 HB2 HB2.size [] [] [(0,34,.slice (some ⟨gi,oi,none⟩) xs.length ci),(1,35,.int .i64 (i:Int)),(2,36,.pointer (some ⟨gi,oi+i,none⟩)),(3,37,.int .i64 x),(4,38,.bool false)] [] [] [] ?_ ?_
    ·exact oc g_mv<|oc g_mv<|oc (g_ix (fun uZ=>ixI _ _ _ _ i hj uZ))<|oc (g_lgp gi (oi+i) lIp hc.out hgo)<|oc (g_bn (fun uZ=>Z7 _ _ x 0 _ uZ hxl)) on
    intro u3 HB3 sz3 K3
    simp only[sQ] at K3⊢
    clear K2 HB2
    go_upto_region 9 with fail
    refine rgP K3 HB3 HB3.size [] [(6,10,L0s,some (7,LN x))] [(0,39,.slice (some ⟨gi,oi,none⟩) xs.length ci),(1,40,.int .i64 (i:Int)),(2,41,.pointer (some ⟨gi,oi+i,none⟩)),(3,42,.int .i64 x),(4,43,.int .u64 x),(5,44,NV x)] [(7,6)] [] [] ?_ ?_
    ·exact oc g_mv<|oc g_mv<|oc (g_ix (fun uZ=>ixI _ _ _ _ i hj uZ))<|oc (g_lgp gi (oi+i) lIp hc.out hgo)<|oc (g_op (fun ev uZ he=>cviP uZ hx0 hxb'.2 rfl (he _ _ rfl)))<|oc (g_bd (fun uZ=>bdNk x hx0 (by omega) uZ))<|oc (g_al 0 aN)<|oc (g_sn 0 iN) on
    intro u4 b4_6 HB4 sz4 K4
    simp only[sQ] at K4⊢
    clear K3 HB3
    go_upto_region 10 with fail
    refine rgP K4 HB4 HB4.size [] [(7,11,L0s,some (8,LN y))] [(0,46,NV q),(1,47,.slice sl n cap),(2,48,NV x),(3,49,.tuple #[NV y,.int .i64 0]),(4,45,.tuple #[NV y,.int .i64 0]),(5,50,NV y),(6,51,.int .i64 0),(9,12,.int .i64 0)] [(8,7)] [] [] ?_ ?_
    ·exact oc (g_ld 0 uN iN)<|oc g_mv<|oc (g_ld 1 uN iN)<|oc (g_cb Zu (fun uZ bZ=>hV.out uZ hj hx0 (Z4 hTw bZ)))<|oc g_mv<|oc g_ex<|oc g_ex<|oc (g_al 0 aN)<|oc (g_sn 0 iN)<|oc g_as on
    intro u5 b5_7 HB5 sz5 K5
    simp only[sQ] at K5⊢
    clear K4 HB4
    have HBu:=HB5
    have KX:CV u5 b4_6 (LN x):=(K5.cv 1)
    have KY:CV u5 b5_7 (LN y):=(K5.cv 2)
    have x0:=(KX 0 _ rfl).1
    have x1:=(KX 1 _ rfl).1
    have x2:=(KX 2 _ rfl).1
    have x3:=(KX 3 _ rfl).1
    have y0:=(KY 0 _ rfl).1
    have y1:=(KY 1 _ rfl).1
    have y2:=(KY 2 _ rfl).1
    have y3:=(KY 3 _ rfl).1
    replace KV:Hid (CV u5 bo (flN (flt (ps.take i))++zs)):=CV.below KV.out HBu hlt
    have hsb:=HBu.size
    replace HBr:=Z4 HBr HBu
    clear KX KY
    have hnx:Hid (ps.take (i+1)=ps.take i++[(x,y)]):=by
     show ps.take (i+1)=ps.take i++[(x,y)]
     have hip:i<ps.length:=by rw[hpl.out];exact hj
     rw[List.take_add_one,List.getElem?_eq_getElem hip]
     simp[List.getElem?_eq_getElem hip] at hpk
     simp[hpk]
    have htl:(ps.take i).length=i:=by rw[List.length_take,hpl.out];omega
    obtain⟨v2,uc,r2,rg2,b5,c5,z5,rfl,f1,f2,f3,f4,f5⟩:=app_pp (ty:=35) (x:=x) (y:=y) KV.out (by omega) htl hic hzl (by omega)
    have f5:Hid _:=f5
    have rg2:Hid _:=rg2
    have e1:IntKind.i64.wrap ((i:Int)+1)=((i+1:Nat):Int):=by rw[IntKind.wrap_i64];omega
    go_wp2_with (at_builtin;refine Zr rfl _ _ 35 rfl _ _ _ rfl rfl r2 ?_;clear r2)
    have hBa2:Bw u1 (u5.alloc (.cells (LN x++LN y:List Value).toArray 42)):=Z0 HBr _
    have hBc:Bw u1 uc:=hBa2.grown rg2.out hBa2.size (fun k e=>by cases e;exact hlo)
    refine⟨⟨i+1,b5,c5,z5,by omega,by simp,rfl,f3,by rw[f4];omega,by have:=hBa2.size;rcases f1 with h | h<;>omega,f2,by rw[hnx.out];exact f5,hBc,fun j h=>?_⟩,?_⟩
    ·by_cases e:j=i
     ·subst e;rw[ex];exact hx0
     ·exact hpo.out j (by omega)
    ·simp[intOf];omega
   ·have hxl:decide (x<(0:Int))=true:=by simp;omega
    obtain⟨e1,e2⟩:=hNeg.out i hj (by rw[ex];omega)
    have K1_1:Bk wo.heap.size wo [(false,w.heap.size,LN q)]:=⟨.c lq_ Kq<|trivial,by simp⟩
    go_upto_region 5 with fail
    refine rgP K1_1 HBw HBw.size [] [] [(0,28,.int .i64 (i:Int)),(1,29,.slice (some ⟨gi,oi,none⟩) xs.length ci),(2,30,.int .i64 (xs.length:Int)),(3,31,.bool true)] [] [] [] ?_ ?_
    ·exact oc g_mv<|oc g_mv<|oc (g_ln Tryz.underlying26)<|oc (g_bn (fun uZ=>Z7 _ _ (i:Int) (xs.length:Int) _ uZ hl)) on
    intro u2 HB2 sz2 K2
    simp only[sQ] at K2⊢
    go_upto_region 7 with fail
    refine rgP K2 HB2 HB2.size [] [] [(0,34,.slice (some ⟨gi,oi,none⟩) xs.length ci),(1,35,.int .i64 (i:Int)),(2,36,.pointer (some ⟨gi,oi+i,none⟩)),(3,37,.int .i64 x),(4,38,.bool true)] [] [] [] ?_ ?_
    ·exact oc g_mv<|oc g_mv<|oc (g_ix (fun uZ=>ixI _ _ _ _ i hj uZ))<|oc (g_lgp gi (oi+i) lIp hc.out hgo)<|oc (g_bn (fun uZ=>Z7 _ _ x 0 _ uZ hxl)) on
    intro u3 HB3 sz3 K3
    simp only[sQ] at K3⊢
    clear K2 HB2
    go_upto_region 8 with fail
    refine rgP K3 HB3 HB3.size [] [] [(0,6,(Go.Value.slice Option.none 0 0)),(1,7,(Go.Value.int Go.IntKind.i64 2))] [] [] [] ?_ ?_
    ·exact oc g_as<|oc g_as on
    intro u4 HB4 sz4 K4
    simp only[sQ] at K4⊢
    clear K3 HB3
    go_wp2
    exact bodyPost_ret (v:= .tuple #[.slice none 0 0,.int .i64 2]) (by simp[results,Tryz.results12,go_sem]) rfl ⟨_,by subst e1;rfl,by subst e2;exact PtL.nil _,Z4 hTw HB4⟩
  ·have hl:decide ((i:Int)<(xs.length:Int))=false:=by simp;omega
   have hio:i=xs.length:=by omega
   obtain⟨e1,e2⟩:=hPos.out (fun j h=>hpo.out j (by omega))
   have hrow:PtL wo (.slice (some ⟨bo,0,none⟩) i co) ps:=pl_row hlt (by have:=KV.out;rwa [hio,<-hpl.out,List.take_length] at this) (by rw[hpl.out];exact hio.symm) hic
   replace hio:Hid _:=hio
   have K1_1:Bk wo.heap.size wo [(false,w.heap.size,LN q)]:=⟨.c lq_ Kq<|trivial,by simp⟩
   go_upto_region 5 with fail
   refine rgP K1_1 HBw HBw.size [] [] [(0,28,.int .i64 (i:Int)),(1,29,.slice si xs.length ci),(2,30,.int .i64 (xs.length:Int)),(3,31,.bool false)] [] [] [] ?_ ?_
   ·exact oc g_mv<|oc g_mv<|oc (g_ln Tryz.underlying26)<|oc (g_bn (fun uZ=>Z7 _ _ (i:Int) (xs.length:Int) _ uZ hl)) on
   intro u2 HB2 sz2 K2
   simp only[sQ] at K2⊢
   go_upto_region 12 with fail
   refine rgP K2 HB2 HB2.size [] [] [(0,58,.slice (some ⟨bo,0,none⟩) i co),(1,6,.slice (some ⟨bo,0,none⟩) i co),(2,7,(Go.Value.int Go.IntKind.i64 0))] [] [] [] ?_ ?_
   ·exact oc g_mv<|oc g_as<|oc g_as on
   intro u3 HB3 sz3 K3
   simp only[sQ] at K3⊢
   clear K2 HB2
   go_wp2
   exact bodyPost_ret (v:= .tuple #[.slice (some ⟨bo,0,none⟩) i co,.int .i64 0]) (by simp[results,Tryz.results12,go_sem]) rfl ⟨_,by subst e1;rfl,by subst e2;exact hrow.up HB3,Z4 hTw HB3⟩
end Go.Proofs.YtgieoghechekpaaGreatDoor
