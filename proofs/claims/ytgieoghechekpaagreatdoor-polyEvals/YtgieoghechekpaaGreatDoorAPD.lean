import Derived.Test.YtgieoghechekpaaGreatDoorAPB
namespace Go.Proofs.YtgieoghechekpaaGreatDoor
set_option linter.unusedVariables false
set_option linter.unusedSimpArgs false
set_option maxRecDepth 100000
set_option maxHeartbeats 4000000
open Go.RowKit
theorem xAdd_q(q:Int)(sa sb:Option Addr)(n ca m cb:Nat)(w:World)(hR:Hid (∀u,CC 30 #[NV q] u (.bool false))):
 CC 14 #[NV q,.slice sa n ca,.slice sb m cb] w (.tuple #[.slice none 0 0,.int .i64 2]):=by
 go_enter Tryz.func14,Tryz.ntmps14
 go_upto_region 1 with fail
 generalize hC:(w.alloc (.cells (LN q:List Value).toArray 24))=v0 at *
 have HB0:Bw w v0:=by rw[<-hC];exact Z0 (Z1 w) _
 have K0:Bk w.heap.size v0 [(true,w.heap.size,LN q)]:=by rw[<-hC];exact(Bk.nil _ w).ad
 clear hC
 refine rgP K0 HB0 HB0.size [] [] [(0,14,NV q),(1,15,.bool false),(2,16,.bool true),(3,17,.bool true),(4,18,undef),(5,19,undef),(6,20,undef),(7,21,undef),(8,22,(Go.Value.bool Bool.true)),(9,23,(Go.Value.bool Bool.true)),(10,24,undef),(11,25,undef),(12,26,undef),(13,27,undef),(14,28,(Go.Value.bool Bool.true))] [] [] [] ?_ ?_
 ·exact oc (g_ld 0 uN iN)<|oc (g_cl Z2 (fun uZ=>hR.out uZ))<|oc (g_un (fun uZ=>not_f uZ))<|oc g_mv<|oc g_sk<|oc g_sk<|oc g_sk<|oc g_sk<|oc g_pk<|oc g_mv<|oc g_sk<|oc g_sk<|oc g_sk<|oc g_sk<|oc g_pk on
 intro u1 HB1 sz1 K1
 simp only[sQ] at K1⊢
 clear K0 HB0
 go_upto_region 2 with fail
 refine rgP K1 HB1 HB1.size [] [] [(0,6,(Go.Value.slice Option.none 0 0)),(1,7,(Go.Value.int Go.IntKind.i64 2))] [] [] [] ?_ ?_
 ·exact oc g_as<|oc g_as on
 intro u2 HB2 sz2 K2
 simp only[sQ] at K2⊢
 clear K1 HB1
 go_wp2
 refine bodyPost_ret (v:= .tuple #[.slice none 0 0,.int .i64 2]) (by simp[results,Tryz.results14,go_sem,]) rfl ⟨rfl,HB2⟩
theorem xAdd_n(q:Int)(sa sb:Option Addr)(n ca m cb:Nat)(w:World)(hR:Hid (∀u,CC 30 #[NV q] u (.bool true)))(hM:Hid (∀u,CC 31 #[.int .i64 (n:Int)] u (.bool false))):
 CC 14 #[NV q,.slice sa n ca,.slice sb m cb] w (.tuple #[.slice none 0 0,.int .i64 2]):=by
 go_enter Tryz.func14,Tryz.ntmps14
 go_upto_region 1 with fail
 generalize hC:(w.alloc (.cells (LN q:List Value).toArray 24))=v0 at *
 have HB0:Bw w v0:=by rw[<-hC];exact Z0 (Z1 w) _
 have K0:Bk w.heap.size v0 [(true,w.heap.size,LN q)]:=by rw[<-hC];exact(Bk.nil _ w).ad
 clear hC
 refine rgP K0 HB0 HB0.size [] [] [(0,14,NV q),(1,15,.bool true),(2,16,.bool false),(3,17,.bool false),(4,18,.slice sa n ca),(5,19,.int .i64 (n:Int)),(6,20,.bool false),(7,21,.bool true),(8,22,.bool true),(9,23,.bool true),(10,24,undef),(11,25,undef),(12,26,undef),(13,27,undef),(14,28,(Go.Value.bool Bool.true))] [] [] [] ?_ ?_
 ·exact oc (g_ld 0 uN iN)<|oc (g_cl Z2 (fun uZ=>hR.out uZ))<|oc (g_un (fun uZ=>Xt uZ))<|oc g_mv<|oc g_mv<|oc (g_ln Tryz.underlying25)<|oc (g_cl Z5 (fun uZ=>hM.out uZ))<|oc (g_un (fun uZ=>not_f uZ))<|oc g_pk<|oc g_mv<|oc g_sk<|oc g_sk<|oc g_sk<|oc g_sk<|oc g_pk on
 intro u1 HB1 sz1 K1
 simp only[sQ] at K1⊢
 clear K0 HB0
 go_upto_region 2 with fail
 refine rgP K1 HB1 HB1.size [] [] [(0,6,(Go.Value.slice Option.none 0 0)),(1,7,(Go.Value.int Go.IntKind.i64 2))] [] [] [] ?_ ?_
 ·exact oc g_as<|oc g_as on
 intro u2 HB2 sz2 K2
 simp only[sQ] at K2⊢
 clear K1 HB1
 go_wp2
 refine bodyPost_ret (v:= .tuple #[.slice none 0 0,.int .i64 2]) (by simp[results,Tryz.results14,go_sem,]) rfl ⟨rfl,HB2⟩
theorem xAdd_m(q:Int)(sa sb:Option Addr)(n ca m cb:Nat)(w:World)(hR:Hid (∀u,CC 30 #[NV q] u (.bool true)))(hM:Hid (∀u,CC 31 #[.int .i64 (n:Int)] u (.bool true)))(hM2:Hid (∀u,CC 31 #[.int .i64 (m:Int)] u (.bool false))):
 CC 14 #[NV q,.slice sa n ca,.slice sb m cb] w (.tuple #[.slice none 0 0,.int .i64 2]):=by
 go_enter Tryz.func14,Tryz.ntmps14
 go_upto_region 1 with fail
 generalize hC:(w.alloc (.cells (LN q:List Value).toArray 24))=v0 at *
 have HB0:Bw w v0:=by rw[<-hC];exact Z0 (Z1 w) _
 have K0:Bk w.heap.size v0 [(true,w.heap.size,LN q)]:=by rw[<-hC];exact(Bk.nil _ w).ad
 clear hC
 refine rgP K0 HB0 HB0.size [] [] [(0,14,NV q),(1,15,.bool true),(2,16,.bool false),(3,17,.bool false),(4,18,.slice sa n ca),(5,19,.int .i64 (n:Int)),(6,20,.bool true),(7,21,.bool false),(8,22,.bool false),(9,23,.bool false),(10,24,.slice sb m cb),(11,25,.int .i64 (m:Int)),(12,26,.bool false),(13,27,.bool true),(14,28,.bool true)] [] [] [] ?_ ?_
 ·exact oc (g_ld 0 uN iN)<|oc (g_cl Z2 (fun uZ=>hR.out uZ))<|oc (g_un (fun uZ=>Xt uZ))<|oc g_mv<|oc g_mv<|oc (g_ln Tryz.underlying25)<|oc (g_cl Z5 (fun uZ=>hM.out uZ))<|oc (g_un (fun uZ=>Xt uZ))<|oc g_pk<|oc g_mv<|oc g_mv<|oc (g_ln Tryz.underlying25)<|oc (g_cl Z5 (fun uZ=>hM2.out uZ))<|oc (g_un (fun uZ=>not_f uZ))<|oc g_pk on
 intro u1 HB1 sz1 K1
 simp only[sQ] at K1⊢
 clear K0 HB0
 go_upto_region 2 with fail
 refine rgP K1 HB1 HB1.size [] [] [(0,6,(Go.Value.slice Option.none 0 0)),(1,7,(Go.Value.int Go.IntKind.i64 2))] [] [] [] ?_ ?_
 ·exact oc g_as<|oc g_as on
 intro u2 HB2 sz2 K2
 simp only[sQ] at K2⊢
 clear K1 HB1
 go_wp2
 refine bodyPost_ret (v:= .tuple #[.slice none 0 0,.int .i64 2]) (by simp[results,Tryz.results14,go_sem,]) rfl ⟨rfl,HB2⟩
theorem xAdd_ok(q:Int)(sa sb:Option Addr)(ga oa ca gb ob cb:Nat)(aa bs cs:List Int)(w:World)(hR:Hid (∀u,CC 30 #[NV q] u (.bool true)))(hM:Hid (∀u,CC 31 #[.int .i64 (aa.length:Int)] u (.bool true)))(hM2:Hid (∀u,CC 31 #[.int .i64 (bs.length:Int)] u (.bool true)))(hq:In q)(hq0:q≠0)(hns:aa.length<=1000)(hnb':bs.length<=1000)(hixa:Hid (∀j,j<aa.length-> ∀W,(Instr.indexAt 25 (.slice sa aa.length ca) (.int .i64 j)).run Tryz.prog W= .ok (.pointer (some ⟨ga,oa+4*j,none⟩)) W))(hga:aa.length=0\/ga<w.heap.size)(hSa:Hid (SN w ga oa aa))(hna:Hid (∀k,k<aa.length->In (aa.getD k 0)))(hixb:Hid (∀j,j<bs.length-> ∀W,(Instr.indexAt 25 (.slice sb bs.length cb) (.int .i64 j)).run Tryz.prog W= .ok (.pointer (some ⟨gb,ob+4*j,none⟩)) W))(hgb:bs.length=0\/gb<w.heap.size)(hSb:Hid (SN w gb ob bs))(hnb:Hid (∀k,k<bs.length->In (bs.getD k 0)))(hcl:Hid (max aa.length bs.length=cs.length))(hcs:Hid (∀k,k<cs.length->cs.getD k 0=(aa.getD k 0+bs.getD k 0)%q)):
 Calls Tryz.prog 14 #[NV q,.slice sa aa.length ca,.slice sb bs.length cb] w fun e' w'=> ∃y,e'= .returned (.tuple #[y,.int .i64 0])/\NL w' y cs/\Bw w w':=by
 go_enter Tryz.func14,Tryz.ntmps14
 go_upto_region 1 with fail
 generalize hC:(w.alloc (.cells (LN q:List Value).toArray 24))=v0 at *
 have HB0:Bw w v0:=by rw[<-hC];exact Z0 (Z1 w) _
 have K0:Bk w.heap.size v0 [(true,w.heap.size,LN q)]:=by rw[<-hC];exact(Bk.nil _ w).ad
 clear hC
 refine rgP K0 HB0 HB0.size [] [] [(0,14,NV q),(1,15,.bool true),(2,16,.bool false),(3,17,.bool false),(4,18,.slice sa aa.length ca),(5,19,.int .i64 (aa.length:Int)),(6,20,.bool true),(7,21,.bool false),(8,22,.bool false),(9,23,.bool false),(10,24,.slice sb bs.length cb),(11,25,.int .i64 (bs.length:Int)),(12,26,.bool true),(13,27,.bool false),(14,28,.bool false)] [] [] [] ?_ ?_
 ·exact oc (g_ld 0 uN iN)<|oc (g_cl Z2 (fun uZ=>hR.out uZ))<|oc (g_un (fun uZ=>Xt uZ))<|oc g_mv<|oc g_mv<|oc (g_ln Tryz.underlying25)<|oc (g_cl Z5 (fun uZ=>hM.out uZ))<|oc (g_un (fun uZ=>Xt uZ))<|oc g_pk<|oc g_mv<|oc g_mv<|oc (g_ln Tryz.underlying25)<|oc (g_cl Z5 (fun uZ=>hM2.out uZ))<|oc (g_un (fun uZ=>Xt uZ))<|oc g_pk on
 intro u1 HB1 sz1 K1
 simp only[sQ] at K1⊢
 clear K0 HB0
 have hT1:Bw w u1:=Z4 (Below.refl w.heap.size w) HB1
 have HBz1:Bw u1 u1:=Below.refl _ _
 have hbs:=bsN0
 have hb1:=bsN1
 go_wp2_with fail
 go_loopw [9,8] (fun s9 s8 wr=> ∃(i bo co:Nat) (zs:List Value),i<=cs.length/\s9= .int .i64 (i:Int)/\s8= .slice (some ⟨bo,0,none⟩) i co/\i<=co/\zs.length=4*(co -i)/\u1.heap.size<=bo/\bo<wr.heap.size/\Hid (CV wr bo (flN (cs.take i)++zs))/\Bw u1 wr) (fun s9 _ _=>cs.length -(intOf s9).toNat)
 case atStart=>exact⟨0,u1.heap.size,0,[],by omega,rfl,rfl,by omega,rfl,Nat.le_refl _,by simp,(fun j v h=>by simp[flN] at h),Z0 (Z1 u1) _⟩
 case round=>
  obtain⟨i,bo,co,zs,hi,rfl,rfl,hic,hzl,hlo,hlt,KV,HBr⟩:=hrel
  obtain⟨wo,rfl⟩: ∃x,x=wr:=⟨_,rfl⟩
  have Kq:CV wo w.heap.size (LN q):=CV.below (K1.cv 0) HBr (K1.lt 0)
  have lq_:w.heap.size<wo.heap.size:=Nat.lt_of_lt_of_le (K1.lt 0) HBr.size
  have hTw:Bw w wo:=Z4 hT1 HBr
  have HBw:Bw wo wo:=Below.refl _ _
  have hcl':max aa.length bs.length=cs.length:=hcl.out
  by_cases hja:i<aa.length
  ·by_cases hjb:i<bs.length
   ·have hla:decide ((i:Int)<(aa.length:Int))=true:=by simp;omega
    have hlb:decide ((i:Int)<(bs.length:Int))=true:=by simp;omega
    have hj:i<cs.length:=by omega
    have hck:=hcs.out i hj
    have hXa:=hixa.out _ hja
    have hXa:Hid _:=hXa
    have hga':=hga.resolve_left (by omega)
    have hRa:=(hSa.out.below hTw hga').at _ hja
    have hga'':=Nat.lt_of_lt_of_le hga' hTw.size
    have hRa:Hid _:=hRa
    have ix:=hna.out _ hja
    obtain⟨x,ex⟩: ∃z,aa.getD i 0=z:=⟨_,rfl⟩
    rw[ex] at hRa ix hck
    clear ex
    have hXb:=hixb.out _ hjb
    have hXb:Hid _:=hXb
    have hgb':=hgb.resolve_left (by omega)
    have hRb:=(hSb.out.below hTw hgb').at _ hjb
    have hgb'':=Nat.lt_of_lt_of_le hgb' hTw.size
    have hRb:Hid _:=hRb
    have iy:=hnb.out _ hjb
    obtain⟨y,ey⟩: ∃z,bs.getD i 0=z:=⟨_,rfl⟩
    rw[ey] at hRb iy hck
    clear ey
    obtain⟨z,ez⟩: ∃z,(x+y)%q=z:=⟨_,rfl⟩
    rw[ez] at hck
    have hAd:Hid (∀u,CC 23 #[NV x,NV y,NV q] u (.tuple #[NV z,.int .i64 0])):=fun u=>by have h:=xAdd x y q u ix iy hq hq0;rw[ez] at h;exact h
    clear ez
    have K1_1:Bk wo.heap.size wo [(false,w.heap.size,LN q)]:=⟨.c lq_ Kq<|trivial,by simp⟩
    go_upto_region 5 with fail
    refine rgP K1_1 HBw HBw.size [] [] [(0,30,.int .i64 (i:Int)),(1,31,.slice sa aa.length ca),(2,32,.int .i64 (aa.length:Int)),(3,33,.bool true),(4,34,.bool true),(5,35,undef),(6,36,undef),(7,37,undef),(8,38,undef),(9,39,(Go.Value.bool Bool.true))] [] [] [] ?_ ?_
    ·exact oc g_mv<|oc g_mv<|oc (g_ln Tryz.underlying25)<|oc (g_bn (fun uZ=>Z7 _ _ (i:Int) (aa.length:Int) _ uZ hla))<|oc g_mv<|oc g_sk<|oc g_sk<|oc g_sk<|oc g_sk<|oc g_pk on
    intro u2 HB2 sz2 K2
    simp only[sQ] at K2⊢
    go_upto_region 7 with fail
    refine rgP K2 HB2 HB2.size [] [(2,10,L0s,some (4,[.int .u64 (0),.int .u64 (0),.int .u64 (0),.int .u64 (0)])),(3,11,L0s,some (5,[.int .u64 (0),.int .u64 (0),.int .u64 (0),.int .u64 (0)]))] [(0,42,A4 (0) (0) (0) (0)),(1,43,A4 (0) (0) (0) (0))] [(4,2),(5,3)] [] [] ?_ ?_
    ·exact oc (g_bd zN)<|oc (g_bd zN)<|oc (g_al 0 aN)<|oc (g_al 1 aN)<|oc (g_sn 0 iN)<|oc (g_sn 1 iN) on
    intro u3 b3_2 b3_3 HB3 sz3 K3
    simp only[sQ] at K3⊢
    clear K2 HB2
    go_upto_region 8 with fail
    refine rgP K3 HB3 HB3.size [] [] [(0,44,.int .i64 (i:Int)),(1,45,.slice sa aa.length ca),(2,46,.int .i64 (aa.length:Int)),(3,47,.bool true)] [] [] [] ?_ ?_
    ·exact oc g_mv<|oc g_mv<|oc (g_ln Tryz.underlying25)<|oc (g_bn (fun uZ=>Z7 _ _ (i:Int) (aa.length:Int) _ uZ hla)) on
    intro u4 HB4 sz4 K4
    simp only[sQ] at K4⊢
    clear K3 HB3
    go_upto_region 9 with fail
    refine rgP K4 HB4 HB4.size [.no,.all 4 (LN x)] [] [(0,48,.slice sa aa.length ca),(1,49,.int .i64 (i:Int)),(2,50,.pointer (some ⟨ga,oa+4*i,none⟩)),(3,51,NV x)] [] [] [] ?_ ?_
    ·exact oc g_mv<|oc g_mv<|oc (g_ix (fun uZ=>hXa.out uZ))<|oc (g_lf hRa.out hga'' uN iN)<|oc (g_st 1 iN) on
    intro u5 HB5 sz5 K5
    simp only[sQ] at K5⊢
    clear K4 HB4
    go_upto_region 10 with fail
    refine rgP K5 HB5 HB5.size [] [] [(0,52,.int .i64 (i:Int)),(1,53,.slice sb bs.length cb),(2,54,.int .i64 (bs.length:Int)),(3,55,.bool true)] [] [] [] ?_ ?_
    ·exact oc g_mv<|oc g_mv<|oc (g_ln Tryz.underlying25)<|oc (g_bn (fun uZ=>Z7 _ _ (i:Int) (bs.length:Int) _ uZ hlb)) on
    intro u6 HB6 sz6 K6
    simp only[sQ] at K6⊢
    clear K5 HB5
    go_upto_region 11 with fail
    refine rgP K6 HB6 HB6.size [.no,.no,.all 4 (LN y)] [] [(0,56,.slice sb bs.length cb),(1,57,.int .i64 (i:Int)),(2,58,.pointer (some ⟨gb,ob+4*i,none⟩)),(3,59,NV y)] [] [] [] ?_ ?_
    ·exact oc g_mv<|oc g_mv<|oc (g_ix (fun uZ=>hXb.out uZ))<|oc (g_lf hRb.out hgb'' uN iN)<|oc (g_st 2 iN) on
    intro u7 HB7 sz7 K7
    simp only[sQ] at K7⊢
    clear K6 HB6
    go_upto_region 12 with fail
    refine rgP K7 HB7 HB7.size [] [(7,12,L0s,some (8,LN z))] [(0,61,NV x),(1,62,NV y),(2,63,NV q),(3,64,.tuple #[NV z,.int .i64 0]),(4,60,.tuple #[NV z,.int .i64 0]),(5,65,NV z),(6,66,.int .i64 0),(9,13,.int .i64 0)] [(8,7)] [] [] ?_ ?_
    ·exact oc (g_ld 1 uN iN)<|oc (g_ld 2 uN iN)<|oc (g_ld 0 uN iN)<|oc (g_cl Zb (fun uZ=>hAd.out uZ))<|oc g_mv<|oc g_ex<|oc g_ex<|oc (g_al 0 aN)<|oc (g_sn 0 iN)<|oc g_as on
    intro u8 b8_7 HB8 sz8 K8
    simp only[sQ] at K8⊢
    clear K7 HB7
    have HBu:=HB8
    have KZ:CV u8 b8_7 (LN z):=(K8.cv 3)
    have x0:=(KZ 0 _ rfl).1
    have x1:=(KZ 1 _ rfl).1
    have x2:=(KZ 2 _ rfl).1
    have x3:=(KZ 3 _ rfl).1
    replace KV:Hid (CV u8 bo (flN (cs.take i)++zs)):=CV.below KV.out HBu hlt
    have hsb:=HBu.size
    replace HBr:=Z4 HBr HBu
    clear KZ
    have hnx:Hid (cs.take (i+1)=cs.take i++[z]):=by
     show cs.take (i+1)=cs.take i++[z]
     rw[List.take_add_one,List.getElem?_eq_getElem hj]
     simp[List.getElem?_eq_getElem hj] at hck
     simp[hck]
    have htl:(cs.take i).length=i:=by rw[List.length_take];omega
    obtain⟨v2,uc,r2,rg2,b5,c5,z5,rfl,f1,f2,f3,f4,f5⟩:=app_nn (ty:=25) (x:=z) KV.out (by omega) htl hic hzl (by omega)
    have f5:Hid _:=f5
    have rg2:Hid _:=rg2
    have e1:IntKind.i64.wrap ((i:Int)+1)=((i+1:Nat):Int):=by rw[IntKind.wrap_i64];omega
    go_wp2_with (at_builtin;refine Zr rfl _ _ 25 rfl _ _ _ rfl rfl r2 ?_;clear r2)
    have hBa2:Bw u1 (u8.alloc (.cells (LN z:List Value).toArray 24)):=Z0 HBr _
    have hBc:Bw u1 uc:=hBa2.grown rg2.out hBa2.size (fun k e=>by cases e;exact hlo)
    refine⟨⟨i+1,b5,c5,z5,by omega,by simp,rfl,f3,by rw[f4];omega,by have:=hBa2.size;rcases f1 with h | h<;>omega,f2,by rw[hnx.out];exact f5,hBc⟩,?_⟩
    simp[intOf];omega
   ·have hla:decide ((i:Int)<(aa.length:Int))=true:=by simp;omega
    have hlb:decide ((i:Int)<(bs.length:Int))=false:=by simp;omega
    have hj:i<cs.length:=by omega
    have hck:=hcs.out i hj
    have hXa:=hixa.out _ hja
    have hXa:Hid _:=hXa
    have hga':=hga.resolve_left (by omega)
    have hRa:=(hSa.out.below hTw hga').at _ hja
    have hga'':=Nat.lt_of_lt_of_le hga' hTw.size
    have hRa:Hid _:=hRa
    have ix:=hna.out _ hja
    obtain⟨x,ex⟩: ∃z,aa.getD i 0=z:=⟨_,rfl⟩
    rw[ex] at hRa ix hck
    clear ex
    have ey:bs.getD i 0=0:=by simp[List.getElem?_eq_none (show bs.length<=i by omega)]
    rw[ey] at hck
    clear ey
    have iy:In 0:=In_0
    obtain⟨z,ez⟩: ∃z,(x+0)%q=z:=⟨_,rfl⟩
    rw[ez] at hck
    have hAd:Hid (∀u,CC 23 #[NV x,A4 0 0 0 0,NV q] u (.tuple #[NV z,.int .i64 0])):=fun u=>by have h:=xAdd x 0 q u ix iy hq hq0;rw[ez] at h;rw[NV_0] at h;exact h
    clear ez
    have K1_1:Bk wo.heap.size wo [(false,w.heap.size,LN q)]:=⟨.c lq_ Kq<|trivial,by simp⟩
    go_upto_region 5 with fail
    refine rgP K1_1 HBw HBw.size [] [] [(0,30,.int .i64 (i:Int)),(1,31,.slice sa aa.length ca),(2,32,.int .i64 (aa.length:Int)),(3,33,.bool true),(4,34,.bool true),(5,35,undef),(6,36,undef),(7,37,undef),(8,38,undef),(9,39,(Go.Value.bool Bool.true))] [] [] [] ?_ ?_
    ·exact oc g_mv<|oc g_mv<|oc (g_ln Tryz.underlying25)<|oc (g_bn (fun uZ=>Z7 _ _ (i:Int) (aa.length:Int) _ uZ hla))<|oc g_mv<|oc g_sk<|oc g_sk<|oc g_sk<|oc g_sk<|oc g_pk on
    intro u2 HB2 sz2 K2
    simp only[sQ] at K2⊢
    go_upto_region 7 with fail
    refine rgP K2 HB2 HB2.size [] [(2,10,L0s,some (4,[.int .u64 (0),.int .u64 (0),.int .u64 (0),.int .u64 (0)])),(3,11,L0s,some (5,[.int .u64 (0),.int .u64 (0),.int .u64 (0),.int .u64 (0)]))] [(0,42,A4 (0) (0) (0) (0)),(1,43,A4 (0) (0) (0) (0))] [(4,2),(5,3)] [] [] ?_ ?_
    ·exact oc (g_bd zN)<|oc (g_bd zN)<|oc (g_al 0 aN)<|oc (g_al 1 aN)<|oc (g_sn 0 iN)<|oc (g_sn 1 iN) on
    intro u3 b3_2 b3_3 HB3 sz3 K3
    simp only[sQ] at K3⊢
    clear K2 HB2
    go_upto_region 8 with fail
    refine rgP K3 HB3 HB3.size [] [] [(0,44,.int .i64 (i:Int)),(1,45,.slice sa aa.length ca),(2,46,.int .i64 (aa.length:Int)),(3,47,.bool true)] [] [] [] ?_ ?_
    ·exact oc g_mv<|oc g_mv<|oc (g_ln Tryz.underlying25)<|oc (g_bn (fun uZ=>Z7 _ _ (i:Int) (aa.length:Int) _ uZ hla)) on
    intro u4 HB4 sz4 K4
    simp only[sQ] at K4⊢
    clear K3 HB3
    go_upto_region 9 with fail
    refine rgP K4 HB4 HB4.size [.no,.all 4 (LN x)] [] [(0,48,.slice sa aa.length ca),(1,49,.int .i64 (i:Int)),(2,50,.pointer (some ⟨ga,oa+4*i,none⟩)),(3,51,NV x)] [] [] [] ?_ ?_
    ·exact oc g_mv<|oc g_mv<|oc (g_ix (fun uZ=>hXa.out uZ))<|oc (g_lf hRa.out hga'' uN iN)<|oc (g_st 1 iN) on
    intro u5 HB5 sz5 K5
    simp only[sQ] at K5⊢
    clear K4 HB4
    go_upto_region 10 with fail
    refine rgP K5 HB5 HB5.size [] [] [(0,52,.int .i64 (i:Int)),(1,53,.slice sb bs.length cb),(2,54,.int .i64 (bs.length:Int)),(3,55,.bool false)] [] [] [] ?_ ?_
    ·exact oc g_mv<|oc g_mv<|oc (g_ln Tryz.underlying25)<|oc (g_bn (fun uZ=>Z7 _ _ (i:Int) (bs.length:Int) _ uZ hlb)) on
    intro u6 HB6 sz6 K6
    simp only[sQ] at K6⊢
    clear K5 HB5
    go_upto_region 12 with fail
    refine rgP K6 HB6 HB6.size [] [(7,12,L0s,some (8,LN z))] [(0,61,NV x),(1,62,.agg #[.int .u64 (0),.int .u64 (0),.int .u64 (0),.int .u64 (0)]),(2,63,NV q),(3,64,.tuple #[NV z,.int .i64 0]),(4,60,.tuple #[NV z,.int .i64 0]),(5,65,NV z),(6,66,.int .i64 0),(9,13,.int .i64 0)] [(8,7)] [] [] ?_ ?_
    ·exact oc (g_ld 1 uN iN)<|oc (g_ld 2 uN iN)<|oc (g_ld 0 uN iN)<|oc (g_cl Zb (fun uZ=>hAd.out uZ))<|oc g_mv<|oc g_ex<|oc g_ex<|oc (g_al 0 aN)<|oc (g_sn 0 iN)<|oc g_as on
    intro u7 b7_7 HB7 sz7 K7
    simp only[sQ] at K7⊢
    clear K6 HB6
    have HBu:=HB7
    have KZ:CV u7 b7_7 (LN z):=(K7.cv 3)
    have x0:=(KZ 0 _ rfl).1
    have x1:=(KZ 1 _ rfl).1
    have x2:=(KZ 2 _ rfl).1
    have x3:=(KZ 3 _ rfl).1
    replace KV:Hid (CV u7 bo (flN (cs.take i)++zs)):=CV.below KV.out HBu hlt
    have hsb:=HBu.size
    replace HBr:=Z4 HBr HBu
    clear KZ
    have hnx:Hid (cs.take (i+1)=cs.take i++[z]):=by
     show cs.take (i+1)=cs.take i++[z]
     rw[List.take_add_one,List.getElem?_eq_getElem hj]
     simp[List.getElem?_eq_getElem hj] at hck
     simp[hck]
    have htl:(cs.take i).length=i:=by rw[List.length_take];omega
    obtain⟨v2,uc,r2,rg2,b5,c5,z5,rfl,f1,f2,f3,f4,f5⟩:=app_nn (ty:=25) (x:=z) KV.out (by omega) htl hic hzl (by omega)
    have f5:Hid _:=f5
    have rg2:Hid _:=rg2
    have e1:IntKind.i64.wrap ((i:Int)+1)=((i+1:Nat):Int):=by rw[IntKind.wrap_i64];omega
    go_wp2_with (at_builtin;refine Zr rfl _ _ 25 rfl _ _ _ rfl rfl r2 ?_;clear r2)
    have hBa2:Bw u1 (u7.alloc (.cells (LN z:List Value).toArray 24)):=Z0 HBr _
    have hBc:Bw u1 uc:=hBa2.grown rg2.out hBa2.size (fun k e=>by cases e;exact hlo)
    refine⟨⟨i+1,b5,c5,z5,by omega,by simp,rfl,f3,by rw[f4];omega,by have:=hBa2.size;rcases f1 with h | h<;>omega,f2,by rw[hnx.out];exact f5,hBc⟩,?_⟩
    simp[intOf];omega
  ·by_cases hjb:i<bs.length
   ·have hla:decide ((i:Int)<(aa.length:Int))=false:=by simp;omega
    have hlb:decide ((i:Int)<(bs.length:Int))=true:=by simp;omega
    have hj:i<cs.length:=by omega
    have hck:=hcs.out i hj
    have ex:aa.getD i 0=0:=by simp[List.getElem?_eq_none (show aa.length<=i by omega)]
    rw[ex] at hck
    clear ex
    have ix:In 0:=In_0
    have hXb:=hixb.out _ hjb
    have hXb:Hid _:=hXb
    have hgb':=hgb.resolve_left (by omega)
    have hRb:=(hSb.out.below hTw hgb').at _ hjb
    have hgb'':=Nat.lt_of_lt_of_le hgb' hTw.size
    have hRb:Hid _:=hRb
    have iy:=hnb.out _ hjb
    obtain⟨y,ey⟩: ∃z,bs.getD i 0=z:=⟨_,rfl⟩
    rw[ey] at hRb iy hck
    clear ey
    obtain⟨z,ez⟩: ∃z,(0+y)%q=z:=⟨_,rfl⟩
    rw[ez] at hck
    have hAd:Hid (∀u,CC 23 #[A4 0 0 0 0,NV y,NV q] u (.tuple #[NV z,.int .i64 0])):=fun u=>by have h:=xAdd 0 y q u ix iy hq hq0;rw[ez] at h;rw[NV_0] at h;exact h
    clear ez
    have K1_1:Bk wo.heap.size wo [(false,w.heap.size,LN q)]:=⟨.c lq_ Kq<|trivial,by simp⟩
    go_upto_region 5 with fail
    refine rgP K1_1 HBw HBw.size [] [] [(0,30,.int .i64 (i:Int)),(1,31,.slice sa aa.length ca),(2,32,.int .i64 (aa.length:Int)),(3,33,.bool false),(4,34,.bool false),(5,35,.int .i64 (i:Int)),(6,36,.slice sb bs.length cb),(7,37,.int .i64 (bs.length:Int)),(8,38,.bool true),(9,39,.bool true)] [] [] [] ?_ ?_
    ·exact oc g_mv<|oc g_mv<|oc (g_ln Tryz.underlying25)<|oc (g_bn (fun uZ=>Z7 _ _ (i:Int) (aa.length:Int) _ uZ hla))<|oc g_mv<|oc g_mv<|oc g_mv<|oc (g_ln Tryz.underlying25)<|oc (g_bn (fun uZ=>Z7 _ _ (i:Int) (bs.length:Int) _ uZ hlb))<|oc g_pk on
    intro u2 HB2 sz2 K2
    simp only[sQ] at K2⊢
    go_upto_region 7 with fail
    refine rgP K2 HB2 HB2.size [] [(2,10,L0s,some (4,[.int .u64 (0),.int .u64 (0),.int .u64 (0),.int .u64 (0)])),(3,11,L0s,some (5,[.int .u64 (0),.int .u64 (0),.int .u64 (0),.int .u64 (0)]))] [(0,42,A4 (0) (0) (0) (0)),(1,43,A4 (0) (0) (0) (0))] [(4,2),(5,3)] [] [] ?_ ?_
    ·exact oc (g_bd zN)<|oc (g_bd zN)<|oc (g_al 0 aN)<|oc (g_al 1 aN)<|oc (g_sn 0 iN)<|oc (g_sn 1 iN) on
    intro u3 b3_2 b3_3 HB3 sz3 K3
    simp only[sQ] at K3⊢
    clear K2 HB2
    go_upto_region 8 with fail
    refine rgP K3 HB3 HB3.size [] [] [(0,44,.int .i64 (i:Int)),(1,45,.slice sa aa.length ca),(2,46,.int .i64 (aa.length:Int)),(3,47,.bool false)] [] [] [] ?_ ?_
    ·exact oc g_mv<|oc g_mv<|oc (g_ln Tryz.underlying25)<|oc (g_bn (fun uZ=>Z7 _ _ (i:Int) (aa.length:Int) _ uZ hla)) on
    intro u4 HB4 sz4 K4
    simp only[sQ] at K4⊢
    clear K3 HB3
    go_upto_region 10 with fail
    refine rgP K4 HB4 HB4.size [] [] [(0,52,.int .i64 (i:Int)),(1,53,.slice sb bs.length cb),(2,54,.int .i64 (bs.length:Int)),(3,55,.bool true)] [] [] [] ?_ ?_
    ·exact oc g_mv<|oc g_mv<|oc (g_ln Tryz.underlying25)<|oc (g_bn (fun uZ=>Z7 _ _ (i:Int) (bs.length:Int) _ uZ hlb)) on
    intro u5 HB5 sz5 K5
    simp only[sQ] at K5⊢
    clear K4 HB4
    go_upto_region 11 with fail
    refine rgP K5 HB5 HB5.size [.no,.no,.all 4 (LN y)] [] [(0,56,.slice sb bs.length cb),(1,57,.int .i64 (i:Int)),(2,58,.pointer (some ⟨gb,ob+4*i,none⟩)),(3,59,NV y)] [] [] [] ?_ ?_
    ·exact oc g_mv<|oc g_mv<|oc (g_ix (fun uZ=>hXb.out uZ))<|oc (g_lf hRb.out hgb'' uN iN)<|oc (g_st 2 iN) on
    intro u6 HB6 sz6 K6
    simp only[sQ] at K6⊢
    clear K5 HB5
    go_upto_region 12 with fail
    refine rgP K6 HB6 HB6.size [] [(7,12,L0s,some (8,LN z))] [(0,61,.agg #[.int .u64 (0),.int .u64 (0),.int .u64 (0),.int .u64 (0)]),(1,62,NV y),(2,63,NV q),(3,64,.tuple #[NV z,.int .i64 0]),(4,60,.tuple #[NV z,.int .i64 0]),(5,65,NV z),(6,66,.int .i64 0),(9,13,.int .i64 0)] [(8,7)] [] [] ?_ ?_
    ·exact oc (g_ld 1 uN iN)<|oc (g_ld 2 uN iN)<|oc (g_ld 0 uN iN)<|oc (g_cl Zb (fun uZ=>hAd.out uZ))<|oc g_mv<|oc g_ex<|oc g_ex<|oc (g_al 0 aN)<|oc (g_sn 0 iN)<|oc g_as on
    intro u7 b7_7 HB7 sz7 K7
    simp only[sQ] at K7⊢
    clear K6 HB6
    have HBu:=HB7
    have KZ:CV u7 b7_7 (LN z):=(K7.cv 3)
    have x0:=(KZ 0 _ rfl).1
    have x1:=(KZ 1 _ rfl).1
    have x2:=(KZ 2 _ rfl).1
    have x3:=(KZ 3 _ rfl).1
    replace KV:Hid (CV u7 bo (flN (cs.take i)++zs)):=CV.below KV.out HBu hlt
    have hsb:=HBu.size
    replace HBr:=Z4 HBr HBu
    clear KZ
    have hnx:Hid (cs.take (i+1)=cs.take i++[z]):=by
     show cs.take (i+1)=cs.take i++[z]
     rw[List.take_add_one,List.getElem?_eq_getElem hj]
     simp[List.getElem?_eq_getElem hj] at hck
     simp[hck]
    have htl:(cs.take i).length=i:=by rw[List.length_take];omega
    obtain⟨v2,uc,r2,rg2,b5,c5,z5,rfl,f1,f2,f3,f4,f5⟩:=app_nn (ty:=25) (x:=z) KV.out (by omega) htl hic hzl (by omega)
    have f5:Hid _:=f5
    have rg2:Hid _:=rg2
    have e1:IntKind.i64.wrap ((i:Int)+1)=((i+1:Nat):Int):=by rw[IntKind.wrap_i64];omega
    go_wp2_with (at_builtin;refine Zr rfl _ _ 25 rfl _ _ _ rfl rfl r2 ?_;clear r2)
    have hBa2:Bw u1 (u7.alloc (.cells (LN z:List Value).toArray 24)):=Z0 HBr _
    have hBc:Bw u1 uc:=hBa2.grown rg2.out hBa2.size (fun k e=>by cases e;exact hlo)
    refine⟨⟨i+1,b5,c5,z5,by omega,by simp,rfl,f3,by rw[f4];omega,by have:=hBa2.size;rcases f1 with h | h<;>omega,f2,by rw[hnx.out];exact f5,hBc⟩,?_⟩
    simp[intOf];omega
   ·have hla:decide ((i:Int)<(aa.length:Int))=false:=by simp;omega
    have hlb:decide ((i:Int)<(bs.length:Int))=false:=by simp;omega
    have hio:i=cs.length:=by omega
    have hrow:NL wo (.slice (some ⟨bo,0,none⟩) i co) cs:=nl_row hlt (by have:=KV.out;rwa [hio,List.take_length] at this) hio.symm hic
    replace hio:Hid _:=hio
    have K1_1:Bk wo.heap.size wo [(false,w.heap.size,LN q)]:=⟨.c lq_ Kq<|trivial,by simp⟩
    go_upto_region 5 with fail
    refine rgP K1_1 HBw HBw.size [] [] [(0,30,.int .i64 (i:Int)),(1,31,.slice sa aa.length ca),(2,32,.int .i64 (aa.length:Int)),(3,33,.bool false),(4,34,.bool false),(5,35,.int .i64 (i:Int)),(6,36,.slice sb bs.length cb),(7,37,.int .i64 (bs.length:Int)),(8,38,.bool false),(9,39,.bool false)] [] [] [] ?_ ?_
    ·exact oc g_mv<|oc g_mv<|oc (g_ln Tryz.underlying25)<|oc (g_bn (fun uZ=>Z7 _ _ (i:Int) (aa.length:Int) _ uZ hla))<|oc g_mv<|oc g_mv<|oc g_mv<|oc (g_ln Tryz.underlying25)<|oc (g_bn (fun uZ=>Z7 _ _ (i:Int) (bs.length:Int) _ uZ hlb))<|oc g_pk on
    intro u2 HB2 sz2 K2
    simp only[sQ] at K2⊢
    go_upto_region 14 with fail
    refine rgP K2 HB2 HB2.size [] [] [(0,71,.slice (some ⟨bo,0,none⟩) i co),(1,6,.slice (some ⟨bo,0,none⟩) i co),(2,7,(Go.Value.int Go.IntKind.i64 0))] [] [] [] ?_ ?_
    ·exact oc g_mv<|oc g_as<|oc g_as on
    intro u3 HB3 sz3 K3
    simp only[sQ] at K3⊢
    clear K2 HB2
    go_wp2
    exact bodyPost_ret (v:= .tuple #[.slice (some ⟨bo,0,none⟩) i co,.int .i64 0]) (by simp[results,Tryz.results14,go_sem]) rfl ⟨_,rfl,hrow.up HB3,Z4 hTw HB3⟩
theorem xPointsA(q:Int)(ns xs:List Int)(v vx:Value)(w:World)(hq:In q)(hv:NL w v ns)(hns: ∀z∈ns,In z)(hl:ns.length<=256)(hvx:IL w vx xs)(hx: ∀x∈xs,-9223372036854775808<=x/\x<=9223372036854775807)(hxl:xs.length<=256):
 Calls Tryz.prog 12 #[NV q,v,vx] w fun e u=> ∃y,e= .returned (.tuple #[y,.int .i64 (ptY q ns xs)])/\PtL u y (ptX q ns xs)/\Bw w u:=by
 have hv':=hv
 obtain⟨sl,gb,go,cap,rfl,_⟩:=hv
 obtain⟨si,gi,oi,ci,rfl,i2,i3,i4,i5,i6⟩:=hvx
 have hR:=fun u=>xRight q u hq
 have hM:=fun u=>xMany ns.length u hl
 have fin: ∀(e:Ending) (u:World),(e= .returned (.tuple #[.slice none 0 0,.int .i64 2])/\Bw w u)-> ∃y,e= .returned (.tuple #[y,.int .i64 2])/\PtL u y []/\Bw w u:=fun e u ⟨h1,h2⟩=>⟨_,h1,PtL.nil u,h2⟩
 unfold ptX ptY
 by_cases hq2:2<=q
 ·rw[decide_eq_true hq2] at hR
  by_cases h1:1<=ns.length
  ·rw[decide_eq_true h1] at hM
   refine xPoints_ok q sl si ns.length cap gi oi ci xs (pts q ns xs) _ (fun k=>hoN q (xs.getD k 0) ns ns.length) _ w hR hM (by simp;omega) (by omega) (pts_len q ns xs) (fun k hk=>pts_get hk) (fun h=>⟨i4.resolve_left (fun e=>by subst e;simp at h),i5.resolve_left (by omega)⟩) i6 (fun k hk=>hx _ (by simp[List.getElem?_eq_getElem hk])) (fun k u hk hp hB=>?_) (fun k hk h=>?_) (fun h=>?_)
   ·have:=xEvalR q (xs.getD k 0) ns _ u hq ⟨hp,by have:=(hx (xs.getD k 0) (by simp[List.getElem?_eq_getElem hk])).2;omega⟩ (hv'.up hB) hns hl
    unfold evX evE at this
    rw[if_pos ⟨hq2,h1⟩,if_pos ⟨hq2,h1⟩] at this
    exact this
   ·rw[if_neg,if_neg]
    ·exact⟨rfl,rfl⟩
    all_goals (intro hp;have:=poS_get hp.2 k hk;omega)
   ·rw[if_pos,if_pos]
    ·exact⟨rfl,rfl⟩
    all_goals exact⟨⟨hq2,h1⟩,poS_of h⟩
  ·rw[decide_eq_false h1] at hM
   rw[if_neg (fun h=>h1 h.1.2),if_neg (fun h=>h1 h.1.2)]
   exact(xPoints_n q sl si _ cap _ ci w hR hM).mono fin
 ·rw[decide_eq_false hq2] at hR
  rw[if_neg (fun h=>hq2 h.1.1),if_neg (fun h=>hq2 h.1.1)]
  exact(xPoints_q q sl si _ cap _ ci w hR).mono fin
theorem xAddA(q:Int)(aa bs:List Int)(v vb:Value)(w:World)(hq:In q)(hv:NL w v aa)(hna: ∀z∈aa,In z)(hl:aa.length<=256)(hvb:NL w vb bs)(hnb: ∀z∈bs,In z)(hlb:bs.length<=256):
 Calls Tryz.prog 14 #[NV q,v,vb] w fun e u=> ∃y,e= .returned (.tuple #[y,.int .i64 (adY q aa bs)])/\NL u y (adX q aa bs)/\Bw w u:=by
 obtain⟨sa,ga,oa,ca,rfl,a2,a3,a4,a5,a6⟩:=hv
 obtain⟨sb,gb,ob,cb,rfl,b2,b3,b4,b5,b6⟩:=hvb
 have hR:=fun u=>xRight q u hq
 have hM:=fun u=>xMany aa.length u hl
 have hM2:=fun u=>xMany bs.length u hlb
 have fin: ∀(e:Ending) (u:World),(e= .returned (.tuple #[.slice none 0 0,.int .i64 2])/\Bw w u)-> ∃y,e= .returned (.tuple #[y,.int .i64 2])/\NL u y []/\Bw w u:=fun e u ⟨h1,h2⟩=>⟨_,h1,NL.nil u,h2⟩
 unfold adX adY
 by_cases hq2:2<=q
 ·rw[decide_eq_true hq2] at hR
  by_cases h1:1<=aa.length
  ·rw[decide_eq_true h1] at hM
   by_cases h2:1<=bs.length
   ·rw[decide_eq_true h2] at hM2
    rw[if_pos ⟨⟨hq2,h1⟩,h2⟩,if_pos ⟨⟨hq2,h1⟩,h2⟩]
    exact xAdd_ok q sa sb ga oa ca gb ob cb aa bs (adS q aa bs) w hR hM hM2 hq (by omega) (by omega) (by omega) (NL.ix (u:=w) a4) a5 a6 (Zt hna) (NL.ix (u:=w) b4) b5 b6 (Zt hnb) (by show max aa.length bs.length=(adS q aa bs).length;unfold adS;rw[Yi]) (fun k hk=>by unfold adS at hk⊢;rw[Yi] at hk;rw[X7 hk])
   ·rw[decide_eq_false h2] at hM2
    rw[if_neg (fun h=>h2 h.2),if_neg (fun h=>h2 h.2)]
    exact(xAdd_m q sa sb _ ca _ cb w hR hM hM2).mono fin
  ·rw[decide_eq_false h1] at hM
   rw[if_neg (fun h=>h1 h.1.2),if_neg (fun h=>h1 h.1.2)]
   exact(xAdd_n q sa sb _ ca _ cb w hR hM).mono fin
 ·rw[decide_eq_false hq2] at hR
  rw[if_neg (fun h=>hq2 h.1.1),if_neg (fun h=>hq2 h.1.1)]
  exact(xAdd_q q sa sb _ ca _ cb w hR).mono fin
theorem cFewN(ns:List Int)(v:Value)(w:World)(hv:NL w v ns)(hl:ns.length<=12):Calls Tryz.prog 7 #[v] w fun e u=> ∃y,e= .returned y/\NL u y ns/\Bw w u:=by
 obtain⟨sl,gb,go,cap,rfl,h2,h3,h4,h5,h6⟩:=hv
 exact few_core sl ns.length cap ns.length gb go ns w (by omega) rfl (Nat.le_refl _) h2 h3 hl (h4.imp (fun e=>by simp[e]) id) h5 h6
theorem app_i0{u:World}{b c:Nat}{sl:Option Addr}{gb go:Nat}{xs:List Int}{ty:TypeId}(hb:b<u.heap.size)(hc:CV u b [])(hl:xs.length<=100000)(hs:xs.length=0\/sl=some ⟨gb,go,none⟩)(hS: ∀j,j<xs.length->u.cell? ⟨gb,go+j,none⟩=some (.int .i64 (xs.getD j 0))):
 ∃v u',(Builtin.append_ #[26,26] ty #[.slice (some ⟨b,0,none⟩) 0 0,.slice sl xs.length c]).run Tryz.prog u= .ok v u'/\Bw u u'/\(∃b2 c2,v= .slice (some ⟨b2,0,none⟩) xs.length c2)/\IL u' v xs:=by
 obtain⟨ti,hti,htm⟩:=Option.map_eq_some_iff.1 infoI
 simp only[Prod.mk.injEq] at htm
 obtain⟨hzv,hsz,hby⟩:=htm
 obtain⟨v',u',hr,hB,hg⟩:=run_appF (P:=Tryz.prog) u (ty:=ty) Tryz.underlying26 hti hzv (by rw[hsz];rfl) (lo:=0) (n:=0) (m:=xs.length) (xs:=[]) (news:=iV xs) (y:= .slice sl xs.length c) hc (Nat.zero_le _) (Nat.zero_le _) hb (by rw[hsz];rfl) ⟨sl,c,rfl,hs.imp id fun e=>⟨_,e,fun j v hj=>by
  have hj2:j<xs.length:=by have:=(List.getElem?_eq_some_iff.1 hj).1;rwa [iV_len] at this
  have e:(⟨gb,go,none⟩:Addr).add j=⟨gb,go+j,none⟩:=by unfold Addr.add;split<;>simp_all
  rw[e,hS j hj2]
  rw[<-hj]
  simp[iV,List.getElem?_map,List.getElem?_eq_getElem hj2]⟩⟩ (by rw[hsz,iV_len];omega) (by rw[hby];omega) (by omega)
 rw[hsz,List.nil_append,Nat.zero_add] at hg
 obtain⟨b2,c2,zs,rfl,h1,h2,h3,h4,h5⟩:=hg
 exact⟨_,u',hr,hB,⟨b2,c2,rfl⟩,il_row h2 h5 rfl h3⟩
theorem cInts(xs:List Int)(v:Value)(w:World)(hv:IL w v xs)(hl:xs.length<=1000):Calls Tryz.prog 11 #[v] w fun e u=> ∃y,e= .returned y/\IL u y xs/\Bw w u:=by
 obtain⟨sl,gb,go,cap,rfl,h2,h3,h4,h5,h6⟩:=hv
 have hbs:=bsI0
 obtain⟨v',u',r,hB,⟨b2,c2,rfl⟩,hN⟩:=app_i0 (u:=w.alloc (.cells #[] 3)) (b:=w.heap.size) (c:=cap) (sl:=sl) (gb:=gb) (go:=go) (xs:=xs) (ty:=26) (by simp) (CV.new w [] 3) (by omega) (h4.imp (fun e=>by simp[e]) id) (fun j hj=>((Z0 (Z1 w) (.cells #[] 3)).cell (p:=⟨gb,go+j,none⟩) (h5.resolve_left (by omega))).trans (h6 j hj))
 have hB2:Bw w u':=Z4 (Z0 (Z1 w) (.cells #[] 3)) hB
 have hN:Hid (IL u' (.slice (some ⟨b2,0,none⟩) xs.length c2) xs):=hN
 clear hB h2 h3 h4 h5 h6
 obtain⟨m,hm⟩: ∃m,xs.length=m:=⟨_,rfl⟩
 rw[hm] at r hN⊢
 clear hm
 go_enter Tryz.func11,Tryz.ntmps11
 go_wp2_with (at_builtin;refine Zr rfl _ _ 26 rfl _ _ _ rfl rfl r ?_;clear r)
 exact bodyPost_ret (v:= .slice (some ⟨b2,0,none⟩) m c2) (by simp[results,Tryz.results11,go_sem]) rfl ⟨_,rfl,hN.out,hB2⟩
theorem sameN_core(sa sb:Option Addr)(ga oa ca gb ob cb:Nat)(ns:List Int)(w:World)(hns:ns.length<=1000)(hixa:Hid (∀j,j<ns.length-> ∀W,(Instr.indexAt 25 (.slice sa ns.length ca) (.int .i64 j)).run Tryz.prog W= .ok (.pointer (some ⟨ga,oa+4*j,none⟩)) W))(hga:ns.length=0\/ga<w.heap.size)(hSa:Hid (SN w ga oa ns))(hixb:Hid (∀j,j<ns.length-> ∀W,(Instr.indexAt 25 (.slice sb ns.length cb) (.int .i64 j)).run Tryz.prog W= .ok (.pointer (some ⟨gb,ob+4*j,none⟩)) W))(hgb:ns.length=0\/gb<w.heap.size)(hSb:Hid (SN w gb ob ns))(hn:Hid (∀k,k<ns.length->In (ns.getD k 0))):
 CC 15 #[.slice sa ns.length ca,.slice sb ns.length cb] w (.bool true):=by
 have hne:(((ns.length:Nat):Int) !=((ns.length:Nat):Int))=false:=by simp
 go_enter Tryz.func15,Tryz.ntmps15
 have HB0:Bw w w:=Below.refl _ _
 have K0_1:=Bk.nil (w.heap.size) w
 go_upto_region 1 with fail
 refine rgP K0_1 HB0 HB0.size [] [] [(0,6,.slice sa ns.length ca),(1,7,.int .i64 (ns.length:Int)),(2,8,.slice sb ns.length cb),(3,9,.int .i64 (ns.length:Int)),(4,10,.bool false)] [] [] [] ?_ ?_
 ·exact oc g_mv<|oc (g_ln Tryz.underlying25)<|oc g_mv<|oc (g_ln Tryz.underlying25)<|oc (g_bn (fun uZ=>neq_i _ _ _ (ns.length:Int) (ns.length:Int) _ uZ hne)) on
 intro u1 HB1 sz1 K1
 simp only[sQ] at K1⊢
 clear HB0
 go_upto_region 3 with fail
 refine rgP K1 HB1 HB1.size [] [] [(0,5,(Go.Value.int Go.IntKind.i64 0))] [] [] [] ?_ ?_
 ·exact oc g_as on
 intro u2 HB2 sz2 K2
 simp only[sQ] at K2⊢
 clear K1 HB1
 go_wp2_with fail
 go_loopw [5] (fun s5 wr=> ∃(k:Nat),k<=ns.length/\s5= .int .i64 (k:Int)/\Bw w wr) (fun s5 _=>ns.length -(intOf s5).toNat)
 case atStart=>exact⟨0,by omega,rfl,HB2⟩
 case round=>
  obtain⟨k,hk,rfl,HBr⟩:=hrel
  clear HB2
  by_cases hj:k<ns.length
  ·have hl:decide ((k:Int)<(ns.length:Int))=true:=by simp;omega
   have hXa:=hixa.out _ hj
   have hXb:=hixb.out _ hj
   have hXa:Hid _:=hXa
   have hXb:Hid _:=hXb
   have hga':=hga.resolve_left (by omega)
   have hgb':=hgb.resolve_left (by omega)
   have hRa:=hSa.out.at _ hj
   have hRb:=hSb.out.at _ hj
   have ix:=hn.out _ hj
   obtain⟨x,ex⟩: ∃z,ns.getD k 0=z:=⟨_,rfl⟩
   rw[ex] at hRa hRb ix
   clear ex
   have hRa:Hid _:=hRa
   have hRb:Hid _:=hRb
   have K2_2:=Bk.nil (w.heap.size) wr
   go_upto_region 4 with fail
   refine rgP K2_2 HBr HBr.size [] [] [(0,11,.int .i64 (k:Int)),(1,12,.slice sa ns.length ca),(2,13,.int .i64 (ns.length:Int)),(3,14,.bool true)] [] [] [] ?_ ?_
   ·exact oc g_mv<|oc g_mv<|oc (g_ln Tryz.underlying25)<|oc (g_bn (fun uZ=>Z7 _ _ (k:Int) (ns.length:Int) _ uZ hl)) on
   intro u3 HB3 sz3 K3
   simp only[sQ] at K3⊢
   go_upto_region 6 with fail
   refine rgD K3 HB3 HB3.size [] [] [(0,17,.slice sa ns.length ca),(1,18,.int .i64 (k:Int)),(2,19,.pointer (some ⟨ga,oa+4*k,none⟩)),(3,20,NV x),(4,21,.slice sb ns.length cb),(5,22,.int .i64 (k:Int)),(6,23,.pointer (some ⟨gb,ob+4*k,none⟩)),(7,24,NV x),(8,25,.bool false)] [] [] [] ?_ ?_
   ·exact oc g_mv<|oc g_mv<|oc (g_ix (fun uZ=>hXa.out uZ))<|oc (g_lf hRa.out hga' uN iN)<|oc g_mv<|oc g_mv<|oc (g_ix (fun uZ=>hXb.out uZ))<|oc (g_lf hRb.out hgb' uN iN)<|oc (g_bn (fun uZ=>neq_n _ _ ix ix false (by simp) uZ)) on
   intro u4 HB4 sz4 K4
   simp only[sQ] at K4⊢
   clear K3 HB3
   go_upto_region 5 with fail
   refine rgP K4 HB4 HB4.size [] [] [(0,15,.int .i64 (k:Int)),(1,16,.int .i64 ((k+1:Nat):Int)),(2,5,.int .i64 ((k+1:Nat):Int))] [(2,0)] [(2,5)] [] ?_ ?_
   ·exact oc g_mv<|oc (g_bn (fun uZ=>Yy _ _ (k:Int) 1 ((k+1:Nat):Int) uZ (by omega) (by omega) (by omega)))<|oc g_as on
   intro u5 HB5 sz5 K5
   simp only[sQ] at K5⊢
   clear K4 HB4
   go_wp2
   refine⟨⟨k+1,by omega,rfl,HB5⟩,?_⟩
   simp[intOf]<;>omega
  ·have hl:decide ((k:Int)<(ns.length:Int))=false:=by simp;omega
   have K2_2:=Bk.nil (w.heap.size) wr
   go_upto_region 4 with fail
   refine rgP K2_2 HBr HBr.size [] [] [(0,11,.int .i64 (k:Int)),(1,12,.slice sa ns.length ca),(2,13,.int .i64 (ns.length:Int)),(3,14,.bool false)] [] [] [] ?_ ?_
   ·exact oc g_mv<|oc g_mv<|oc (g_ln Tryz.underlying25)<|oc (g_bn (fun uZ=>Z7 _ _ (k:Int) (ns.length:Int) _ uZ hl)) on
   intro u3 HB3 sz3 K3
   simp only[sQ] at K3⊢
   go_upto_region 8 with fail
   refine rgP K3 HB3 HB3.size [] [] [(0,4,(Go.Value.bool Bool.true))] [] [] [] ?_ ?_
   ·exact oc g_as on
   intro u4 HB4 sz4 K4
   simp only[sQ] at K4⊢
   clear K3 HB3
   go_wp2
   refine bodyPost_ret (v:= .bool true) (by simp[results,Tryz.results15,go_sem,]) rfl ⟨rfl,HB4⟩
theorem cSameN(ns:List Int)(va vb:Value)(w:World)(ha:NL w va ns)(hb:NL w vb ns)(hns: ∀z∈ns,In z)(hl:ns.length<=1000):CC 15 #[va,vb] w (.bool true):=by
 obtain⟨sa,ga,oa,ca,rfl,a2,a3,a4,a5,a6⟩:=ha
 obtain⟨sb,gb,ob,cb,rfl,b2,b3,b4,b5,b6⟩:=hb
 exact sameN_core sa sb ga oa ca gb ob cb ns w hl (NL.ix (u:=w) a4) a5 a6 (NL.ix (u:=w) b4) b5 b6 (Zt hns)
end Go.Proofs.YtgieoghechekpaaGreatDoor
