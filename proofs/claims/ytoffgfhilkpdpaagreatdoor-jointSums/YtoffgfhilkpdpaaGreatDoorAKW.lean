import Derived.Test.YtoffgfhilkpdpaaGreatDoorLC5
namespace Go.Proofs.YtoffgfhilkpdpaaGreatDoor
set_option linter.unusedVariables false
set_option linter.unusedSimpArgs false
set_option maxRecDepth 100000
set_option maxHeartbeats 4000000
open Go.RowKit
theorem bsQ1(x:Int)(w:World):(Instr.buildSlice 31 1 #[(0,NV x)]).run Tryz.prog w= .ok (.slice (some ⟨w.heap.size,0,none⟩) 1 1) (w.alloc (.cells (LN x:List Value).toArray 24)):=by kernel_rfl
theorem app_nq{u:World}{bo m co:Nat}{ns:List Int}{zs:List Value}{x:Int}{ty:TypeId}(hc:CV u bo (flN ns++zs))(hb:bo<u.heap.size)(hm:ns.length=m)(hmc:m<=co)(hz:zs.length=4*(co -m))(hl:m<=1000000):
 ∃v u',(Builtin.append_ #[31,31] ty #[.slice (some ⟨bo,0,none⟩) m co,.slice (some ⟨u.heap.size,0,none⟩) 1 1]).run Tryz.prog (u.alloc (.cells (LN x:List Value).toArray 24))= .ok v u'/\(u.alloc (.cells (LN x:List Value).toArray 24)).grownBy u' (some bo)/\PH (u.alloc (.cells (LN x:List Value).toArray 24)).heap.size bo 4 (m+1) (flN (ns++[x])) u' v:=by
 obtain⟨ti,hti,htm⟩:=Option.map_eq_some_iff.1 infoNt
 simp only[Prod.mk.injEq] at htm
 obtain⟨hzv,hsz,hby⟩:=htm
 have hss:u.heap.size<=(u.alloc (.cells (LN x:List Value).toArray 24)).heap.size:=by simp
 obtain⟨v',u',hr,hg,hp⟩:=V2 (P:=Tryz.prog) (u.alloc (.cells (LN x:List Value).toArray 24)) (ty:=ty) Tryz.underlying31 hti hzv (by rw[hsz];rfl) (base:=(u.alloc (.cells (LN x:List Value).toArray 24)).heap.size) (n:=m) (cap:=co) (m:=1) (news:=LN x) (y:= .slice (some ⟨u.heap.size,0,none⟩) 1 1) (hc.below (Z5 (Zf u) _) hb) (Nat.lt_of_lt_of_le hb hss) (by rw[hsz,Xf];omega) (by rw[hsz];omega) hmc (Nat.le_refl _) ⟨_,1,rfl,.inr ⟨_,rfl,fun j v hj=>by
  have:=(CV.new u (LN x) 24 j v hj).1
  rw[Addr.add0];exact this⟩⟩ (by rw[hsz];rfl) (fun v hv=>by simp at hv;rcases hv with h | h | h | h<;>(subst h;rfl)) (by rw[hby];omega) Z1
 rw[hsz] at hp
 rw[show flN ns++LN x=flN (ns++[x]) by rw[Xn];simp[flN]] at hp
 exact⟨v',u',hr,hg,hp⟩
theorem nl_rq{u:World}{b m c:Nat}{ns:List Int}{zs:List Value}(hb:b<u.heap.size)(h:CV u b (flN ns++zs))(hm:ns.length=m)(hc:m<=c):NL u (.slice (some ⟨b,0,none⟩) m c) ns:=by
 subst hm
 refine⟨_,b,0,c,rfl,hc,(by simp),.inr rfl,.inr hb,fun j v hj=>?_⟩
 rw[Nat.zero_add]
 exact(h j v (by rw[List.getElem?_append_left (List.getElem?_eq_some_iff.1 hj).1];exact hj)).1
theorem bsQ0(w:World):(Instr.buildSlice 31 0 #[]).run Tryz.prog w= .ok (.slice (some ⟨w.heap.size,0,none⟩) 0 0) (w.alloc (.cells #[] 24)):=by kernel_rfl
def FRw(lo:Nat)(r:Int)(fs:List Int)(u:World)(y:Value):Prop:=(∃s n c,y= .slice s n c)/\(r=0-> ∃b co zs,y= .slice (some ⟨b,0,none⟩) fs.length co/\lo<=b/\b<u.heap.size/\fs.length<=co/\CV u b (flN fs++zs))
theorem ent_W1:EnT 81:=fun _ _=>by kernel_rfl
theorem ent_W2:EnT 82:=fun _ _=>by kernel_rfl
theorem ent_W3:EnT 107:=fun _ _=>by kernel_rfl
theorem ent_W4:EnT 19:=fun _ _=>by kernel_rfl
theorem ent_W5:EnT 108:=fun _ _=>by kernel_rfl
theorem xfac_n(q t:Int)(sl:Option Addr)(cap:Nat)(ns:List Int)(w:World)(hRi:Hid (∀u,CC 81 #[NV q] u (.bool true)))(hMa:Hid (∀u,CC 82 #[.int .i64 (ns.length:Int)] u (.bool false))):
 CC 83 #[NV q,NV t,.slice sl ns.length cap] w (.tuple #[.slice none 0 0,.int .i64 2]):=by
 go_enter Tryz.func83,Tryz.ntmps83
 go_upto_region 1 with fail
 obtain⟨v0,hC,HB0,K0⟩:=bx2 w (LN q) 24 (LN t) 24
 rw[hC]
 clear hC
 refine Rn K0 HB0 [(0,21,NV q),(1,22,.bool true),(2,23,.bool false),(3,24,.bool false),(4,25,.slice sl ns.length cap),(5,26,.int .i64 (ns.length:Int)),(6,27,.bool false),(7,28,.bool true),(8,29,.bool true)] ?_ ?_
 ·exact Oc9 (g_ld 0 uN iN) (g_cl ent_W1 (fun uZ=>hRi.out uZ)) (g_un (fun uZ=>Xe uZ)) g_mv g_mv (g_ln Tryz.underlying31) (g_cl ent_W2 (fun uZ=>hMa.out uZ)) (g_un (fun uZ=>not_f uZ)) g_pk
 intro u1 HB1 sz1 K1
 simp only[sQ] at K1⊢
 clear K0 HB0
 go_upto_region 2 with fail
 refine Rn K1 HB1 [(0,6,(Go.Value.slice Option.none 0 0)),(1,7,(Go.Value.int Go.IntKind.i64 2))] ?_ ?_
 ·exact Oc2 g_as g_as
 intro u2 HB2 sz2 K2
 simp only[sQ] at K2⊢
 clear K1 HB1
 go_wp2
 refine bodyPost_ret (v:= .tuple #[.slice none 0 0,.int .i64 2]) (by simp[results,Tryz.results83,go_sem,]) rfl ⟨rfl,HB2⟩
theorem xfac_core(q t r:Int)(sl:Option Addr)(gb go cap:Nat)(ns vs fs:List Int)(w:World)(hq:In q)(hq0:q≠0)(ht:In t)(hRi:Hid (∀u,CC 81 #[NV q] u (.bool true)))(hMa:Hid (∀u,CC 82 #[.int .i64 (ns.length:Int)] u (.bool true)))(hix:Hid (∀j,j<ns.length-> ∀W,(Instr.indexAt 31 (.slice sl ns.length cap) (.int .i64 j)).run Tryz.prog W= .ok (.pointer (some ⟨gb,go+4*j,none⟩)) W))(hg:ns.length=0\/gb<w.heap.size)(hS:Hid (SN w gb go ns))(hn:Hid (∀k,k<ns.length->In (ns.getD k 0)))(hns:ns.length<=1000)(hfl:Hid (fs.length=ns.length))(hfs:Hid (∀i,i<ns.length->fs.getD i 0=(tpN q t ns i ns.length*vs.getD i 0)%q))(hvs:Hid (∀i,i<ns.length->gI q (dsN q ns i ns.length%q)=1->IsInv (dsN q ns i ns.length%q) q (vs.getD i 0)))(hno:Hid (∀i,i<ns.length-> ¬gI q (dsN q ns i ns.length%q)=1->r=100))(hyes:Hid ((∀i,i<ns.length->gI q (dsN q ns i ns.length%q)=1)->r=0)):
 Calls Tryz.prog 83 #[NV q,NV t,.slice sl ns.length cap] w fun e' w'=> ∃y,e'= .returned (.tuple #[y,.int .i64 r])/\FRw w.heap.size r fs w' y/\Bw w w':=by
 go_enter Tryz.func83,Tryz.ntmps83
 go_upto_region 1 with fail
 obtain⟨v0,hC,HB0,K0⟩:=bx2 w (LN q) 24 (LN t) 24
 rw[hC]
 clear hC
 refine Rn K0 HB0 [(0,21,NV q),(1,22,.bool true),(2,23,.bool false),(3,24,.bool false),(4,25,.slice sl ns.length cap),(5,26,.int .i64 (ns.length:Int)),(6,27,.bool true),(7,28,.bool false),(8,29,.bool false)] ?_ ?_
 ·exact Oc9 (g_ld 0 uN iN) (g_cl ent_W1 (fun uZ=>hRi.out uZ)) (g_un (fun uZ=>Xe uZ)) g_mv g_mv (g_ln Tryz.underlying31) (g_cl ent_W2 (fun uZ=>hMa.out uZ)) (g_un (fun uZ=>Xe uZ)) g_pk
 intro u1 HB1 sz1 K1
 simp only[sQ] at K1⊢
 clear K0 HB0
 have hnK1:=K1.n
 simp at hnK1
 have hT1:Bw w u1:=Z7 (Below.refl w.heap.size w) HB1
 have HBz1:Bw u1 u1:=Below.refl _ _
 have hbs:=bsQ0
 have hb1:=bsQ1
 go_wp2_with fail
 go_loopw [9,8] (fun s9 s8 wr=> ∃(i bo co:Nat) (zs:List Value),i<=ns.length/\s9= .int .i64 (i:Int)/\s8= .slice (some ⟨bo,0,none⟩) i co/\i<=co/\zs.length=4*(co -i)/\u1.heap.size<=bo/\bo<wr.heap.size/\Hid (CV wr bo (flN (fs.take i)++zs))/\Bw u1 wr/\Hid (∀j,j<i->gI q (dsN q ns j ns.length%q)=1)) (fun s9 _ _=>ns.length -(intOf s9).toNat)
 case atStart=>exact⟨0,u1.heap.size,0,[],Z1,rfl,rfl,Z1,rfl,Nat.le_refl _,by simp,(fun j v h=>by simp[flN] at h),Z5 (Zf u1) _,fun j hj=>Z1⟩
 case round=>
  obtain⟨i,bo,co,zs,hi,rfl,rfl,hic,hzl,hlo,hlt,KV,HBr,hpo⟩:=hrel
  obtain⟨wo,rfl⟩:=Zr wr
  have Kq:CV wo w.heap.size (LN q):=CV.below (K1.cv 0) HBr (K1.lt 0)
  have lq_:w.heap.size<wo.heap.size:=Nat.lt_of_lt_of_le (K1.lt 0) HBr.size
  have Kt:CV wo (w.heap.size+1) (LN t):=CV.below (K1.cv 1) HBr (K1.lt 1)
  have lt_:w.heap.size+1<wo.heap.size:=Nat.lt_of_lt_of_le (K1.lt 1) HBr.size
  have hTw:Bw w wo:=Z7 hT1 HBr
  have HBw:Bw wo wo:=Below.refl _ _
  have hSo:Hid (SN wo gb go ns):=SN.below2 hS.out hTw hg
  have hgo:ns.length=0\/gb<wo.heap.size:=hg.imp id fun e=>Nat.lt_of_lt_of_le e hTw.size
  by_cases hj:i<ns.length
  ·have hl:decide ((i:Int)<(ns.length:Int))=true:=by simp;omega
   have hXi:=hix.out _ hj
   have hXi:Hid _:=hXi
   have hRi':=hSo.out.at _ hj
   have hRi':Hid _:=hRi'
   have hg':=hgo.resolve_left Z1
   have ixi:=hn.out i hj
   have hds:=ds_tp (q:=q) (ns:=ns) (i:=i) ns.length
   have hfk:=hfs.out i hj
   have hvk:=hvs.out i hj
   have hnk:=hno.out i hj
   have hp1:Hid (gI q (dsN q ns i ns.length%q)=1-> ∀j,j<i+1->gI q (dsN q ns j ns.length%q)=1):=fun e j hjk=>by
    by_cases ej:j=i
    ·subst ej;exact e
    ·exact hpo.out j Z1
   rw[hds] at hvk hnk hp1
   clear hds
   obtain⟨x,ex⟩:=Z3 (ns.getD i 0)
   rw[ex] at hRi' ixi hvk hnk hp1
   clear ex
   have hvk:Hid _:=hvk
   have hnk:Hid _:=hnk
   have hfk:Hid _:=hfk
   have K1_1:Bk wo.heap.size wo [(false,w.heap.size,LN q),(false,w.heap.size+1,LN t)]:=⟨.c lq_ Kq<| .c lt_ Kt<|trivial,by simp<;>omega⟩
   go_upto_region 5 with fail
   refine Rn K1_1 HBw [(0,31,.int .i64 (i:Int)),(1,32,.slice sl ns.length cap),(2,33,.int .i64 (ns.length:Int)),(3,34,.bool true)] ?_ ?_
   ·exact Oc4 g_mv g_mv (g_ln Tryz.underlying31) (g_bn (fun uZ=>Za _ _ (i:Int) (ns.length:Int) _ uZ hl))
   intro u2 HB2 sz2 K2
   simp only[sQ] at K2⊢
   go_upto_region 7 with fail
   refine Rp K2 HB2 [] [(2,10,L0s,some (4,LN 1)),(3,11,L0s,some (5,LN 1))] [(0,37,NV 1),(1,38,NV 1)] [(4,2),(5,3)] [] [] ?_ ?_
   ·exact Oc6 (g_bd (fun uZ=>bdNk 1 Z1 Z1 uZ)) (g_bd (fun uZ=>bdNk 1 Z1 Z1 uZ)) (g_al 0 aN) (g_al 1 aN) (g_sn 0 iN) (g_sn 1 iN)
   intro u3 b3_2 b3_3 HB3 sz3 K3
   simp only[sQ] at K3⊢
   clear K2 HB2
   go_upto_region 8 with fail
   refine Rn K3 HB3 [(0,12,(Go.Value.int Go.IntKind.i64 0))] ?_ ?_
   ·exact Oc1 g_as
   intro u4 HB4 sz4 K4
   simp only[sQ] at K4⊢
   clear K3 HB3
   go_wp2_with fail
   go_loopw [12] (fun s12 wr=> ∃(m:Nat),m<=ns.length/\s12= .int .i64 (m:Int)/\Bw wo wr/\CV wr (w.heap.size) (LN q)/\w.heap.size<wr.heap.size/\CV wr (w.heap.size+1) (LN t)/\w.heap.size+1<wr.heap.size/\CV wr b3_2 (LN (tpN q t ns i m))/\b3_2<wr.heap.size/\CV wr b3_3 (LN (tpN q x ns i m))/\b3_3<wr.heap.size) (fun s12 _=>ns.length -(intOf s12).toNat)
   case atStart=>exact⟨0,Z1,rfl,HB4,(K4.cv 0),(K4.lt 0),(K4.cv 1),(K4.lt 1),(K4.cv 2),(K4.lt 2),(K4.cv 3),(K4.lt 3)⟩
   case round=>
    obtain⟨m,hm,rfl,HBs,D0,lD0,D1,lD1,D2,lD2,D3,lD3⟩:=hrel
    clear HB4
    have hnK:=K4.n
    simp at hnK
    have hoK2:=K4.lo 2
    have hoK3:=K4.lo 3
    by_cases hjm:m<ns.length
    ·have hl2:decide ((m:Int)<(ns.length:Int))=true:=by simp;omega
     by_cases emi:m=i
     ·have he:((m:Int)==(i:Int))=true:=by rw[beq_iff_eq];omega
      have ha:Hid (tpN q t ns i (m+1)=tpN q t ns i m):=if_pos emi
      have hb:Hid (tpN q x ns i (m+1)=tpN q x ns i m):=if_pos emi
      clear emi
      have K4_2:Bk wo.heap.size wr [(false,w.heap.size,LN q),(false,w.heap.size+1,LN t),(true,b3_2,LN (tpN q t ns i m)),(true,b3_3,LN (tpN q x ns i m))]:=⟨.c lD0 D0<| .c lD1 D1<| .o lD2 (K4.lo 2) D2<| .o lD3 (K4.lo 3) D3<|trivial,by simp<;>omega⟩
      go_upto_region 9 with fail
      refine Rn K4_2 HBs [(0,39,.int .i64 (m:Int)),(1,40,.slice sl ns.length cap),(2,41,.int .i64 (ns.length:Int)),(3,42,.bool true)] ?_ ?_
      ·exact Oc4 g_mv g_mv (g_ln Tryz.underlying31) (g_bn (fun uZ=>Za _ _ (m:Int) (ns.length:Int) _ uZ hl2))
      intro u5 HB5 sz5 K5
      simp only[sQ] at K5⊢
      go_upto_region 11 with fail
      refine Rn K5 HB5 [(0,45,.int .i64 (m:Int)),(1,46,.int .i64 (i:Int)),(2,47,.bool true)] ?_ ?_
      ·exact Oc3 g_mv g_mv (g_bn (fun uZ=>Ue _ _ _ (m:Int) (i:Int) _ uZ he))
      intro u6 HB6 sz6 K6
      simp only[sQ] at K6⊢
      clear K5 HB5
      go_upto_region 10 with fail
      refine Rp K6 HB6 [] [] [(0,43,.int .i64 (m:Int)),(1,44,.int .i64 ((m+1:Nat):Int)),(2,12,.int .i64 ((m+1:Nat):Int))] [(2,0)] [(2,12)] [] ?_ ?_
      ·exact Oc3 g_mv (g_bn (fun uZ=>Zu _ _ (m:Int) 1 ((m+1:Nat):Int) uZ Z1 Z1 Z1)) g_as
      intro u7 HB7 sz7 K7
      simp only[sQ] at K7⊢
      clear K6 HB6
      go_wp2
      refine⟨⟨m+1,Z1,rfl,HB7,(K7.cv 0),(K7.lt 0),(K7.cv 1),(K7.lt 1),by rw[ha.out];exact(K7.cv 2),(K7.lt 2),by rw[hb.out];exact(K7.cv 3),(K7.lt 3)⟩,?_⟩
      simp[intOf]<;>omega
     ·have he:((m:Int)==(i:Int))=false:=by rw[beq_eq_false_iff_ne];omega
      have ha:Hid (tpN q t ns i (m+1)=(tpN q t ns i m*((t -ns.getD m 0)%q))%q):=if_neg emi
      have hb:Hid (tpN q x ns i (m+1)=(tpN q x ns i m*((x -ns.getD m 0)%q))%q):=if_neg emi
      have hXm:=hix.out _ hjm
      have hXm:Hid _:=hXm
      have hRm:=hSo.out.at _ hjm
      have hRm:Hid _:=hRm
      have iym:=hn.out m hjm
      have ia:=tpN_In (t:=t) (ns:=ns) (i:=i) hq hq0 m
      have ib:=tpN_In (t:=x) (ns:=ns) (i:=i) hq hq0 m
      obtain⟨y,ey⟩:=Z3 (ns.getD m 0)
      rw[ey] at hRm iym ha hb
      clear ey emi
      obtain⟨a,ea⟩:=Z3 (tpN q t ns i m)
      rw[ea] at ia ha D2
      clear ea
      obtain⟨b,eb⟩:=Z3 (tpN q x ns i m)
      rw[eb] at ib hb D3
      clear eb
      have hS1:Hid (∀u,CC 107 #[NV t,NV y,NV q] u (.tuple #[NV ((t -y)%q),.int .i64 0])):=fun u=>xSub t y q u ht iym hq hq0
      have hS2:Hid (∀u,CC 107 #[NV x,NV y,NV q] u (.tuple #[NV ((x -y)%q),.int .i64 0])):=fun u=>xSub x y q u ixi iym hq hq0
      have i1:In ((t -y)%q):=Zt hq hq0
      have i2:In ((x -y)%q):=Zt hq hq0
      obtain⟨z1,e1⟩:=Z3 ((t -y)%q)
      rw[e1] at hS1 i1 ha
      clear e1
      obtain⟨z2,e2⟩:=Z3 ((x -y)%q)
      rw[e2] at hS2 i2 hb
      clear e2
      have K4_2:Bk wo.heap.size wr [(false,w.heap.size,LN q),(false,w.heap.size+1,LN t),(true,b3_2,LN a),(true,b3_3,LN b)]:=⟨.c lD0 D0<| .c lD1 D1<| .o lD2 (K4.lo 2) D2<| .o lD3 (K4.lo 3) D3<|trivial,by simp<;>omega⟩
      go_upto_region 9 with fail
      refine Rn K4_2 HBs [(0,39,.int .i64 (m:Int)),(1,40,.slice sl ns.length cap),(2,41,.int .i64 (ns.length:Int)),(3,42,.bool true)] ?_ ?_
      ·exact Oc4 g_mv g_mv (g_ln Tryz.underlying31) (g_bn (fun uZ=>Za _ _ (m:Int) (ns.length:Int) _ uZ hl2))
      intro u5 HB5 sz5 K5
      simp only[sQ] at K5⊢
      go_upto_region 11 with fail
      refine Rn K5 HB5 [(0,45,.int .i64 (m:Int)),(1,46,.int .i64 (i:Int)),(2,47,.bool false)] ?_ ?_
      ·exact Oc3 g_mv g_mv (g_bn (fun uZ=>Ue _ _ _ (m:Int) (i:Int) _ uZ he))
      intro u6 HB6 sz6 K6
      simp only[sQ] at K6⊢
      clear K5 HB5
      go_upto_region 12 with fail
      refine Rd K6 HB6 [] [(10,13,L0s,some (11,LN z1))] [(0,49,NV t),(1,50,.slice sl ns.length cap),(2,51,.int .i64 (m:Int)),(3,52,.pointer (some ⟨gb,go+4*m,none⟩)),(4,53,NV y),(5,54,NV q),(6,55,.tuple #[NV z1,.int .i64 0]),(7,48,.tuple #[NV z1,.int .i64 0]),(8,56,NV z1),(9,57,.int .i64 0),(12,14,.int .i64 0)] [(11,10)] [] [] ?_ ?_
      ·exact Od8 (g_ld 1 uN iN) g_mv g_mv (g_ix (fun uZ=>hXm.out uZ)) (g_lf hRm.out hg' uN iN) (g_ld 0 uN iN) (g_cl ent_W3 (fun uZ=>hS1.out uZ)) g_mv<|Oc5 g_ex g_ex (g_al 0 aN) (g_sn 0 iN) g_as
      intro u7 b7_10 HB7 sz7 K7
      simp only[sQ] at K7⊢
      clear K6 HB6
      go_upto_region 13 with fail
      refine Rd K7 HB7 [] [(13,15,L0s,some (14,LN z2))] [(0,59,.slice sl ns.length cap),(1,60,.int .i64 (i:Int)),(2,61,.pointer (some ⟨gb,go+4*i,none⟩)),(3,62,NV x),(4,63,.slice sl ns.length cap),(5,64,.int .i64 (m:Int)),(6,65,.pointer (some ⟨gb,go+4*m,none⟩)),(7,66,NV y),(8,67,NV q),(9,68,.tuple #[NV z2,.int .i64 0]),(10,58,.tuple #[NV z2,.int .i64 0]),(11,69,NV z2),(12,70,.int .i64 0),(15,16,.int .i64 0)] [(14,13)] [] [] ?_ ?_
      ·exact Od8 g_mv g_mv (g_ix (fun uZ=>hXi.out uZ)) (g_lf hRi'.out hg' uN iN) g_mv g_mv (g_ix (fun uZ=>hXm.out uZ)) (g_lf hRm.out hg' uN iN)<|Oc8 (g_ld 0 uN iN) (g_cl ent_W3 (fun uZ=>hS2.out uZ)) g_mv g_ex g_ex (g_al 0 aN) (g_sn 0 iN) g_as
      intro u8 b8_13 HB8 sz8 K8
      simp only[sQ] at K8⊢
      clear K7 HB7
      go_upto_region 14 with fail
      refine Rp K8 HB8 [.no,.no,.all 7 (LN (a*z1%q))] [] [(0,72,NV a),(1,73,NV z1),(2,74,NV q),(3,75,.tuple #[NV (a*z1%q),.int .i64 0]),(4,71,.tuple #[NV (a*z1%q),.int .i64 0]),(5,76,NV (a*z1%q)),(6,77,.int .i64 0)] [(7,0)] [] [] ?_ ?_
      ·exact Oc8 (g_ld 2 uN iN) (g_ld 4 uN iN) (g_ld 0 uN iN) (g_cl ent_W4 (fun uZ=>xMul a z1 q uZ ia i1 hq hq0)) g_mv g_ex g_ex (g_st 2 iN)
      intro u9 HB9 sz9 K9
      simp only[sQ] at K9⊢
      clear K8 HB8
      go_upto_region 15 with fail
      refine Rp K9 HB9 [.no,.no,.no,.all 7 (LN (b*z2%q))] [] [(0,79,NV b),(1,80,NV z2),(2,81,NV q),(3,82,.tuple #[NV (b*z2%q),.int .i64 0]),(4,78,.tuple #[NV (b*z2%q),.int .i64 0]),(5,83,NV (b*z2%q)),(6,84,.int .i64 0)] [(7,0)] [] [] ?_ ?_
      ·exact Oc8 (g_ld 3 uN iN) (g_ld 5 uN iN) (g_ld 0 uN iN) (g_cl ent_W4 (fun uZ=>xMul b z2 q uZ ib i2 hq hq0)) g_mv g_ex g_ex (g_st 3 iN)
      intro u10 HB10 sz10 K10
      simp only[sQ] at K10⊢
      clear K9 HB9
      go_upto_region 10 with fail
      refine Rp K10 HB10 [] [] [(0,43,.int .i64 (m:Int)),(1,44,.int .i64 ((m+1:Nat):Int)),(2,12,.int .i64 ((m+1:Nat):Int))] [(2,0)] [(2,12)] [] ?_ ?_
      ·exact Oc3 g_mv (g_bn (fun uZ=>Zu _ _ (m:Int) 1 ((m+1:Nat):Int) uZ Z1 Z1 Z1)) g_as
      intro u11 HB11 sz11 K11
      simp only[sQ] at K11⊢
      clear K10 HB10
      go_wp2
      refine⟨⟨m+1,Z1,rfl,HB11,(K11.cv 0),(K11.lt 0),(K11.cv 1),(K11.lt 1),by rw[ha.out];exact(K11.cv 2),(K11.lt 2),by rw[hb.out];exact(K11.cv 3),(K11.lt 3)⟩,?_⟩
      simp[intOf]<;>omega
    ·have hl2:decide ((m:Int)<(ns.length:Int))=false:=by simp;omega
     have hmn:m=ns.length:=Z1
     rw[hmn] at D2 D3
     clear hmn
     have ia:=tpN_In (t:=t) (ns:=ns) (i:=i) hq hq0 ns.length
     have id_:=tpN_In (t:=x) (ns:=ns) (i:=i) hq hq0 ns.length
     obtain⟨a,ea⟩:=Z3 (tpN q t ns i ns.length)
     rw[ea] at ia D2 hfk
     clear ea
     obtain⟨d,ed⟩:=Z3 (tpN q x ns i ns.length)
     rw[ed] at id_ D3 hvk hnk hp1
     clear ed
     by_cases hgd:gI q (d%q)=1
     ·have hvi:=hvk.out hgd
      have hp2:=hp1.out hgd
      obtain⟨v,ev⟩:=Z3 (vs.getD i 0)
      rw[ev] at hvi hfk
      clear ev
      have iv:In v:=⟨hvi.1,by have:=hvi.2.1;have:=hq.2;omega⟩
      have K4_2:Bk wo.heap.size wr [(false,w.heap.size,LN q),(false,w.heap.size+1,LN t),(true,b3_2,LN a),(true,b3_3,LN d)]:=⟨.c lD0 D0<| .c lD1 D1<| .o lD2 (K4.lo 2) D2<| .o lD3 (K4.lo 3) D3<|trivial,by simp<;>omega⟩
      go_upto_region 9 with fail
      refine Rn K4_2 HBs [(0,39,.int .i64 (m:Int)),(1,40,.slice sl ns.length cap),(2,41,.int .i64 (ns.length:Int)),(3,42,.bool false)] ?_ ?_
      ·exact Oc4 g_mv g_mv (g_ln Tryz.underlying31) (g_bn (fun uZ=>Za _ _ (m:Int) (ns.length:Int) _ uZ hl2))
      intro u5 HB5 sz5 K5
      simp only[sQ] at K5⊢
      go_upto_region 16 with fail
      refine Rp K5 HB5 [] [(6,17,L0s,some (7,LN v))] [(0,86,NV d),(1,87,NV q),(2,88,.tuple #[NV v,.int .i64 0]),(3,85,.tuple #[NV v,.int .i64 0]),(4,89,NV v),(5,90,.int .i64 0),(8,18,.int .i64 0)] [(7,6)] [] [] ?_ ?_
      ·exact Oc9 (g_ld 3 uN iN) (g_ld 0 uN iN) (g_cl ent_W5 (fun uZ=>xInverse d q v uZ id_ hq hq0 hgd hvi)) g_mv g_ex g_ex (g_al 0 aN) (g_sn 0 iN) g_as
      intro u6 b6_6 HB6 sz6 K6
      simp only[sQ] at K6⊢
      clear K5 HB5
      go_upto_region 17 with fail
      refine Rn K6 HB6 [(0,91,.int .i64 0),(1,92,.bool false)] ?_ ?_
      ·exact Oc2 g_mv (g_bn (fun uZ=>Y7 _ _ _ 0 0 _ uZ rfl))
      intro u7 HB7 sz7 K7
      simp only[sQ] at K7⊢
      clear K6 HB6
      go_upto_region 19 with fail
      refine Rp K7 HB7 [] [(7,19,L0s,some (8,LN (a*v%q)))] [(0,94,NV a),(1,95,NV v),(2,96,NV q),(3,97,.tuple #[NV (a*v%q),.int .i64 0]),(4,93,.tuple #[NV (a*v%q),.int .i64 0]),(5,98,NV (a*v%q)),(6,99,.int .i64 0),(9,20,.int .i64 0)] [(8,7)] [] [] ?_ ?_
      ·exact Oc10 (g_ld 2 uN iN) (g_ld 4 uN iN) (g_ld 0 uN iN) (g_cl ent_W4 (fun uZ=>xMul a v q uZ ia iv hq hq0)) g_mv g_ex g_ex (g_al 0 aN) (g_sn 0 iN) g_as
      intro u8 b8_7 HB8 sz8 K8
      simp only[sQ] at K8⊢
      clear K7 HB7
      have HBu:=HB8
      have KY:CV u8 b8_7 (LN (a*v%q)):=(K8.cv 5)
      obtain⟨y,ey⟩:=Z3 (a*v%q)
      rw[ey] at KY hfk
      clear ey
      have y0:=(KY 0 _ rfl).1
      have y1:=(KY 1 _ rfl).1
      have y2:=(KY 2 _ rfl).1
      have y3:=(KY 3 _ rfl).1
      replace KV:Hid (CV u8 bo (flN (fs.take i)++zs)):=CV.below KV.out HBu hlt
      have hsb:=HBu.size
      replace HBr:=Z7 HBr HBu
      clear KY
      have hip:i<fs.length:=by rw[hfl.out];exact hj
      have hnx:Hid (fs.take (i+1)=fs.take i++[y]):=by
       show fs.take (i+1)=fs.take i++[y]
       rw[List.take_add_one,List.getElem?_eq_getElem hip]
       have hfk:=hfk.out
       simp[List.getElem?_eq_getElem hip] at hfk
       simp[hfk]
      have htl:(fs.take i).length=i:=by rw[List.length_take,hfl.out];omega
      obtain⟨v2,uc,r2,rg2,b5,c5,z5,rfl,f1,f2,f3,f4,f5⟩:=app_nq (ty:=31) (x:=y) KV.out Z1 htl hic hzl Z1
      have f5:Hid _:=f5
      have rg2:Hid _:=rg2
      have e1:IntKind.i64.wrap ((i:Int)+1)=((i+1:Nat):Int):=by rw[IntKind.wrap_i64];omega
      go_wp2_with (at_builtin;refine Y2 rfl _ _ 31 rfl _ _ _ rfl rfl r2 ?_;clear r2)
      have hBa2:Bw u1 (u8.alloc (.cells (LN y:List Value).toArray 24)):=Z5 HBr _
      have hBc:Bw u1 uc:=hBa2.grown rg2.out hBa2.size (fun k e=>by cases e;exact hlo)
      refine⟨⟨i+1,b5,c5,z5,Z1,by simp,rfl,f3,by rw[f4];omega,by have:=hBa2.size;rcases f1 with h | h<;>omega,f2,by rw[hnx.out];exact f5,hBc,fun j h=>?_⟩,?_⟩
      ·exact hp2 j h
      ·simp[intOf];omega
     ·obtain rfl:=hnk.out hgd
      have hI:Hid (∀u,CC 108 #[NV d,NV q] u (.tuple #[NV 0,.int .i64 20])):=fun u=>by
       have h:=xInverse_no d q u id_ hq hq0 hgd
       rw[<-NV_0] at h;exact h
      have K4_2:Bk wo.heap.size wr [(false,w.heap.size,LN q),(false,w.heap.size+1,LN t),(true,b3_2,LN a),(true,b3_3,LN d)]:=⟨.c lD0 D0<| .c lD1 D1<| .o lD2 (K4.lo 2) D2<| .o lD3 (K4.lo 3) D3<|trivial,by simp<;>omega⟩
      go_upto_region 9 with fail
      refine Rn K4_2 HBs [(0,39,.int .i64 (m:Int)),(1,40,.slice sl ns.length cap),(2,41,.int .i64 (ns.length:Int)),(3,42,.bool false)] ?_ ?_
      ·exact Oc4 g_mv g_mv (g_ln Tryz.underlying31) (g_bn (fun uZ=>Za _ _ (m:Int) (ns.length:Int) _ uZ hl2))
      intro u5 HB5 sz5 K5
      simp only[sQ] at K5⊢
      go_upto_region 16 with fail
      refine Rp K5 HB5 [] [(6,17,L0s,some (7,LN 0))] [(0,86,NV d),(1,87,NV q),(2,88,.tuple #[NV 0,.int .i64 20]),(3,85,.tuple #[NV 0,.int .i64 20]),(4,89,NV 0),(5,90,.int .i64 20),(8,18,.int .i64 20)] [(7,6)] [] [] ?_ ?_
      ·exact Oc9 (g_ld 3 uN iN) (g_ld 0 uN iN) (g_cl ent_W5 (fun uZ=>hI.out uZ)) g_mv g_ex g_ex (g_al 0 aN) (g_sn 0 iN) g_as
      intro u6 b6_6 HB6 sz6 K6
      simp only[sQ] at K6⊢
      clear K5 HB5
      go_upto_region 17 with fail
      refine Rn K6 HB6 [(0,91,.int .i64 20),(1,92,.bool true)] ?_ ?_
      ·exact Oc2 g_mv (g_bn (fun uZ=>Y7 _ _ _ 20 0 _ uZ rfl))
      intro u7 HB7 sz7 K7
      simp only[sQ] at K7⊢
      clear K6 HB6
      go_upto_region 18 with fail
      refine Rn K7 HB7 [(0,6,(Go.Value.slice Option.none 0 0)),(1,7,(Go.Value.int Go.IntKind.i64 100))] ?_ ?_
      ·exact Oc2 g_as g_as
      intro u8 HB8 sz8 K8
      simp only[sQ] at K8⊢
      clear K7 HB7
      go_wp2
      exact bodyPost_ret (v:= .tuple #[.slice none 0 0,.int .i64 100]) (by simp[results,Tryz.results83,go_sem]) rfl ⟨_,rfl,⟨⟨_,_,_,rfl⟩,fun h=>absurd h Z2⟩,Z7 hTw HB8⟩
  ·have hl:decide ((i:Int)<(ns.length:Int))=false:=by simp;omega
   have hio:Hid (i=ns.length):=(show i=ns.length by omega)
   obtain rfl:=hyes.out fun j hj2=>hpo.out j Z1
   have K1_1:Bk wo.heap.size wo [(false,w.heap.size,LN q),(false,w.heap.size+1,LN t)]:=⟨.c lq_ Kq<| .c lt_ Kt<|trivial,by simp<;>omega⟩
   go_upto_region 5 with fail
   refine Rn K1_1 HBw [(0,31,.int .i64 (i:Int)),(1,32,.slice sl ns.length cap),(2,33,.int .i64 (ns.length:Int)),(3,34,.bool false)] ?_ ?_
   ·exact Oc4 g_mv g_mv (g_ln Tryz.underlying31) (g_bn (fun uZ=>Za _ _ (i:Int) (ns.length:Int) _ uZ hl))
   intro u2 HB2 sz2 K2
   simp only[sQ] at K2⊢
   go_upto_region 21 with fail
   refine Rn K2 HB2 [(0,104,.slice (some ⟨bo,0,none⟩) i co),(1,6,.slice (some ⟨bo,0,none⟩) i co),(2,7,(Go.Value.int Go.IntKind.i64 0))] ?_ ?_
   ·exact Oc3 g_mv g_as g_as
   intro u3 HB3 sz3 K3
   simp only[sQ] at K3⊢
   clear K2 HB2
   go_wp2
   refine bodyPost_ret (v:= .tuple #[.slice (some ⟨bo,0,none⟩) i co,.int .i64 0]) (by simp[results,Tryz.results83,go_sem]) rfl ⟨_,rfl,⟨⟨_,_,_,rfl⟩,fun _=>⟨bo,co,zs,by rw[hfl.out,hio.out],Nat.le_trans hT1.size hlo,Nat.lt_of_lt_of_le hlt HB3.size,by rw[hfl.out];omega,?_⟩⟩,Z7 hTw HB3⟩
   have:=CV.below KV.out HB3 hlt
   rwa [List.take_of_length_le (by rw[hfl.out];omega)] at this
end Go.Proofs.YtoffgfhilkpdpaaGreatDoor
