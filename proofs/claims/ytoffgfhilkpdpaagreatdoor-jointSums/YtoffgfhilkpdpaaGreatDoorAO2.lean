import Derived.Test.YtoffgfhilkpdpaaGreatDoorAF0
namespace Go.Proofs.YtoffgfhilkpdpaaGreatDoor
set_option linter.unusedVariables false
set_option linter.unusedSimpArgs false
set_option maxRecDepth 100000
set_option maxHeartbeats 4000000
section
open Go.RowKit
theorem member_1(p q g h x c v:Int)(w:World)(hp:In p)(hq:In q)(hx:In x)(h0:decide (x=0)=true):CC 89 #[GX p q g h,NV x] w (.iface 149 (.agg #[.string (txG x++sX1),(.iface 34 (iI 90))])):=by
 go_enter Tryz.func89,Tryz.ntmps89
 go_upto_region 1 with fail
 obtain⟨v0,hC,HB0,K0⟩:=bx2 w (GE p q g h) 26 (LN x) 24
 rw[hC]
 clear hC
 refine Rp K0 HB0 [] [] (cG 0 7 [_,_,_,_,undef,undef,undef,undef,undef,_] []) [] [] [false] (Oc10 (g_ld 1 uN iN) (g_bd zN) (g_bn (eql_0 _ _ hx _ h0)) g_mv g_sk g_sk g_sk g_sk g_sk g_pk) fun u1 HB1 _ K1=>?_
 simp only[sQ] at K1⊢
 go_upto_region 2 with fail
 refine Rp K1 HB1 [] [] (cG 0 17 [_,_,_,_,_,_] [(6,4,_)]) [] [] [false] (Oc7 (g_ld 0 uN iN) (g_cl Xa (nTextG x)) (g_bn (fun uZ=>add_stG _ _ (txG x) sX1 uZ (by have:=tx_szG x;have:sX1.size=23:=rfl;omega))) (Ud (miEG 90)) (g_bd (bdFlG (txG x++sX1) _ _)) (Ud (miFG (txG x++sX1) _ _)) g_as) fun u2 HB2 _ K2=>?_
 simp only[sQ] at K2⊢
 go_wp2
 refine bodyPost_ret (v:= .iface 149 (.agg #[.string (txG x++sX1),(.iface 34 (iI 90))])) (by simp[results,Tryz.results89,go_sem,]) rfl ⟨rfl,HB2⟩
theorem member_2(p q g h x c v:Int)(w:World)(hp:In p)(hq:In q)(hx:In x)(h0:decide (x=0)=false)(hC:Hid (∀u,CC 97 #[NV x,NV p] u (iI c)))(hc:decide (0<=c)=true):CC 89 #[GX p q g h,NV x] w (.iface 149 (.agg #[.string (txG x++sX1),(.iface 34 (iI 90))])):=by
 go_enter Tryz.func89,Tryz.ntmps89
 go_upto_region 1 with fail
 obtain⟨v0,hC,HB0,K0⟩:=bx2 w (GE p q g h) 26 (LN x) 24
 rw[hC]
 clear hC
 refine Rp K0 HB0 [] [] (cG 0 7 [_,_,_,_,_,_,_,_,_,_] []) [] [] [false] (Oc10 (g_ld 1 uN iN) (g_bd zN) (g_bn (eql_0 _ _ hx _ h0)) g_mv (g_ld 1 uN iN) (g_fd (fdG0 _)) (g_lo 0 0 uN iN) (g_cl Y5 hC.out) (g_bn (fun uZ=>geq_y _ _ _ _ _ uZ hc)) g_pk) fun u1 HB1 _ K1=>?_
 simp only[sQ] at K1⊢
 go_upto_region 2 with fail
 refine Rp K1 HB1 [] [] (cG 0 17 [_,_,_,_,_,_] [(6,4,_)]) [] [] [false] (Oc7 (g_ld 0 uN iN) (g_cl Xa (nTextG x)) (g_bn (fun uZ=>add_stG _ _ (txG x) sX1 uZ (by have:=tx_szG x;have:sX1.size=23:=rfl;omega))) (Ud (miEG 90)) (g_bd (bdFlG (txG x++sX1) _ _)) (Ud (miFG (txG x++sX1) _ _)) g_as) fun u2 HB2 _ K2=>?_
 simp only[sQ] at K2⊢
 go_wp2
 refine bodyPost_ret (v:= .iface 149 (.agg #[.string (txG x++sX1),(.iface 34 (iI 90))])) (by simp[results,Tryz.results89,go_sem,]) rfl ⟨rfl,HB2⟩
theorem member_3(p q g h x c v:Int)(w:World)(hp:In p)(hq:In q)(hx:In x)(h0:decide (x=0)=false)(hC:Hid (∀u,CC 97 #[NV x,NV p] u (iI c)))(hc:decide (0<=c)=false)(hE:Hid (∀u,CC 113 #[NV x,NV q,NV p] u (.tuple #[NV v,iI 0])))(hv:In v)(i1:In 1)(h1:decide (v=1)=!true):CC 89 #[GX p q g h,NV x] w (.iface 149 (.agg #[.string (txG x++sX2),(.iface 34 (iI 90))])):=by
 go_enter Tryz.func89,Tryz.ntmps89
 go_upto_region 1 with fail
 obtain⟨v0,hC,HB0,K0⟩:=bx2 w (GE p q g h) 26 (LN x) 24
 rw[hC]
 clear hC
 refine Rn K0 HB0 (cG 0 7 [_,_,_,_,_,_,_,_,_,_] []) (Oc10 (g_ld 1 uN iN) (g_bd zN) (g_bn (eql_0 _ _ hx _ h0)) g_mv (g_ld 1 uN iN) (g_fd (fdG0 _)) (g_lo 0 0 uN iN) (g_cl Y5 hC.out) (g_bn (fun uZ=>geq_y _ _ _ _ _ uZ hc)) g_pk) fun u1 HB1 _ K1=>?_
 simp only[sQ] at K1⊢
 go_upto_region 3 with fail
 refine Rp K1 HB1 [] [(9,5,L0s,some (10,LN v))] (cG 0 24 [_,_,_,_,_,_] [(6,23,_),(7,30,_),(8,31,_),(11,6,_)]) [(10,9)] [] [false] (Od8 (g_ld 1 uN iN) (g_fd (fdG1 _)) (g_lo 0 4 uN iN) (g_fd (fdG0 _)) (g_lo 0 0 uN iN) (g_cl ent_mod_Exp hE.out) g_mv g_ex<|Oc4 g_ex (g_al 0 aN) (g_sn 0 iN) g_as) fun u2 b2_9 HB2 _ K2=>?_
 simp only[sQ] at K2⊢
 go_upto_region 4 with fail
 refine Rd K2 HB2 [] [] (cG 0 32 [_,_,_] []) [] [] [true,false] (Oc3 (g_ld 1 uN iN) (g_cl Zn (fun uZ=>nOf 1 uZ Z2 Z2)) (g_bn (Up _ _ hv i1 _ h1))) fun u3 HB3 _ K3=>?_
 simp only[sQ] at K3⊢
 go_upto_region 5 with fail
 refine Rp K3 HB3 [] [] (cG 0 35 [_,_,_,_,_,_] [(6,4,_)]) [] [] [false] (Oc7 (g_ld 0 uN iN) (g_cl Xa (nTextG x)) (g_bn (fun uZ=>add_stG _ _ (txG x) sX2 uZ (by have:=tx_szG x;have:sX2.size=18:=rfl;omega))) (Ud (miEG 90)) (g_bd (bdFlG (txG x++sX2) _ _)) (Ud (miFG (txG x++sX2) _ _)) g_as) fun u4 HB4 _ K4=>?_
 simp only[sQ] at K4⊢
 go_wp2
 refine bodyPost_ret (v:= .iface 149 (.agg #[.string (txG x++sX2),(.iface 34 (iI 90))])) (by simp[results,Tryz.results89,go_sem,]) rfl ⟨rfl,HB4⟩
theorem member_4(p q g h x c v:Int)(w:World)(hp:In p)(hq:In q)(hx:In x)(h0:decide (x=0)=false)(hC:Hid (∀u,CC 97 #[NV x,NV p] u (iI c)))(hc:decide (0<=c)=false)(hE:Hid (∀u,CC 113 #[NV x,NV q,NV p] u (.tuple #[NV v,iI 0])))(hv:In v)(i1:In 1)(h1:decide (v=1)=!false):CC 89 #[GX p q g h,NV x] w (.nilIface):=by
 go_enter Tryz.func89,Tryz.ntmps89
 go_upto_region 1 with fail
 obtain⟨v0,hC,HB0,K0⟩:=bx2 w (GE p q g h) 26 (LN x) 24
 rw[hC]
 clear hC
 refine Rn K0 HB0 (cG 0 7 [_,_,_,_,_,_,_,_,_,_] []) (Oc10 (g_ld 1 uN iN) (g_bd zN) (g_bn (eql_0 _ _ hx _ h0)) g_mv (g_ld 1 uN iN) (g_fd (fdG0 _)) (g_lo 0 0 uN iN) (g_cl Y5 hC.out) (g_bn (fun uZ=>geq_y _ _ _ _ _ uZ hc)) g_pk) fun u1 HB1 _ K1=>?_
 simp only[sQ] at K1⊢
 go_upto_region 3 with fail
 refine Rp K1 HB1 [] [(9,5,L0s,some (10,LN v))] (cG 0 24 [_,_,_,_,_,_] [(6,23,_),(7,30,_),(8,31,_),(11,6,_)]) [(10,9)] [] [false,false] (Od8 (g_ld 1 uN iN) (g_fd (fdG1 _)) (g_lo 0 4 uN iN) (g_fd (fdG0 _)) (g_lo 0 0 uN iN) (g_cl ent_mod_Exp hE.out) g_mv g_ex<|Oc4 g_ex (g_al 0 aN) (g_sn 0 iN) g_as) fun u2 b2_9 HB2 _ K2=>?_
 simp only[sQ] at K2⊢
 go_upto_region 4 with fail
 refine Rd K2 HB2 [] [] (cG 0 32 [_,_,_] []) [] [] [false] (Oc3 (g_ld 0 uN iN) (g_cl Zn (fun uZ=>nOf 1 uZ Z2 Z2)) (g_bn (Up _ _ hv i1 _ h1))) fun u3 HB3 _ K3=>?_
 simp only[sQ] at K3⊢
 go_upto_region 6 with fail
 refine Rn K3 HB3 [(0,4,_)] (Oc1 g_as) fun u4 HB4 _ K4=>?_
 simp only[sQ] at K4⊢
 go_wp2
 refine bodyPost_ret (v:= .nilIface) (by simp[results,Tryz.results89,go_sem,]) rfl ⟨rfl,HB4⟩
theorem cMember(p q g h x:Int)(w:World)(hp:In p)(hq:In q)(hx:In x)(hp0:p≠0):CC 89 #[GX p q g h,NV x] w (mbV p q x):=by
 have hC:Hid (∀u,CC 97 #[NV x,NV p] u (iI (cmpI x p))):=fun u=>nCompare x p u hx hp
 by_cases h0:x=0
 ·rw[show mbV p q x=_ from if_pos (.inl h0)]
  exact member_1 p q g h x 0 0 w hp hq hx (decide_eq_true h0)
 ·by_cases h1:p<=x
  ·have hc:decide (0<=cmpI x p)=true:=by unfold cmpI;rw[if_neg Z1];split<;>rfl
   rw[show mbV p q x=_ from if_pos (.inr h1)]
   exact member_2 p q g h x _ 0 w hp hq hx (decide_eq_false h0) hC hc
  ·have hc:decide (0<=cmpI x p)=false:=by unfold cmpI;rw[if_pos Z1];rfl
   rw[show mbV p q x=_ from if_neg Z1]
   have hE:Hid (∀u,CC 113 #[NV x,NV q,NV p] u (.tuple #[NV (x^q.toNat%p),iI 0])):=fun u=>mExp x q p u hx hq hp hp0
   have i1:In 1:=⟨Z2,Z2⟩
   by_cases h2:x^q.toNat%p=1
   ·rw[if_pos h2]
    exact member_4 p q g h x _ _ w hp hq hx (decide_eq_false h0) hC hc hE (Zt hp hp0) i1 (decide_eq_true h2)
   ·rw[if_neg h2]
    exact member_3 p q g h x _ _ w hp hq hx (decide_eq_false h0) hC hc hE (Zt hp hp0) i1 (decide_eq_false h2)
theorem mbV_is(p q x:Int)(hx:In x):(Mb p q x/\mbV p q x= .nilIface)\/(¬Mb p q x/\EW 90 (mbV p q x)):=by
 have h0:=hx.1
 unfold mbV Mb
 by_cases h1:x=0\/p<=x
 ·rw[if_pos h1];exact .inr ⟨fun h=>by have:=h.1;have:=h.2.1;omega,.wrap _ _ .leaf⟩
 ·rw[if_neg h1]
  by_cases h2:x^q.toNat%p=1
  ·rw[if_pos h2];exact .inl ⟨⟨Z1,Z1,h2⟩,rfl⟩
  ·rw[if_neg h2];exact .inr ⟨fun h=>h2 h.2.2,.wrap _ _ .leaf⟩
theorem members_c(p q g h:Int)(T:TypeId)(x:Value)(sl:Option Addr)(n cap:Nat)(w:World)(hC:Hid (∀u,CC 73 #[GX p q g h] u (.iface T x))):
 CC 66 #[GX p q g h,.slice sl n cap] w (.iface 149 (.agg #[.string ⟨#[103,114,111,117,112]⟩,.iface T x])):=by
 go_enter Tryz.func66,Tryz.ntmps66
 go_upto_region 1 with fail
 obtain⟨v0,hC,HB0,K0⟩:=bx1 w (GE p q g h) 26
 rw[hC]
 clear hC
 refine Rp K0 HB0 [] [] [(0,9,_),(1,10,_),(2,5,_)] [] [] [false] (Oc3 (g_ld 0 Tryz.underlying26 Z4) (g_cl Wn hC.out) g_as) fun u1 HB1 _ K1=>?_
 simp only[sQ] at K1⊢
 go_upto_region 2 with fail
 refine Rn K1 HB1 [(0,11,_),(1,12,_)] (Oc2 g_mv (g_bn (neq_erG _ _ _ _))) fun u2 HB2 _ K2=>?_
 simp only[sQ] at K2⊢
 go_upto_region 3 with fail
 refine Rn K2 HB2 (cG 0 13 [_,_,_] [(3,4,_)]) (Oc4 g_mv (g_bd (bdFlG ⟨#[103,114,111,117,112]⟩ T x)) (Ud (miFG ⟨#[103,114,111,117,112]⟩ T x)) g_as) fun u3 HB3 _ K3=>?_
 simp only[sQ] at K3⊢
 go_wp2
 refine bodyPost_ret (v:= .iface 149 (.agg #[.string ⟨#[103,114,111,117,112]⟩,.iface T x])) (by simp[results,Tryz.results66,go_sem,]) rfl ⟨rfl,HB3⟩
theorem members_k(p q g h:Int)(rv:Value)(sl:Option Addr)(gb go cap:Nat)(ns:List Int)(w:World)(hG:GT w)(hns:ns.length<=50)(hp:In p)(hq:In q)(hp0:p≠0)(hn:Hid (∀k,k<ns.length->In (ns.getD k 0)))(hix:Hid (∀j,j<ns.length-> ∀W,(Instr.indexAt 31 (.slice sl ns.length cap) (iI j)).run Tryz.prog W= .ok (.pointer (some ⟨gb,go+4*j,none⟩)) W))(hg0:ns.length=0\/gb<w.heap.size)(hS:Hid (SN w gb go ns))(hC:Hid (∀u,CC 73 #[GX p q g h] u (.nilIface)))
 (hE:Hid (∀k,k<ns.length->(∀j,j<k->Mb p q (ns.getD j 0))-> ¬Mb p q (ns.getD k 0)->rv= .iface 149 (.agg #[.string (sM2++iaG (k:Int)),mbV p q (ns.getD k 0)])))(hE2:Hid ((∀j,j<ns.length->Mb p q (ns.getD j 0))->rv= .nilIface)):
 CC 66 #[GX p q g h,.slice sl ns.length cap] w rv:=by
 go_enter Tryz.func66,Tryz.ntmps66
 go_upto_region 1 with fail
 obtain⟨v0,hC,HB0,K0⟩:=bx1 w (GE p q g h) 26
 rw[hC]
 clear hC
 refine Rn K0 HB0 [(0,9,_),(1,10,_),(2,5,_)] (Oc3 (g_ld 0 Tryz.underlying26 Z4) (g_cl Wn hC.out) g_as) fun u1 HB1 _ K1=>?_
 simp only[sQ] at K1⊢
 go_upto_region 2 with fail
 refine Rn K1 HB1 [(0,11,_),(1,12,_)] (Oc2 g_mv (g_bn (neq_noG _ _))) fun u2 HB2 _ K2=>?_
 simp only[sQ] at K2⊢
 go_upto_region 4 with fail
 refine Rn K2 HB2 (cG 0 16 [_,_,_] []) (Oc3 g_mv (g_ln Tryz.underlying31) g_mv) fun u3 HB3 _ K3=>?_
 simp only[sQ] at K3⊢
 go_wp2_with fail
 go_loopw [18] (fun s18 wr=> ∃(k:Nat),k<=ns.length/\s18=iI (k:Int)/\Hid (∀j,j<k->Mb p q (ns.getD j 0))/\Bw w wr/\CV wr (w.heap.size) (GE p q g h)/\w.heap.size<wr.heap.size) (fun s18 _=>ns.length -(intOf s18).toNat)
 case atStart=>exact⟨0,Z1,rfl,fun j hj=>absurd hj Z1,HB3,(K3.cv 0),(K3.lt 0)⟩
 case round=>
  obtain⟨k,hk,rfl,hall,HBr,Kg,lg⟩:=hrel
  by_cases hj:k<ns.length
  ·have hl:decide ((k:Int)<(ns.length:Int))=true:=by simp;omega
   have iy:=hn.out k hj
   have hX:=hix.out k hj
   have hX:Hid _:=hX
   have hR:=hS.out.at k hj
   have hR:Hid _:=hR
   have hlen:(k:Int)<1000:=Z1
   have hev:=hE.out k hj hall.out
   have hev:Hid _:=hev
   have hI:Hid (∀u,CC 89 #[GX p q g h,NV (ns.getD k 0)] u (mbV p q (ns.getD k 0))):=fun u=>cMember p q g h _ u hp hq iy hp0
   have hmb:=mbV_is p q _ iy
   have hall2:Mb p q (ns.getD k 0)->Hid (∀j,j<k+1->Mb p q (ns.getD j 0)):=fun hb j hj2=>by
    by_cases e:j=k
    ·subst e;exact hb
    ·exact hall.out j Z1
   rcases hmb with⟨hb,hm⟩ | ⟨hb,hm⟩
   ·have hev2:Hid _:=hall2 hb
    rw[hm] at hI
    clear hm hb hall2 hev
    obtain⟨y,ey⟩:=Z3 (ns.getD k 0)
    rw[ey] at iy hR hI
    clear ey
    have K3_1:Bk w.heap.size wr [(false,w.heap.size,GE p q g h)]:=⟨.c lg Kg<|trivial,by simp⟩
    go_upto_region 5 with fail
    refine Rn K3_1 HBr [(0,19,_)] (Oc1 (g_bn (fun uZ=>lss_z _ _ (k:Int) (ns.length:Int) _ uZ hl))) fun u4 HB4 sz4 K4=>?_
    simp only[sQ] at K4⊢
    go_upto_region 6 with fail
    refine Rp K4 HB4 [] [(3,7,L0s,some (5,LN y))] (cG 0 20 [_,_,_] [(4,6,_)]) [(5,3)] [] [] (Oc6 g_mv (g_ix hX.out) (g_lf hR.out (hg0.resolve_left Z1) uN iN) (g_al 0 aN) g_as (g_sn 0 iN)) fun u5 b5_3 HB5 sz5 K5=>?_
    simp only[sQ] at K5⊢
    go_upto_region 7 with fail
    refine Rp K5 HB5 [] [] (cG 0 23 [_,_,_] [(3,8,_)]) [] [] [true,false] (Oc4 (g_ld 0 Tryz.underlying26 Z4) (g_ld 1 uN iN) (g_cl Vx hI.out) g_as) fun u6 HB6 sz6 K6=>?_
    simp only[sQ] at K6⊢
    go_upto_region 8 with fail
    refine Rn K6 HB6 [(0,26,_),(1,27,_)] (Oc2 g_mv (g_bn (neq_noG _ _))) fun u7 HB7 sz7 K7=>?_
    simp only[sQ] at K7⊢
    go_upto_region 10 with fail
    refine Rp K7 HB7 [] [] [(0,34,_),(1,18,_)] [(1,0)] [(1,18)] [] (Oc2 (g_bn (fun uZ=>Zu _ _ (k:Int) 1 ((k+1:Nat):Int) uZ Z1 Z1 Z1)) g_mv) fun u8 HB8 sz8 K8=>?_
    simp only[sQ] at K8⊢
    go_wp2
    refine⟨⟨k+1,Z1,rfl,hev2,HB8,(K8.cv 0),(K8.lt 0)⟩,?_⟩
    simp[intOf]<;>omega
   ·have hev2:=hev.out hb
    obtain⟨T,x,ex⟩:=hm.some
    rw[ex] at hI hev2
    have hev2:Hid _:=hev2
    clear hm hb hall2 hev ex
    obtain⟨y,ey⟩:=Z3 (ns.getD k 0)
    rw[ey] at iy hR hI
    clear ey
    have K3_1:Bk w.heap.size wr [(false,w.heap.size,GE p q g h)]:=⟨.c lg Kg<|trivial,by simp⟩
    go_upto_region 5 with fail
    refine Rn K3_1 HBr [(0,19,_)] (Oc1 (g_bn (fun uZ=>lss_z _ _ (k:Int) (ns.length:Int) _ uZ hl))) fun u4 HB4 sz4 K4=>?_
    simp only[sQ] at K4⊢
    go_upto_region 6 with fail
    refine Rp K4 HB4 [] [(3,7,L0s,some (5,LN y))] (cG 0 20 [_,_,_] [(4,6,_)]) [(5,3)] [] [] (Oc6 g_mv (g_ix hX.out) (g_lf hR.out (hg0.resolve_left Z1) uN iN) (g_al 0 aN) g_as (g_sn 0 iN)) fun u5 b5_3 HB5 sz5 K5=>?_
    simp only[sQ] at K5⊢
    go_upto_region 7 with fail
    refine Rp K5 HB5 [] [] (cG 0 23 [_,_,_] [(3,8,_)]) [] [] [false,false] (Oc4 (g_ld 0 Tryz.underlying26 Z4) (g_ld 1 uN iN) (g_cl Vx hI.out) g_as) fun u6 HB6 sz6 K6=>?_
    simp only[sQ] at K6⊢
    go_upto_region 8 with fail
    refine Rn K6 HB6 [(0,26,_),(1,27,_)] (Oc2 g_mv (g_bn (neq_erG _ _ _ _))) fun u7 HB7 sz7 K7=>?_
    simp only[sQ] at K7⊢
    go_upto_region 9 with fail
    refine Rn K7 HB7 (cG 0 28 [_,_,_,_,_,_] [(6,4,_)]) (Oc7 g_mv (g_cb Ut (fun uZ bZ=>cItoaG (k:Int) uZ Z1 Z1 (hG.below bZ))) (g_bn (fun uZ=>add_stG _ _ sM2 (iaG (k:Int)) uZ (by have:=ia_szG (k:Int) Z1 Z1;have:sM2.size=7:=rfl;omega))) g_mv (g_bd (bdFlG (sM2++iaG (k:Int)) T x)) (Ud (miFG (sM2++iaG (k:Int)) T x)) g_as) fun u8 HB8 sz8 K8=>?_
    simp only[sQ] at K8⊢
    have hev2:=hev2.out
    subst hev2
    go_wp2
    refine bodyPost_ret (v:= .iface 149 (.agg #[.string (sM2++iaG (k:Int)),.iface T x])) (by simp[results,Tryz.results66,go_sem,]) rfl ⟨rfl,HB8⟩
  ·have hl:decide ((k:Int)<(ns.length:Int))=false:=by simp;omega
   have hkn:k=ns.length:=Z1
   have hrv:=hE2.out (by rw[<-hkn];exact hall.out)
   clear hkn
   subst hrv
   have K3_1:Bk w.heap.size wr [(false,w.heap.size,GE p q g h)]:=⟨.c lg Kg<|trivial,by simp⟩
   go_upto_region 5 with fail
   refine Rp K3_1 HBr [] [] [(0,19,_)] [] [] [false] (Oc1 (g_bn (fun uZ=>lss_z _ _ (k:Int) (ns.length:Int) _ uZ hl))) fun u4 HB4 sz4 K4=>?_
   simp only[sQ] at K4⊢
   go_upto_region 11 with fail
   refine Rn K4 HB4 [(0,4,_)] (Oc1 g_as) fun u5 HB5 sz5 K5=>?_
   simp only[sQ] at K5⊢
   go_wp2
   refine bodyPost_ret (v:= .nilIface) (by simp[results,Tryz.results66,go_sem,]) rfl ⟨rfl,HB5⟩
theorem first_no(P:Nat->Prop): ∀n:Nat,(∀j,j<n->P j)\/ ∃k,k<n/\(∀j,j<k->P j)/\ ¬P k
 | 0=>.inl fun j hj=>absurd hj Z1
 | n+1=>by
  rcases first_no P n with h | ⟨k,h1,h2,h3⟩
  ·by_cases e:P n
   ·exact .inl fun j hj=>by
     by_cases ej:j=n
     ·subst ej;exact e
     ·exact h j Z1
   ·exact .inr ⟨n,Z1,h,e⟩
  ·exact .inr ⟨k,Z1,h2,h3⟩
theorem cMembers(p q g h:Int)(ns:List Int)(hns:ns.length<=50)(hp:In p)(hq:In q)(hn: ∀k,k<ns.length->In (ns.getD k 0)):
 ∃v,((mlB p q ns=true/\v= .nilIface)\/(mlB p q ns=false/\EW 90 v))/\ ∀(y:Value) (w:World),GT w->NL w y ns->CC 66 #[GX p q g h,y] w v:=by
 have hC:=fun u=>gGroup p q g h u hp hq
 have hgd: ∀k,k<ns.length->ns.getD k 0∈ns:=fun k hk=>by
  rw[List.getD_eq_getElem?_getD,List.getElem?_eq_getElem hk];exact List.getElem_mem hk
 rcases grV_is p q with⟨hg,he⟩ | ⟨hg,he⟩
 ·rw[he] at hC
  have h7:=hg.2
  have hix: ∀(sl:Option Addr) (gb go cap:Nat),(ns=[]\/sl=some ⟨gb,go,none⟩)->Hid (∀j,j<ns.length-> ∀W,(Instr.indexAt 31 (.slice sl ns.length cap) (iI j)).run Tryz.prog W= .ok (.pointer (some ⟨gb,go+4*j,none⟩)) W):=fun sl gb go cap hsl j hj W=>by
   have e:=hsl.resolve_left (fun e=>by subst e;simp at hj)
   subst e
   exact ixS gb go ns.length cap j hj W
  rcases first_no (fun j=>Mb p q (ns.getD j 0)) ns.length with ha | ⟨k,h1,h2,h3⟩
  ·refine⟨.nilIface,.inl ⟨?_,rfl⟩,fun y w hG hy=>?_⟩
   ·unfold mlB
    rw[Bool.and_eq_true,decide_eq_true_iff,List.all_eq_true]
    refine⟨hg,fun x hx=>?_⟩
    obtain⟨j,hj,rfl⟩:=List.mem_iff_getElem.1 hx
    have:=ha j hj
    rw[List.getD_eq_getElem?_getD,List.getElem?_eq_getElem hj] at this
    exact decide_eq_true ⟨hg,this⟩
   ·obtain⟨sl,gb,go,cap,rfl,_,_,hsl,hg0,hS⟩:=hy
    exact members_k p q g h _ sl gb go cap ns w hG hns hp hq Z1 hn (hix sl gb go cap hsl) hg0 hS hC (fun k hk _ hb=>absurd (ha k hk) hb) (fun _=>rfl)
  ·have iy:=hn k h1
   have hb2:isB p q (ns.getD k 0)=false:=decide_eq_false fun h=>h3 h.2
   refine⟨.iface 149 (.agg #[.string (sM2++iaG (k:Int)),mbV p q (ns.getD k 0)]),.inr ⟨?_,.wrap _ _ ((mbV_is p q _ iy).resolve_left fun h=>h3 h.1).2⟩,fun y w hG hy=>?_⟩
   ·unfold mlB
    rw[Bool.and_eq_false_iff]
    refine .inr ?_
    rw[List.all_eq_false]
    exact⟨_,hgd k h1,by rw[hb2];decide⟩
   ·obtain⟨sl,gb,go,cap,rfl,_,_,hsl,hg0,hS⟩:=hy
    refine members_k p q g h _ sl gb go cap ns w hG hns hp hq Z1 hn (hix sl gb go cap hsl) hg0 hS hC (fun k' hk' ha hb=>?_) (fun ha=>absurd (ha k h1) h3)
    have:k'=k:=by
     rcases Nat.lt_trichotomy k' k with e | e | e
     ·exact absurd (h2 k' e) hb
     ·exact e
     ·exact absurd (ha k e) h3
    subst this;rfl
 ·obtain⟨T,x,ex⟩:=he.some
  rw[ex] at hC he
  refine⟨_,.inr ⟨?_,.wrap ⟨#[103,114,111,117,112]⟩ _ he⟩,fun y w hG hy=>?_⟩
  ·unfold mlB;rw[decide_eq_false hg];rfl
  ·obtain⟨sl,gb,go,cap,rfl,_,_,hsl,hg0,hS⟩:=hy
   exact members_c p q g h T x sl _ cap w hC
theorem ent_grp_product:EnT 68:=fun _ _=>by kernel_rfl
theorem product_core(p q g h c:Int)(sl:Option Addr)(n cap:Nat)(w:World)(hP:Hid (∀u,Bw w u->CC 90 #[NV p,.slice sl n cap] u (.tuple #[NV c,iI 0]))):
 CC 68 #[GX p q g h,.slice sl n cap] w (NV c):=by
 go_enter Tryz.func68,Tryz.ntmps68
 go_upto_region 1 with fail
 obtain⟨v0,hC,HB0,K0⟩:=bx2 w (GE p q g h) 26 L0s 24
 rw[hC]
 clear hC
 refine Rp K0 HB0 [] [(7,5,L0s,some (8,LN c))] (cG 0 8 [_,_,_,_] [(4,7,_),(5,12,_),(6,13,_),(9,6,_)]) [(8,7)] [] [false] (Oc10 (g_fd (fdG0 _)) (g_lo 0 0 uN iN) g_mv (g_cb ent_mod_Product hP.out) g_mv g_ex g_ex (g_al 0 aN) (g_sn 0 iN) g_as) fun u1 b1_7 HB1 _ K1=>?_
 simp only[sQ] at K1⊢
 go_upto_region 2 with fail
 refine Rp K1 HB1 [.all 1 (LN c)] [] [(0,14,_)] [] [] [true,false] (Oc2 (g_ld 1 uN iN) (g_st 0 iN)) fun u2 HB2 _ K2=>?_
 simp only[sQ] at K2⊢
 have c4:=(K2.cv 0).n4
 go_wp2
 refine bodyPost_ret (v:=NV c) (by simp[results,Tryz.results68,go_sem,c4]) rfl ⟨rfl,HB2⟩
def prN(p:Int)(ns:List Int):Int:=gat (fun a b=>(a*b)%p) (1%p) ns ns.length
theorem cProduct(p q g h:Int)(ns:List Int)(y:Value)(w:World)(hns:ns.length<=50)(hp:In p)(hp0:p≠0)(hn: ∀k,k<ns.length->In (ns.getD k 0))(hy:NL w y ns):
 CC 68 #[GX p q g h,y] w (NV (prN p ns)):=by
 obtain⟨sl,gb,go,cap,rfl,_,_,hsl,hg0,hS⟩:=hy
 refine product_core p q g h _ sl _ cap w fun u hB=>?_
 refine mProduct p sl gb go cap ns u hns hp hp0 hn (fun j hj W=>?_) (hg0.imp id fun e=>Nat.lt_of_lt_of_le e hB.size) (SN.below2 hS hB hg0)
 have e:=hsl.resolve_left (fun e=>by subst e;simp at hj)
 subst e
 exact ixS gb go ns.length cap j hj W
theorem check_core(p q g h r:Int)(V:Value)(w:World)(hG:Hid (∀u,Bw w u->CC 73 #[GX p q g h] u V))(hT:Hid (∀u,Bw w u->CC 67 #[V] u (iI r))):
 CC 49 #[GX p q g h] w (iI r):=by
 go_enter Tryz.func49,Tryz.ntmps49
 go_upto_region 1 with fail
 obtain⟨v0,hC,HB0,K0⟩:=bx1 w (GE p q g h) 26
 rw[hC]
 clear hC
 refine Rp K0 HB0 [] [] (cG 0 3 [_,V,_] [(3,2,_)]) [] [] [false] (Oc4 (g_ld 0 Tryz.underlying26 Z4) (g_cb Wn hG.out) (g_cb Tc hT.out) g_as) fun u1 HB1 _ K1=>?_
 simp only[sQ] at K1⊢
 go_wp2
 refine bodyPost_ret (v:=iI r) (by simp[results,Tryz.results49,go_sem,]) rfl ⟨rfl,HB1⟩
theorem cCheckG(p q g h:Int)(w:World)(hp:In p)(hq:In q):CC 49 #[GX p q g h] w (iI (chE p q)):=by
 refine check_core p q g h _ (grV p q) w (fun u _=>gGroup p q g h u hp hq) (fun u _=>?_)
 rcases grV_is p q with⟨h1,h2⟩ | ⟨h1,h2⟩
 ·rw[h2,show chE p q=0 from if_pos h1];exact gToldN u
 ·rw[show chE p q=90 from if_neg h1];exact gTold9 _ u h2
theorem mulG_n(p q g h:Int)(sl:Option Addr)(n cap:Nat)(T:TypeId)(xv:Value)(w:World)(hM:Hid (∀u,Bw w u->CC 66 #[GX p q g h,.slice sl n cap] u (.iface T xv)))(hT:Hid (∀u,Bw w u->CC 67 #[.iface T xv] u (iI 90))):
 CC 40 #[GX p q g h,.slice sl n cap] w (.tuple #[A4 0 0 0 0,iI 90]):=by
 go_enter Tryz.func40,Tryz.ntmps40
 go_upto_region 1 with fail
 obtain⟨v0,hC,HB0,K0⟩:=bx2 w (GE p q g h) 26 L0s 24
 rw[hC]
 clear hC
 refine Rp K0 HB0 [] [] (cG 0 7 [_,_,_] [(3,6,_)]) [] [] [false] (Oc4 (g_ld 0 Tryz.underlying26 Z4) g_mv (g_cb Vd hM.out) g_as) fun u1 HB1 _ K1=>?_
 simp only[sQ] at K1⊢
 go_upto_region 2 with fail
 refine Rn K1 HB1 [(0,10,_),(1,11,_)] (Oc2 g_mv (g_bn (neq_erG _ _ _ _))) fun u2 HB2 _ K2=>?_
 simp only[sQ] at K2⊢
 go_upto_region 3 with fail
 refine Rp K2 HB2 [.all 3 ([iU (0),iU (0),iU (0),iU (0)])] [] (cG 0 12 [_,_,_] [(4,5,_)]) [] [] [] (Oc5 (g_bd zN) g_mv (g_cb Tc hT.out) (g_st 0 iN) g_as) fun u3 HB3 _ K3=>?_
 simp only[sQ] at K3⊢
 have c4:=(K3.cv 0).n4
 go_wp2
 refine bodyPost_ret (v:= .tuple #[A4 0 0 0 0,iI 90]) (by simp[results,Tryz.results40,go_sem,c4]) rfl ⟨rfl,HB3⟩
theorem mulG_k(p q g h r:Int)(sl:Option Addr)(n cap:Nat)(w:World)(hM:Hid (∀u,Bw w u->CC 66 #[GX p q g h,.slice sl n cap] u (.nilIface)))(hP:Hid (∀u,Bw w u->CC 68 #[GX p q g h,.slice sl n cap] u (NV r))):
 CC 40 #[GX p q g h,.slice sl n cap] w (.tuple #[NV r,iI 0]):=by
 go_enter Tryz.func40,Tryz.ntmps40
 go_upto_region 1 with fail
 obtain⟨v0,hC,HB0,K0⟩:=bx2 w (GE p q g h) 26 L0s 24
 rw[hC]
 clear hC
 refine Rn K0 HB0 (cG 0 7 [_,_,_] [(3,6,_)]) (Oc4 (g_ld 0 Tryz.underlying26 Z4) g_mv (g_cb Vd hM.out) g_as) fun u1 HB1 _ K1=>?_
 simp only[sQ] at K1⊢
 go_upto_region 2 with fail
 refine Rn K1 HB1 [(0,10,_),(1,11,_)] (Oc2 g_mv (g_bn (neq_noG _ _))) fun u2 HB2 _ K2=>?_
 simp only[sQ] at K2⊢
 go_upto_region 4 with fail
 refine Rp K2 HB2 [.no,.all 3 (LN r)] [] (cG 0 15 [_,_,_] [(4,5,_)]) [] [] [false] (Oc5 (g_ld 0 Tryz.underlying26 Z4) g_mv (g_cb ent_grp_product hP.out) (g_st 1 iN) g_as) fun u3 HB3 _ K3=>?_
 simp only[sQ] at K3⊢
 have c4:=(K3.cv 0).n4
 go_wp2
 refine bodyPost_ret (v:= .tuple #[NV r,iI 0]) (by simp[results,Tryz.results40,go_sem,c4]) rfl ⟨rfl,HB3⟩
theorem cMulG(p q g h:Int)(ns:List Int)(y:Value)(w:World)(hG:GT w)(hns:ns.length<=50)(hp:In p)(hq:In q)(hn: ∀k,k<ns.length->In (ns.getD k 0))(hy:NL w y ns):CC 40 #[GX p q g h,y] w (.tuple #[NV (mlX p q ns),iI (mlE p q ns)]):=by
 obtain⟨v,hv,hM⟩:=cMembers p q g h ns hns hp hq hn
 have hyu:=fun u (hB:Bw w u)=>hy.up hB
 obtain⟨sl,gb,go,cap,rfl,_⟩:=hy
 unfold mlX mlE
 rcases hv with⟨h1,rfl⟩ | ⟨h1,h2⟩
 ·have hgk:gOk p q:=by
   unfold mlB at h1;rw[Bool.and_eq_true] at h1;exact of_decide_eq_true h1.1
  have h7:=hgk.2
  rw[h1,if_pos rfl,if_pos rfl];exact mulG_k p q g h _ sl _ cap w (fun u hB=>hM _ u (hG.below hB) (hyu u hB)) (fun u hB=>cProduct p q g h ns _ u hns hp Z1 hn (hyu u hB))
 ·obtain⟨T,xv,rfl⟩:=h2.some
  rw[h1,if_neg Z2,if_neg Z2,NV_0];exact mulG_n p q g h sl _ cap T xv w (fun u hB=>hM _ u (hG.below hB) (hyu u hB)) (fun u _=>gTold9 _ u h2)
theorem vNumber(n:Int)(w:World)(h0:0<=n)(h1:n<=9223372036854775807):
 CC 84 #[iI n] w (NV n):=by
 go_enter Tryz.func84,Tryz.ntmps84
 go_upto_region 1 with fail
 obtain⟨v0,hC,HB0,K0⟩:=bx1 w L0s 24
 rw[hC]
 clear hC
 refine Rp K0 HB0 [.all 3 (LN n)] [] (cG 0 3 [_,_,_] []) [] [] [] (Oc4 g_mv (g_op (fun ev uZ he=>cviP uZ h0 h1 rfl (he _ _ rfl))) (g_bd (fun uZ=>bdNk n h0 Z1 uZ)) (g_st 0 iN)) fun u1 HB1 _ K1=>?_
 simp only[sQ] at K1⊢
 have c2:=(K1.cv 0).n4
 go_wp2
 refine bodyPost_ret (v:=NV n) (by simp[results,Tryz.results84,go_sem,c2]) rfl ⟨rfl,HB1⟩
theorem vNode_0(n:Int)(w:World)(h:decide (1<=n)=false):
 CC 85 #[iI n] w (.bool false):=by
 go_enter Tryz.func85,Tryz.ntmps85
 have HB0:Bw w w:=Below.refl _ _
 have K0_1:=Bk.nil (w.heap.size) w
 go_upto_region 1 with fail
 refine Rn K0_1 HB0 (cG 0 3 [_,_,_,undef,undef,_] [(6,2,_)]) (Oc7 g_mv (g_bn (fun uZ=>Xm _ _ n 1 _ uZ h)) g_mv g_sk g_sk g_pk g_as) fun u1 HB1 _ K1=>?_
 simp only[sQ] at K1⊢
 go_wp2
 refine bodyPost_ret (v:= .bool false) (by simp[results,Tryz.results85,go_sem,]) rfl ⟨rfl,HB1⟩
theorem vNode_1(n:Int)(b:Bool)(w:World)(h:decide (1<=n)=true)(h2:decide (n<=16)=b):
 CC 85 #[iI n] w (.bool b):=by
 go_enter Tryz.func85,Tryz.ntmps85
 have HB0:Bw w w:=Below.refl _ _
 have K0_1:=Bk.nil (w.heap.size) w
 go_upto_region 1 with fail
 refine Rn K0_1 HB0 (cG 0 3 [_,_,_,_,_,_] [(6,2,_)]) (Oc7 g_mv (g_bn (fun uZ=>Xm _ _ n 1 _ uZ h)) g_mv g_mv (g_bn (fun uZ=>leq_p _ _ n 16 _ uZ h2)) g_pk g_as) fun u1 HB1 _ K1=>?_
 simp only[sQ] at K1⊢
 go_wp2
 refine bodyPost_ret (v:= .bool b) (by simp[results,Tryz.results85,go_sem,]) rfl ⟨rfl,HB1⟩
theorem vNode(n:Int)(w:World):CC 85 #[iI n] w (.bool (decide (1<=n/\n<=16))):=by
 by_cases h:1<=n
 ·rw[show decide (1<=n/\n<=16)=decide (n<=16) by simp[h]]
  exact vNode_1 n _ w (decide_eq_true h) rfl
 ·rw[show decide (1<=n/\n<=16)=false by simp[h]]
  exact vNode_0 n w (decide_eq_false h)
theorem vSize_0(n:Int)(w:World)(h:decide (1<=n)=false):
 CC 86 #[iI n] w (.bool false):=by
 go_enter Tryz.func86,Tryz.ntmps86
 have HB0:Bw w w:=Below.refl _ _
 have K0_1:=Bk.nil (w.heap.size) w
 go_upto_region 1 with fail
 refine Rn K0_1 HB0 (cG 0 3 [_,_,_,undef,undef,_] [(6,2,_)]) (Oc7 g_mv (g_bn (fun uZ=>Xm _ _ n 1 _ uZ h)) g_mv g_sk g_sk g_pk g_as) fun u1 HB1 _ K1=>?_
 simp only[sQ] at K1⊢
 go_wp2
 refine bodyPost_ret (v:= .bool false) (by simp[results,Tryz.results86,go_sem,]) rfl ⟨rfl,HB1⟩
theorem vSize_1(n:Int)(b:Bool)(w:World)(h:decide (1<=n)=true)(h2:decide (n<=6)=b):
 CC 86 #[iI n] w (.bool b):=by
 go_enter Tryz.func86,Tryz.ntmps86
 have HB0:Bw w w:=Below.refl _ _
 have K0_1:=Bk.nil (w.heap.size) w
 go_upto_region 1 with fail
 refine Rn K0_1 HB0 (cG 0 3 [_,_,_,_,_,_] [(6,2,_)]) (Oc7 g_mv (g_bn (fun uZ=>Xm _ _ n 1 _ uZ h)) g_mv g_mv (g_bn (fun uZ=>leq_p _ _ n 6 _ uZ h2)) g_pk g_as) fun u1 HB1 _ K1=>?_
 simp only[sQ] at K1⊢
 go_wp2
 refine bodyPost_ret (v:= .bool b) (by simp[results,Tryz.results86,go_sem,]) rfl ⟨rfl,HB1⟩
theorem vSize(n:Int)(w:World):CC 86 #[iI n] w (.bool (decide (1<=n/\n<=6))):=by
 by_cases h:1<=n
 ·rw[show decide (1<=n/\n<=6)=decide (n<=6) by simp[h]]
  exact vSize_1 n _ w (decide_eq_true h) rfl
 ·rw[show decide (1<=n/\n<=6)=false by simp[h]]
  exact vSize_0 n w (decide_eq_false h)
theorem ent_vss_number:EnT 84:=fun _ _=>by kernel_rfl
theorem Vt:EnT 85:=fun _ _=>by kernel_rfl
theorem Vs:EnT 86:=fun _ _=>by kernel_rfl
theorem Xu:EnT 87:=fun _ _=>by kernel_rfl
theorem ent_V1:EnT 49:=fun _ _=>by kernel_rfl
theorem ent_V2:EnT 40:=fun _ _=>by kernel_rfl
theorem vmem_core(p q g h x er:Int)(sa:Option Addr)(n ca:Nat)(b:Bool)(w:World)(hb:(er==0)=b)(hM:Hid (∀u,Bw w u->CC 40 #[GX p q g h,.slice sa n ca] u (.tuple #[NV x,iI er]))):
 CC 87 #[GX p q g h,.slice sa n ca] w (.bool b):=by
 go_enter Tryz.func87,Tryz.ntmps87
 go_upto_region 1 with fail
 obtain⟨v0,hC,HB0,K0⟩:=bx1 w (GE p q g h) 26
 rw[hC]
 clear hC
 refine Rp K0 HB0 [] [(6,5,L0s,some (7,LN x))] (cG 0 8 [_,_,_] [(3,7,_),(4,11,_),(5,12,_),(8,6,_)]) [(7,6)] [] [] (Oc9 (g_ld 0 Tryz.underlying26 Z4) g_mv (g_cb ent_V2 hM.out) g_mv g_ex g_ex (g_al 0 aN) (g_sn 0 iN) g_as) fun u1 b1_6 HB1 _ K1=>?_
 simp only[sQ] at K1⊢
 go_upto_region 2 with fail
 refine Rn K1 HB1 [(0,13,_),(1,14,_),(2,4,_)] (Oc3 g_mv (g_bn (fun uZ=>Ue _ _ _ er 0 _ uZ hb)) g_as) fun u2 HB2 _ K2=>?_
 simp only[sQ] at K2⊢
 go_wp2
 refine bodyPost_ret (v:= .bool b) (by simp[results,Tryz.results87,go_sem,]) rfl ⟨rfl,HB2⟩
theorem vMembers(p q g h:Int)(ns:List Int)(v:Value)(w:World)(hG:GT w)(hp:In p)(hq:In q)(hns: ∀z∈ns,In z)(hl:ns.length<=50)(hv:NL w v ns):CC 87 #[GX p q g h,v] w (.bool (mlB p q ns)):=by
 have a':=hv
 obtain⟨sa,_,_,ca,rfl,_⟩:=hv
 refine vmem_core p q g h _ _ sa _ ca _ w ?_ fun u hB=>cMulG p q g h ns _ u (hG.below hB) hl hp hq (Yb hns) (a'.up hB)
 unfold mlE;cases mlB p q ns<;>rfl
theorem vchk(p q g h d c re:Int)(sl:Option Addr)(cap n:Nat)(b1 b2 b3:Bool)(w:World)(hR:Hid (re=if c !=0 then 90 else if b1&&b2&&b3 then 0 else 110))(hC:Hid (∀u,CC 49 #[GX p q g h] u (iI c)))(hN:Hid (∀u,CC 85 #[iI d] u (.bool b1)))(hZ:Hid (∀u,CC 86 #[iI (n:Int)] u (.bool b2)))(hM:Hid (∀u,Bw w u->CC 87 #[GX p q g h,.slice sl n cap] u (.bool b3))):
 CC 62 #[GX p q g h,DX d (.slice sl n cap)] w (iI re):=by
 go_enter Tryz.func62,Tryz.ntmps62
 go_upto_region 1 with fail
 obtain⟨v0,hC,HB0,K0⟩:=bx2 w (GE p q g h) 26 (DE d (.slice sl n cap)) 33
 rw[hC]
 clear hC
 cases hc:(c !=0)
 ·skip
  refine Rn K0 HB0 (cG 0 6 [_,_,_] [(3,5,_)]) (Oc4 (g_ld 0 Tryz.underlying26 Z4) (g_cl ent_V1 hC.out) (g_bn (fun uZ=>Y7 _ _ _ c 0 _ uZ hc)) g_as) fun u1 HB1 sz1 K1=>?_
  simp only[sQ] at K1⊢
  cases b1
  ·skip
   go_upto_region 2 with fail
   refine Rn K1 HB1 (cG 0 10 [_,_,_,_] [(4,9,_)]) (Oc5 (g_fd (fdD0 _)) (g_lc 1 0 lI) (g_cl Vt hN.out) (g_un not_f) g_as) fun u2 HB2 sz2 K2=>?_
   simp only[sQ] at K2⊢
   go_upto_region 6 with fail
   refine Rn K2 HB2 [(0,4,_)] (Oc1 g_as) fun u3 HB3 sz3 K3=>?_
   simp only[sQ] at K3⊢
   go_wp2
   refine bodyPost_ret (v:=iI 110) (by simp[results,Tryz.results62,go_sem,]) rfl ⟨by rw[hR.out,hc];rfl,HB3⟩
  ·skip
   go_upto_region 2 with fail
   refine Rn K1 HB1 (cG 0 10 [_,_,_,_] [(4,9,_)]) (Oc5 (g_fd (fdD0 _)) (g_lc 1 0 lI) (g_cl Vt hN.out) (g_un Xe) g_as) fun u2 HB2 sz2 K2=>?_
   simp only[sQ] at K2⊢
   cases b2
   ·skip
    go_upto_region 3 with fail
    refine Rn K2 HB2 (cG 0 15 [_,_,_,_,_] [(5,14,_)]) (Oc6 (g_fd (fdD1 _)) (g_lc 1 1 lSN) (g_ln Tryz.underlying31) (g_cl Vs hZ.out) (g_un not_f) g_as) fun u3 HB3 sz3 K3=>?_
    simp only[sQ] at K3⊢
    go_upto_region 6 with fail
    refine Rn K3 HB3 [(0,4,_)] (Oc1 g_as) fun u4 HB4 sz4 K4=>?_
    simp only[sQ] at K4⊢
    go_wp2
    refine bodyPost_ret (v:=iI 110) (by simp[results,Tryz.results62,go_sem,]) rfl ⟨by rw[hR.out,hc];rfl,HB4⟩
   ·skip
    go_upto_region 3 with fail
    refine Rn K2 HB2 (cG 0 15 [_,_,_,_,_] [(5,14,_)]) (Oc6 (g_fd (fdD1 _)) (g_lc 1 1 lSN) (g_ln Tryz.underlying31) (g_cl Vs hZ.out) (g_un Xe) g_as) fun u3 HB3 sz3 K3=>?_
    simp only[sQ] at K3⊢
    cases b3
    ·skip
     go_upto_region 4 with fail
     refine Rn K3 HB3 (cG 0 21 [_,_,_,_,_] [(5,20,_)]) (Oc6 (g_ld 0 Tryz.underlying26 Z4) (g_fd (fdD1 _)) (g_lc 1 1 lSN) (g_cb Xu hM.out) (g_un not_f) g_as) fun u4 HB4 sz4 K4=>?_
     simp only[sQ] at K4⊢
     go_upto_region 6 with fail
     refine Rn K4 HB4 [(0,4,_)] (Oc1 g_as) fun u5 HB5 sz5 K5=>?_
     simp only[sQ] at K5⊢
     go_wp2
     refine bodyPost_ret (v:=iI 110) (by simp[results,Tryz.results62,go_sem,]) rfl ⟨by rw[hR.out,hc];rfl,HB5⟩
    ·skip
     go_upto_region 4 with fail
     refine Rn K3 HB3 (cG 0 21 [_,_,_,_,_] [(5,20,_)]) (Oc6 (g_ld 0 Tryz.underlying26 Z4) (g_fd (fdD1 _)) (g_lc 1 1 lSN) (g_cb Xu hM.out) (g_un Xe) g_as) fun u4 HB4 sz4 K4=>?_
     simp only[sQ] at K4⊢
     go_upto_region 7 with fail
     refine Rn K4 HB4 [(0,4,_)] (Oc1 g_as) fun u5 HB5 sz5 K5=>?_
     simp only[sQ] at K5⊢
     go_wp2
     refine bodyPost_ret (v:=iI 0) (by simp[results,Tryz.results62,go_sem,]) rfl ⟨by rw[hR.out,hc];rfl,HB5⟩
 ·skip
  refine Rn K0 HB0 (cG 0 6 [_,_,_] [(3,5,_)]) (Oc4 (g_ld 0 Tryz.underlying26 Z4) (g_cl ent_V1 hC.out) (g_bn (fun uZ=>Y7 _ _ _ c 0 _ uZ hc)) g_as) fun u1 HB1 sz1 K1=>?_
  simp only[sQ] at K1⊢
  go_upto_region 5 with fail
  refine Rn K1 HB1 [(0,4,_)] (Oc1 g_as) fun u2 HB2 sz2 K2=>?_
  simp only[sQ] at K2⊢
  go_wp2
  refine bodyPost_ret (v:=iI 90) (by simp[results,Tryz.results62,go_sem,]) rfl ⟨by rw[hR.out,hc];rfl,HB2⟩
theorem vCheck(p q g h d:Int)(ns:List Int)(v:Value)(w:World)(hG:GT w)(hp:In p)(hq:In q)(hv:NL w v ns)(hns: ∀z∈ns,In z)(hl:ns.length<=50):CC 62 #[GX p q g h,DX d v] w (iI (dcE p q d ns)):=by
 have a':=hv
 obtain⟨sl,gb,go,cap,rfl,_⟩:=hv
 refine vchk p q g h d _ _ sl cap _ _ _ _ w ?_ (fun u=>cCheckG p q g h u hp hq) (fun u=>vNode d u) (fun u=>vSize (ns.length:Int) u) (fun u (hB:Bw w u)=>vMembers p q g h ns _ u (hG.below hB) hp hq hns hl (a'.up hB))
 show _=_
 unfold chE dcE mlB ndB
 have e1:decide (1<=ns.length/\ns.length<=6)=decide (1<=(ns.length:Int)/\(ns.length:Int)<=6):=by rw[decide_eq_decide];omega
 rw[e1]
 by_cases c1:gOk p q
 ·rw[if_pos c1,if_pos c1,decide_eq_true c1,Bool.true_and];rfl
 ·rw[if_neg c1,if_neg c1];rfl
end
section
theorem pow_cg{p q x:Int}(hg:gOk p q)(hx:Mb p q x){n m:Nat}(h:(n:Int)%q=(m:Int)%q):x^n%p=x^m%p:=by
 have h1:1<p:=by have:=hg.2;omega
 have h3:=hg.q3
 have e:n%q.toNat=m%q.toNat:=by
  have a1:((n%q.toNat:Nat):Int)=(n:Int)%q:=by rw[Int.natCast_emod,Int.toNat_of_nonneg Z1]
  have a2:((m%q.toNat:Nat):Int)=(m:Int)%q:=by rw[Int.natCast_emod,Int.toNat_of_nonneg Z1]
  omega
 rw[pow_red h1 hx.2.2 n,pow_red h1 hx.2.2 m,e]
theorem pwN_rng{q x:Int}(hq:1<q): ∀k,0<=pwN q x k/\pwN q x k<q
 | 0=>⟨by show (0:Int)<=1;decide,hq⟩
 | k+1=>⟨Int.emod_nonneg _ Z1,Int.emod_lt_of_pos _ Z1⟩
theorem suN_rng{q x:Int}{ns:List Int}(hq:0<q): ∀k,0<=suN q x ns k/\suN q x ns k<q
 | 0=>⟨Int.le_refl _,hq⟩
 | k+1=>⟨Int.emod_nonneg _ Z1,Int.emod_lt_of_pos _ Z1⟩
theorem ex_cg{q a s y:Int}(hq:0<q)(ha:0<=a)(hy:0<=y):(((a+(s*y)%q)%q).toNat:Int)%q=((a.toNat+(s%q).toNat*y.toNat:Nat):Int)%q:=by
 have h1:=Int.emod_nonneg (a+(s*y)%q) (show q≠0 by omega)
 have h2:=Int.emod_nonneg s (show q≠0 by omega)
 rw[Int.toNat_of_nonneg h1,Int.natCast_add,Int.natCast_mul,Int.toNat_of_nonneg ha,Int.toNat_of_nonneg h2,Int.toNat_of_nonneg hy,Int.emod_emod,Int.add_emod,Int.emod_emod,Int.mul_emod s y,Int.add_emod a (s%q*y),Int.mul_emod (s%q) y,Int.emod_emod]
theorem at_su{p q g h n:Int}{ss ts cs:List Int}(hg:gOk p q)(h1:Mb p q g)(h2:Mb p q h)(hc: ∀k,k<ss.length->cs.getD k 0=(g^(ss.getD k 0%q).toNat%p*(h^(ts.getD k 0%q).toNat%p))%p): ∀k,k<=ss.length->atO p q n cs k=g^(suN q n ss k).toNat*h^(suN q n ts k).toNat%p
 | 0,_=>by
  rw[atO,suN,suN]
  show 1=g^0*h^0%p
  rw[Int.pow_zero,Int.pow_zero,Int.one_mul,one_mod (by have:=hg.2;omega)]
 | k+1,hk=>by
  have h3:=hg.q3
  have ra:=suN_rng (q:=q) (x:=n) (ns:=ss) Z1 k
  have rb:=suN_rng (q:=q) (x:=n) (ns:=ts) Z1 k
  have rw_:=pwN_rng (q:=q) (x:=n) Z1 k
  rw[atO,at_su hg h1 h2 hc k Z1,hc k Z1,suN,suN]
  have e1:=ex_cg (q:=q) (a:=suN q n ss k) (s:=ss.getD k 0) (y:=pwN q n k) Z1 ra.1 rw_.1
  have e2:=ex_cg (q:=q) (a:=suN q n ts k) (s:=ts.getD k 0) (y:=pwN q n k) Z1 rb.1 rw_.1
  have er:g^((suN q n ss k+ss.getD k 0*pwN q n k%q)%q).toNat*h^((suN q n ts k+ts.getD k 0*pwN q n k%q)%q).toNat%p=g^((suN q n ss k).toNat+(ss.getD k 0%q).toNat*(pwN q n k).toNat)*h^((suN q n ts k).toNat+(ts.getD k 0%q).toNat*(pwN q n k).toNat)%p:=by
   rw[Int.mul_emod,pow_cg hg h1 e1,pow_cg hg h2 e2,<-Int.mul_emod]
  have ec:(g^(ss.getD k 0%q).toNat%p*(h^(ts.getD k 0%q).toNat%p)%p)^(pwN q n k).toNat%p=(g^(ss.getD k 0%q).toNat*h^(ts.getD k 0%q).toNat)^(pwN q n k).toNat%p:=by
   rw[<-Int.mul_emod,Wi]
  rw[er,ec,<-Int.mul_emod,Int.pow_add,Int.pow_add,Int.pow_mul,Int.pow_mul,mul_powG]
  congr 1
  grind
def cmS(p q g h:Int)(ss ts:List Int):List Int:=tab ss.length fun k=>coX p q g h (ss.getD k 0) (ts.getD k 0)
theorem W4(p q g h:Int)(ss ts:List Int):(cmS p q g h ss ts).length=ss.length:=Wy _ _
theorem Te{p q g h:Int}(h1:isB p q g=true)(h2:isB p q h=true)(s t:Int):coX p q g h s t=g^(s%q).toNat%p*(h^(t%q).toNat%p)%p:=by
 unfold coX;rw[h1,h2];rfl
theorem coX_Mb{p q g h:Int}(h1:isB p q g=true)(h2:isB p q h=true)(s t:Int):Mb p q (coX p q g h s t):=by
 obtain⟨hg,m1⟩:=isB_t h1
 obtain⟨_,m2⟩:=isB_t h2
 rw[Te h1 h2]
 exact(m1.pow hg _).mul hg (m2.pow hg _)
theorem right_is{p q g h n:Int}{ss ts:List Int}(h1:isB p q g=true)(h2:isB p q h=true)(hl:ts.length=ss.length):coX p q g h (hoN q n ss ss.length) (hoN q n ts ts.length)=atO p q n (cmS p q g h ss ts) (cmS p q g h ss ts).length:=by
 obtain⟨hg,m1⟩:=isB_t h1
 obtain⟨_,m2⟩:=isB_t h2
 have h3:=hg.q3
 rw[W4,at_su hg m1 m2 (ss:=ss) (ts:=ts) (fun k hk=>by unfold cmS;rw[W0 hk,Te h1 h2]) ss.length (Nat.le_refl _),su_ho Z1,show suN q n ts ss.length=hoN q n ts ts.length by rw[<-hl];exact su_ho Z1 n ts,Te h1 h2,<-Int.mul_emod]
 have r1:=hoN_rng (q:=q) Z1 (x:=n) (ns:=ss) ss.length
 have r2:=hoN_rng (q:=q) Z1 (x:=n) (ns:=ts) ts.length
 rw[Int.emod_eq_of_lt r1.1 r1.2,Int.emod_eq_of_lt r2.1 r2.2]
theorem cm_all{p q g h:Int}{ss ts:List Int}(h1:isB p q g=true)(h2:isB p q h=true):(cmS p q g h ss ts).all (isB p q)=true:=by
 rw[List.all_eq_true]
 intro x hx
 obtain⟨k,_,rfl⟩:=List.mem_map.1 hx
 exact decide_eq_true ⟨(isB_t h1).1,coX_Mb h1 h2 _ _⟩
theorem cm_In{p q g h:Int}{ss ts:List Int}(hp:In p)(h1:isB p q g=true)(h2:isB p q h=true): ∀z∈cmS p q g h ss ts,In z:=fun z hz=>by
 obtain⟨k,_,rfl⟩:=List.mem_map.1 hz
 have:=coX_Mb h1 h2 (ss.getD k 0) (ts.getD k 0)
 exact⟨by have:=this.1;omega,by have:=this.2.1;have:=hp.2;omega⟩
theorem deal_ok{p q g h d:Int}{ss ts:List Int}(h1:isB p q g=true)(h2:isB p q h=true)(hd:ndB d=true)(hs:shB ss.length ts.length=true):dcE p q d (cmS p q g h ss ts)=0:=by
 have hb:=shB_iff.1 hs
 unfold dcE
 rw[if_pos (isB_t h1).1,hd,cm_all h1 h2,decide_eq_true (by rw[W4];omega)];rfl
theorem ver_ok{p q g h d nd:Int}{ss ts:List Int}(h1:isB p q g=true)(h2:isB p q h=true)(hd:ndB d=true)(hn:ndB nd=true)(hs:shB ss.length ts.length=true):atE p q d nd (cmS p q g h ss ts)=0/\coE p q g h=0/\atX p q d nd (cmS p q g h ss ts)=coX p q g h (hoN q nd ss ss.length) (hoN q nd ts ts.length):=by
 have hb:=shB_iff.1 hs
 have e1:atE p q d nd (cmS p q g h ss ts)=0:=by unfold atE;rw[deal_ok h1 h2 hd hs,hn];rfl
 exact⟨e1,by unfold coE;rw[h1,h2];rfl,by rw[atX,if_pos e1,<-right_is h1 h2 Z1]⟩
end
section
open Go.RowKit
theorem cDeriveR_core(kv sv:Value)(s:ByteArray)(x er:Int)(ds ys:List Nat)(w:World)(hds:ds.length=32)(hEx:Hid (∀(u:World),Bw w u->CC 148 #[sv,kv] u (.agg (U8 ds).toArray)))
 (hEp:Hid (∀(u:World) (b:Nat),Bw w u->CV u b (U8 ds)->b<u.heap.size->Calls Tryz.prog 149 #[.slice (some ⟨b,0,none⟩) 32 32,.string s,iI x] u fun e u'=> ∃v,e= .returned v/\PTX er ys u' v/\Bw u u')):
 Calls Tryz.prog 128 #[kv,sv,.string s,iI x] w fun e w'=> ∃v,e= .returned v/\PTX er ys w' v/\Bw w w':=by
 have hst:=sc32 ds hds
 have hU:(U8 ds).length=32:=by rw[Zk];exact hds
 go_enter Tryz.func128,Tryz.ntmps128
 go_upto_region 2 with(go_at_call 148;refine(hEx.out _ (Below.refl _ _)).mono ?_;rintro e u1 ⟨rfl,hB1⟩)
 have hBA:Bw w u1:=hB1
 have K0:=bk32 ds hds w.heap.size u1 hBA.size
 have HB0:Bw w ((u1.alloc (.cells #[.int .u8 0,.int .u8 0,.int .u8 0,.int .u8 0,.int .u8 0,.int .u8 0,.int .u8 0,.int .u8 0,.int .u8 0,.int .u8 0,.int .u8 0,.int .u8 0,.int .u8 0,.int .u8 0,.int .u8 0,.int .u8 0,.int .u8 0,.int .u8 0,.int .u8 0,.int .u8 0,.int .u8 0,.int .u8 0,.int .u8 0,.int .u8 0,.int .u8 0,.int .u8 0,.int .u8 0,.int .u8 0,.int .u8 0,.int .u8 0,.int .u8 0,.int .u8 0] 215)).setCells u1.heap.size 0 (U8 ds)):=Zz hBA.size (U8 ds) 0 _ (Z5 hBA _)
 generalize hC:((u1.alloc (.cells #[.int .u8 0,.int .u8 0,.int .u8 0,.int .u8 0,.int .u8 0,.int .u8 0,.int .u8 0,.int .u8 0,.int .u8 0,.int .u8 0,.int .u8 0,.int .u8 0,.int .u8 0,.int .u8 0,.int .u8 0,.int .u8 0,.int .u8 0,.int .u8 0,.int .u8 0,.int .u8 0,.int .u8 0,.int .u8 0,.int .u8 0,.int .u8 0,.int .u8 0,.int .u8 0,.int .u8 0,.int .u8 0,.int .u8 0,.int .u8 0,.int .u8 0,.int .u8 0] 215)).setCells u1.heap.size 0 (U8 ds))=v0 at *
 have hc0:=K0.cv 0
 have hl0:=K0.lt 0
 clear hst hU hC K0
 go_wp2_with (go_at_call 149;refine(hEp.out _ u1.heap.size HB0 hc0 hl0).mono ?_;rintro e u2 ⟨v,rfl,⟨y,rfl,hy⟩,hB2⟩)
 exact bodyPost_ret (v:= .tuple #[y,iI er]) (by simp[results,Tryz.results128,go_sem]) rfl ⟨_,rfl,⟨y,rfl,hy⟩,Z7 HB0 hB2⟩
theorem cDeriveR(ks ss:List Nat)(v sv:Value)(s:ByteArray)(x:Int)(w:World)(hz:0<w.heap.size)(hin:IN w w.heap.size v ks)(hin2:IN w w.heap.size sv ss)(hk: ∀x∈ks,x<256)(hss: ∀x∈ss,x<256)(hkl:ks.length<=1000)(hsl:ss.length<=1000)(hs:s.size<=1000):
 Calls Tryz.prog 128 #[v,sv,.string s,iI x] w fun e w'=> ∃v,e= .returned v/\PTX (exE x) (exY (mac ss ks) (txt s) x) w' v/\Bw w w':=by
 have hm:=mac_B ss ks
 have hE: ∀u,Bw w u->_:=fun u hB=>cExtractR ss ks sv v u ((hin2.below hB).mono hB.size) ((hin.below hB).mono hB.size) hss hk hsl Z1
 obtain⟨ds,eds⟩:=Z3 (mac ss ks)
 rw[eds] at hm hE⊢
 exact cDeriveR_core v sv s x (exE x) ds (exY ds (txt s) x) w hm.len hE (fun u b hB hc hb=>cExpandRX ds _ s x u (by have:=hB.size;omega) (CV_in hm.len hc hb) hm.mem (by rw[hm.len];omega) hs)
theorem nu_from: ∀(b:List Nat) (n:Nat),b.foldl (fun n b=>256*n+b) n=n*256^b.length+num8 b
 | [],n=>by simp[num8]
 | x::b,n=>by
  have e1:num8 (x::b)=(256*0+x)*256^b.length+num8 b:=nu_from b (256*0+x)
  rw[List.foldl_cons,nu_from b,e1,List.length_cons,Nat.pow_succ];grind
theorem nu_app(a b:List Nat):num8 (a++b)=num8 a*256^b.length+num8 b:=by
 have h:=nu_from b (num8 a)
 unfold num8 at h⊢
 rw[List.foldl_append];exact h
theorem nu_step{bs:List Nat}{i:Nat}(h:i<bs.length):num8 (bs.take (i+1))=256*num8 (bs.take i)+bs.getD i 0:=by
 have e:bs.getD i 0=bs[i]:=by rw[List.getD_eq_getElem?_getD,List.getElem?_eq_getElem h];rfl
 rw[List.take_succ_eq_append_getElem h,nu_app,e]
 simp[num8];omega
theorem nu_lt{bs:List Nat}(hx: ∀i,bs.getD i 0<256): ∀i,num8 (bs.take i)<256^i
 | 0=>by simp[num8]
 | i+1=>by
  have h1:=nu_lt hx i
  have h2:=hx i
  have h3:256^(i+1)=256*256^i:=by rw[Nat.pow_succ,Nat.mul_comm]
  by_cases h:i<bs.length
  ·rw[nu_step h];omega
  ·rw[List.take_of_length_le Z1] at h1⊢;omega
def cntL(i c:Nat):Nat:=min 8 (i -8*(7 -c))
def lmb(d:List Nat)(i c:Nat):Nat:=num8 ((d.drop (8*(7 -c))).take (cntL i c))*256^(8 -cntL i c)
def lmbs(d:List Nat)(i:Nat):List Nat:=(List.range 8).map (lmb d i)
theorem Ub(d:List Nat)(i:Nat):(lmbs d i).length=8:=by simp[lmbs]
theorem lmbs_get(d:List Nat)(i c:Nat)(h:c<8):(lmbs d i).getD c 0=lmb d i c:=by
 unfold lmbs
 rw[List.getD_eq_getElem?_getD,List.getElem?_map,List.getElem?_range h];rfl
theorem cnt_here{i:Nat}(h:i<64):cntL i (7 -i/8)=i%8/\cntL (i+1) (7 -i/8)=i%8+1:=by unfold cntL;omega
theorem cnt_else{i c:Nat}(h:i<64)(hc:c<8)(hn:c≠7 -i/8):cntL (i+1) c=cntL i c:=by unfold cntL;omega
theorem dr_getD(d:List Nat)(a j:Nat):(d.drop a).getD j 0=d.getD (a+j) 0:=by simp[List.getD_eq_getElem?_getD,List.getElem?_drop]
theorem lmb_here{d:List Nat}{i:Nat}(hd:d.length=64)(h:i<64):lmb d (i+1) (7 -i/8)=lmb d i (7 -i/8)+d.getD i 0*256^((63 -i)%8):=by
 obtain⟨e1,e2⟩:=cnt_here h
 unfold lmb
 rw[e1,e2]
 have hl:i%8<(d.drop (8*(7 -(7 -i/8)))).length:=by rw[List.length_drop];omega
 rw[nu_step hl,dr_getD,show 8*(7 -(7 -i/8))+i%8=i by omega,show 8 -i%8=(8 -(i%8+1))+1 by omega,show (63 -i)%8=8 -(i%8+1) by omega,Nat.pow_succ]
 grind
theorem lmbs_step{d:List Nat}{i:Nat}(hd:d.length=64)(h:i<64):lmbs d (i+1)=(lmbs d i).set (7 -i/8) (lmb d i (7 -i/8)+d.getD i 0*256^((63 -i)%8)):=by
 refine List.ext_getElem (by rw[List.length_set,Ub,Ub]) fun c h1 h2=>?_
 rw[Ub] at h1
 rw[List.getElem_set]
 have g: ∀k (hk:c<(lmbs d k).length),(lmbs d k)[c]=lmb d k c:=fun k hk=>by
  have:=lmbs_get d k c h1
  rwa [List.getD_eq_getElem?_getD,List.getElem?_eq_getElem hk] at this
 rw[g]
 split
 ·rename_i e;rw[<-e];exact lmb_here hd h
 ·rename_i e
  rw[g];unfold lmb;rw[cnt_else h h1 (fun x=>e x.symm)]
theorem lmb_lt{d:List Nat}(hx: ∀i,d.getD i 0<256)(i c:Nat):lmb d i c<18446744073709551616:=by
 unfold lmb
 have h:=nu_lt (bs:=d.drop (8*(7 -c))) (fun j=>by rw[dr_getD];exact hx _) (cntL i c)
 have hc:cntL i c<=8:=by unfold cntL;omega
 have e:256^cntL i c*256^(8 -cntL i c)=18446744073709551616:=by rw[<-Nat.pow_add,show cntL i c+(8 -cntL i c)=8 by omega]
 have:=Nat.mul_lt_mul_of_pos_right h (show 0<256^(8 -cntL i c) from Nat.pow_pos Z2)
 omega
theorem lmb_0(d:List Nat)(c:Nat):lmb d 0 c=0:=by
 have e:cntL 0 c=0:=by unfold cntL;omega
 unfold lmb;rw[e,List.take_zero,show num8 []=0 from rfl,Nat.zero_mul]
theorem lmbs_0(d:List Nat):lmbs d 0=[0,0,0,0,0,0,0,0]:=by
 have e:lmb d 0=fun _=>0:=funext (lmb_0 d)
 unfold lmbs;rw[e];rfl
theorem Ta(d:List Nat)(c:Nat)(h:c<8):lmb d 64 c=num8 ((d.drop (8*(7 -c))).take 8):=by
 have e:cntL 64 c=8:=by unfold cntL;omega
 unfold lmb;rw[e];simp
theorem T9{d:List Nat}{a:Nat}(h:8+a<=d.length):num8 (d.drop a)=num8 ((d.drop a).take 8)*256^(d.length -a -8)+num8 (d.drop (a+8)):=by
 have:=nu_app ((d.drop a).take 8) ((d.drop a).drop 8)
 rw[List.take_append_drop,List.drop_drop,List.length_drop] at this
 rw[this];try congr 3
theorem lmb_sum{d:List Nat}(hd:d.length=64):(num8 d:Int)=V (lmb d 64 0) (lmb d 64 1) (lmb d 64 2) (lmb d 64 3)+V (lmb d 64 4) (lmb d 64 5) (lmb d 64 6) (lmb d 64 7)*0x10000000000000000000000000000000000000000000000000000000000000000:=by
 have h0:=T9 (d:=d) (a:=0) Z1
 have h1:=T9 (d:=d) (a:=8) Z1
 have h2:=T9 (d:=d) (a:=16) Z1
 have h3:=T9 (d:=d) (a:=24) Z1
 have h4:=T9 (d:=d) (a:=32) Z1
 have h5:=T9 (d:=d) (a:=40) Z1
 have h6:=T9 (d:=d) (a:=48) Z1
 have h7:=T9 (d:=d) (a:=56) Z1
 rw[hd] at h0 h1 h2 h3 h4 h5 h6 h7
 rw[show d.drop (56+8)=[] from List.drop_eq_nil_of_le Z1] at h7
 simp only[List.drop_zero] at h0
 rw[Ta d 0 Z1,Ta d 1 Z1,Ta d 2 Z1,Ta d 3 Z1,Ta d 4 Z1,Ta d 5 Z1,Ta d 6 Z1,Ta d 7 Z1]
 simp only[Nat.reduceSub,Nat.reduceMul,Nat.reducePow,Nat.reduceAdd,List.drop_zero] at *
 have e0:num8 []=0:=rfl
 unfold V
 omega
theorem U64_setG(l:List Nat)(c z:Nat):U64 (l.set c z)=(U64 l).set c (iU (z:Int)):=by unfold U64;rw[List.map_set]
theorem xDigest_core(vb:Value)(s:ByteArray)(d:List Nat)(m r:Int)(L:Nat->List Nat)(x:Nat->Nat)(w:World)(hm:In m)(hd:d.length=64)(hdx:Hid (∀i,d.getD i 0<256))
 (hL0:Hid (L 0=[0,0,0,0,0,0,0,0]))(hLl:Hid (∀i,(L i).length=8))(hLs:Hid (∀i,i<64->L (i+1)=(L i).set (7 -i/8) ((L i).getD (7 -i/8) 0+d.getD i 0*256^((63 -i)%8))))(hLt:Hid (∀i c,(L i).getD c 0<18446744073709551616))
 (hD:Hid (∀u,Bw w u->Calls Tryz.prog 128 #[vb,.slice none 0 0,.string s,iI 64] u fun e u'=> ∃v,e= .returned v/\PTX 0 d u' v/\Bw u u'))
 (hR:Hid (∀u,CC 46 #[A8 (((L 64).getD 0 0:Nat):Int) (((L 64).getD 1 0:Nat):Int) (((L 64).getD 2 0:Nat):Int) (((L 64).getD 3 0:Nat):Int) (((L 64).getD 4 0:Nat):Int) (((L 64).getD 5 0:Nat):Int) (((L 64).getD 6 0:Nat):Int) (((L 64).getD 7 0:Nat):Int),NV m] u (.tuple #[NV r,iI 0]))):
 CC 106 #[vb,.string s,NV m] w (NV r):=by
 obtain⟨w0,ew0⟩:=Z3 ((w.alloc (.cells (LN m).toArray 24)).alloc (.cells #[iU 0,iU 0,iU 0,iU 0] 24))
 have hB0:Bw w w0:=by rw[<-ew0];exact Z5 (Z5 (Zf w) _) _
 have hDw:=hD.out w0 hB0
 go_enter Tryz.func106,Tryz.ntmps106
 go_wp2_with (first | (go_at_call 128;refine hDw.mono ?_;clear hDw;rintro e ua ⟨y,rfl,⟨yd,rfl,hyd⟩,hBa⟩;obtain⟨sd,cd,gb,go,rfl,q1,q2,q3,q4⟩:=hyd) | fail)
 have hBwa:Bw w ua:=Z7 hB0 hBa
 have hsa:=hBa.size
 have hs0:w0.heap.size=w.heap.size+2:=by rw[<-ew0];simp
 have hm0:ua.cell? ⟨w.heap.size,0,none⟩=some (iU (D0 m)):=(hBa.cell (p:=⟨w.heap.size,0,none⟩) (by simp[hs0])).trans (by rw[<-ew0];simp)
 have hm1:ua.cell? ⟨w.heap.size,1,none⟩=some (iU (D1 m)):=(hBa.cell (p:=⟨w.heap.size,1,none⟩) (by simp[hs0])).trans (by rw[<-ew0];simp)
 have hm2:ua.cell? ⟨w.heap.size,2,none⟩=some (iU (D2 m)):=(hBa.cell (p:=⟨w.heap.size,2,none⟩) (by simp[hs0])).trans (by rw[<-ew0];simp)
 have hm3:ua.cell? ⟨w.heap.size,3,none⟩=some (iU (D3 m)):=(hBa.cell (p:=⟨w.heap.size,3,none⟩) (by simp[hs0])).trans (by rw[<-ew0];simp)
 have hbr:CV ua (w.heap.size+1) [iU 0,iU 0,iU 0,iU 0]:=by
  have h1:CV w0 (w.heap.size+1) [iU 0,iU 0,iU 0,iU 0]:=by
   rw[<-ew0]
   have:=CV.new (w.alloc (.cells (LN m).toArray 24)) [iU 0,iU 0,iU 0,iU 0] 24
   simpa using this
  exact h1.below hBa Z1
 replace hm0:Hid _:=hm0
 replace hm1:Hid _:=hm1
 replace hm2:Hid _:=hm2
 replace hm3:Hid _:=hm3
 replace hbr:Hid (CV ua (w.heap.size+1) [iU 0,iU 0,iU 0,iU 0]):=hbr
 replace q4:Hid (SB ua gb go d):=q4
 replace hs0:Hid _:=hs0
 clear hB0 ew0 hBa
 obtain rfl:sd=some ⟨gb,go,none⟩:=q2.resolve_left Z1
 try rw[hd]
 go_loopw [10] (fun s10 wr=> ∃i:Nat,i<=64/\s10=iI (i:Int)/\Hid (CV wr ua.heap.size (U64 (L i)))/\ua.heap.size<wr.heap.size/\Bw ua wr) (fun s10 _=>64 -(intOf s10).toNat)
 case atStart=>exact⟨0,Z1,rfl,(by rw[hL0.out];exact CV.new _ _ _),by simp,Z5 (Zf ua) _⟩
 case round=>
  obtain⟨i,hi,rfl,Kv,hlt,HBr⟩:=hrel
  by_cases hj:i<64
  ·have hl2:(i:Int)<64:=Z1
   have hc0:wr.cell? ⟨gb,go+i,none⟩=some (.int .u8 ((d.getD i 0:Nat):Int)):=(HBr.cell (p:=⟨gb,go+i,none⟩) q3).trans (q4.out i Z1)
   have hy:=hdx.out i
   have hs:=hLs.out i hj
   have hlen:=hLl.out i
   obtain⟨pl,epl⟩:=Z3 (63 -i)
   obtain⟨c,ec⟩:=Z3 (7 -i/8)
   have hcp:c=pl/8:=Z1
   have hc8:c<8:=Z1
   have hb1:=hLt.out (i+1) c
   rw[epl,ec] at hs
   rw[hs] at hb1
   have hb2:((L i).set c ((L i).getD c 0+d.getD i 0*256^(pl%8))).getD c 0=(L i).getD c 0+d.getD i 0*256^(pl%8):=by
    rw[List.getD_eq_getElem?_getD,List.getElem?_set_self Z1];rfl
   rw[hb2] at hb1
   have hcel:=(Kv.out c _ (Y0 (L i) c Z1)).1
   have hfr:=(Kv.out c _ (Y0 (L i) c Z1)).2
   obtain⟨y,ey⟩:=Z3 (d.getD i 0)
   obtain⟨a,ea⟩:=Z3 ((L i).getD c 0)
   rw[ey] at hc0 hy hs hb1
   rw[ea] at hs hb1 hcel
   obtain⟨rm,erm⟩:=Z3 (pl%8)
   rw[erm] at hs hb1
   have hrm:rm<=7:=Z1
   obtain⟨z,ez⟩:=Z3 (y*256^rm)
   rw[ez] at hs hb1
   have hK2:Hid (CV (wr.setCell ⟨ua.heap.size,c,none⟩ (iU ((a+z:Nat):Int))) ua.heap.size (U64 (L (i+1)))):=by
    rw[hs,U64_setG];exact Kv.out.setC c (by rw[Y8];omega) _
   have w1:IntKind.i64.wrap (63 -(i:Int))=(pl:Int):=by rw[IntKind.wrap_i64];omega
   have w2:IntKind.u64.wrap (y:Int)=(y:Int):=by rw[IntKind.wrap_u64];omega
   have w3:IntKind.u64.wrap ((a:Int)+(z:Int))=((a+z:Nat):Int):=by rw[IntKind.wrap_u64];omega
   have w4:IntKind.i64.wrap ((i:Int)+1)=((i+1:Nat):Int):=by rw[IntKind.wrap_i64];omega
   have r1:Int.tmod (pl:Int) 8=(rm:Int):=by rw[<-erm];rfl
   have r2:Int.tdiv (pl:Int) 8=(c:Int):=by rw[hcp];rfl
   have w5:IntKind.i64.wrap (rm:Int)=(rm:Int):=by rw[IntKind.wrap_i64];omega
   have w6:IntKind.i64.wrap (c:Int)=(c:Int):=by rw[IntKind.wrap_i64];omega
   have hcz:(c:Int)<8:=Z1
   clear ec epl ey ea erm hs hb2 hcp
   go_wp2_with fail
   obtain⟨wo,rfl⟩:=Zr wr
   go_loopw [13,12] (fun s13 s12 wx=> ∃k:Nat,k<=rm/\s13=iI (k:Int)/\s12=iU ((y*256^k:Nat):Int)/\wx=wo) (fun s13 _ _=>rm -(intOf s13).toNat)
   case atStart=>exact⟨0,Z1,rfl,by simp,rfl⟩
   case round=>
    obtain⟨k,hk,rfl,rfl,hw⟩:=hrel
    have hw:=hw.symm
    subst hw
    by_cases hj2:k<rm
    ·have hl3:(k:Int)<(rm:Int):=Z1
     have hp:256^(k+1)<=256^7:=Nat.pow_le_pow_right Z2 Z1
     have hb3:y*256^(k+1)<18446744073709551616:=by
      have:y*256^(k+1)<=255*256^7:=Nat.mul_le_mul Z1 hp
      omega
     have e4:y*256^(k+1)=y*256^k*256:=by rw[Nat.pow_succ,Nat.mul_assoc]
     obtain⟨g,eg⟩:=Z3 (y*256^k)
     rw[eg] at e4
     rw[eg]
     have w7:IntKind.u64.wrap ((g:Int)*256)=((y*256^(k+1):Nat):Int):=by rw[IntKind.wrap_u64,e4];omega
     have w8:IntKind.i64.wrap ((k:Int)+1)=((k+1:Nat):Int):=by rw[IntKind.wrap_i64];omega
     obtain⟨g2,eg2⟩:=Z3 (y*256^(k+1))
     rw[eg2] at w7
     clear e4 hb3 eg
     go_wp2
     refine⟨⟨k+1,Z1,by simp,by rw[eg2],by first | rfl | trivial⟩,?_⟩
     simp[intOf];omega
    ·have hl3: ¬(k:Int)<(rm:Int):=Z1
     obtain rfl:k=rm:=Z1
     rw[ez]
     go_wp2
     refine⟨⟨i+1,Z1,by simp,hK2,by simpa using hlt,HBr.setCell (Nat.le_refl _) _⟩,?_⟩
     simp[intOf];omega
  ·obtain rfl:i=64:=Z1
   have hl2: ¬(64:Int)<(64:Int):=Z1
   have hlen:=hLl.out 64
   have c0:=(Kv.out 0 _ (Y0 (L 64) 0 Z1)).1
   have c1:=(Kv.out 1 _ (Y0 (L 64) 1 Z1)).1
   have c2:=(Kv.out 2 _ (Y0 (L 64) 2 Z1)).1
   have c3:=(Kv.out 3 _ (Y0 (L 64) 3 Z1)).1
   have c4:=(Kv.out 4 _ (Y0 (L 64) 4 Z1)).1
   have c5:=(Kv.out 5 _ (Y0 (L 64) 5 Z1)).1
   have c6:=(Kv.out 6 _ (Y0 (L 64) 6 Z1)).1
   have c7:=(Kv.out 7 _ (Y0 (L 64) 7 Z1)).1
   have hs0':=hs0.out
   have m0:wr.cell? ⟨w.heap.size,0,none⟩=some (iU (D0 m)):=(HBr.cell (p:=⟨w.heap.size,0,none⟩) (by show w.heap.size<ua.heap.size;omega)).trans hm0.out
   have m1:wr.cell? ⟨w.heap.size,1,none⟩=some (iU (D1 m)):=(HBr.cell (p:=⟨w.heap.size,1,none⟩) (by show w.heap.size<ua.heap.size;omega)).trans hm1.out
   have m2:wr.cell? ⟨w.heap.size,2,none⟩=some (iU (D2 m)):=(HBr.cell (p:=⟨w.heap.size,2,none⟩) (by show w.heap.size<ua.heap.size;omega)).trans hm2.out
   have m3:wr.cell? ⟨w.heap.size,3,none⟩=some (iU (D3 m)):=(HBr.cell (p:=⟨w.heap.size,3,none⟩) (by show w.heap.size<ua.heap.size;omega)).trans hm3.out
   have hRw:=hR.out wr
   obtain⟨a0,ea0⟩:=Z3 ((L 64).getD 0 0)
   obtain⟨a1,ea1⟩:=Z3 ((L 64).getD 1 0)
   obtain⟨a2,ea2⟩:=Z3 ((L 64).getD 2 0)
   obtain⟨a3,ea3⟩:=Z3 ((L 64).getD 3 0)
   obtain⟨a4,ea4⟩:=Z3 ((L 64).getD 4 0)
   obtain⟨a5,ea5⟩:=Z3 ((L 64).getD 5 0)
   obtain⟨a6,ea6⟩:=Z3 ((L 64).getD 6 0)
   obtain⟨a7,ea7⟩:=Z3 ((L 64).getD 7 0)
   rw[ea0,ea1,ea2,ea3,ea4,ea5,ea6,ea7] at hRw
   rw[ea0] at c0
   rw[ea1] at c1
   rw[ea2] at c2
   rw[ea3] at c3
   rw[ea4] at c4
   rw[ea5] at c5
   rw[ea6] at c6
   rw[ea7] at c7
   clear ea0 ea1 ea2 ea3 ea4 ea5 ea6 ea7
   have hBwr:Bw w wr:=Z7 hBwa HBr
   have hbw:Hid (CV wr (w.heap.size+1) [iU 0,iU 0,iU 0,iU 0]):=hbr.out.below HBr Z1
   have hsr:=HBr.size
   replace hs0':Hid _:=hs0'
   go_wp2_with (first
    | (go_at_call 46;refine hRw.mono ?_;clear hRw;rintro e ub ⟨rfl,hBb⟩;have hbz:=hbw.out.below hBb (by have:=hs0'.out;omega);have k0:=hbz 0 _ rfl;have k1:=hbz 1 _ rfl;have k2:=hbz 2 _ rfl;have k3:=hbz 3 _ rfl;obtain⟨k0,f0⟩:=k0;obtain⟨k1,f1⟩:=k1;obtain⟨k2,f2⟩:=k2;obtain⟨k3,f3⟩:=k3;replace hbz:Hid _:=hbz;have hlz:w.heap.size+1<ub.heap.size:=(by have:=hs0'.out;have:=hBb.size;omega);have hne:w.heap.size+1≠ub.heap.size:=Z1)
    | fail)
   have hBf:Bw w ub:=Z7 hBwr hBb
   exact bodyPost_ret (v:=NV r) (by simp[results,Tryz.results106,go_sem,k0,k1,k2,k3,hlz,hne]) rfl ⟨rfl,Z5 ((((hBf.setCell (Nat.le_succ _) _).setCell (Nat.le_succ _) _).setCell (Nat.le_succ _) _).setCell (Nat.le_succ _) _) _⟩
def dgN(bs:List Nat)(s:ByteArray)(m:Int):Int:=(num8 (exY (mac [] bs) (txt s) 64):Int)%m
theorem exY64(k tx:List Nat):(exY k tx 64).length=64:=by
 unfold exY
 rw[if_neg Z2,if_neg Z2]
 unfold exN
 rw[List.length_take,exS_len];decide
theorem xDigest(bs:List Nat)(v:Value)(s:ByteArray)(m:Int)(w:World)(hm:In m)(hm0:m≠0)(h:IN w w.heap.size v bs)(hb: ∀x∈bs,x<256)(hl:bs.length<=1000)(hs:s.size<=1000):
 CC 106 #[v,.string s,NV m] w (NV (dgN bs s m)):=by
 have hd:(exY (mac [] bs) (txt s) 64).length=64:=exY64 _ _
 have hx: ∀i,(exY (mac [] bs) (txt s) 64).getD i 0<256:=fun i=>by
  by_cases hi:i<(exY (mac [] bs) (txt s) 64).length
  ·rw[List.getD_eq_getElem?_getD,List.getElem?_eq_getElem hi];exact exY_m _ _ _ _ (List.getElem_mem hi)
  ·rw[List.getD_eq_getElem?_getD,List.getElem?_eq_none Z1];decide
 have hpos:0<w.heap.size:=by obtain⟨_,_,gb,_,_,_,_,h4,_⟩:=h;omega
 obtain⟨d,ed⟩:=Z3 (exY (mac [] bs) (txt s) 64)
 unfold dgN
 have hD:=fun(u:World) (hB:Bw w u)=>cDeriveR bs [] v (.slice none 0 0) s 64 u (by have:=hB.size;omega) ((h.below hB).mono hB.size) (IN_nil u (by have:=hB.size;omega)) hb (by simp) hl (by simp) hs
 rw[ed] at hd hx⊢
 simp only[ed] at hD
 have g: ∀c,c<8->(lmbs d 64).getD c 0=lmb d 64 c:=fun c hc=>lmbs_get d 64 c hc
 have W: ∀i c,W64 (lmb d i c:Int):=fun i c=>⟨Int.natCast_nonneg _,by have:=lmb_lt hx i c;omega⟩
 refine xDigest_core v s d m _ (lmbs d) (fun _=>0) w hm hd hx (lmbs_0 d) (Ub d) (fun i hi=>?_) (fun i c=>?_) hD (fun u=>?_)
 ·rw[lmbs_step hd hi,lmbs_get d i _ Z1]
 ·by_cases hc:c<8
  ·rw[lmbs_get d i c hc];exact lmb_lt hx i c
  ·rw[List.getD_eq_getElem?_getD,List.getElem?_eq_none (by rw[Ub];omega)];decide
 ·rw[g 0 Z1,g 1 Z1,g 2 Z1,g 3 Z1,g 4 Z1,g 5 Z1,g 6 Z1,g 7 Z1,<-WV_of (num8 d:Int) _ _ _ _ _ _ _ _ (W 64 0) (W 64 1) (W 64 2) (W 64 3) (W 64 4) (W 64 5) (W 64 6) (W 64 7) (lmb_sum hd)]
  refine Wf (num8 d:Int) m u ⟨Int.natCast_nonneg _,?_⟩ hm hm0
  have h1:=nu_lt hx 64
  rw[List.take_of_length_le Z1] at h1
  have h2:(256:Nat)^64=0x10000000000000000000000000000000000000000000000000000000000000000*0x10000000000000000000000000000000000000000000000000000000000000000:=by decide+kernel
  omega
section
def PIn(ys:List Nat)(u:World)(v:Value):Prop:=IN u u.heap.size v ys
theorem PIn.stab{ys:List Nat}{u u2:World}{x:Value}(hB:Bw u u2)(h:PIn ys u x):PIn ys u2 x:=(IN.below h hB).mono hB.size
def P8(lo:Nat)(xs:List Nat)(u:World)(v:Value):Prop:= ∃b,v= .slice (some ⟨b,0,none⟩) 8 8/\lo<=b/\b<u.heap.size/\CV u b (U8 xs)
theorem P8.stab{lo:Nat}{xs:List Nat}{u u2:World}{x:Value}(hB:Bw u u2)(h:P8 lo xs u x):P8 lo xs u2 x:=by
 obtain⟨b,e,h1,h2,h3⟩:=h
 exact⟨b,e,h1,Nat.lt_of_lt_of_le h2 hB.size,h3.below hB h2⟩
theorem bs8c(i:Nat)(w:World):(Instr.buildSlice 133 8 ([0,1,2,3,4,5,6,7].zip [.int .u8 0,.int .u8 0,.int .u8 0,.int .u8 0,.int .u8 0,.int .u8 0,.int .u8 0,.int .u8 (i:Int)]).toArray).run Tryz.prog w= .ok (.slice (some ⟨w.heap.size,0,none⟩) 8 8) (w.alloc (.cells (U8 [0,0,0,0,0,0,0,i]).toArray 5)):=by kernel_rfl
theorem app_P8{lo:Nat}{xs ys:List Nat}{b:Nat}{y:Value}{ty:TypeId}{u:World}(hlo:lo<=b)(hlu:lo<=u.heap.size)(hb:b<u.heap.size)(hxl:xs.length=8)(hl:ys.length<=100000)(hy:IN u u.heap.size y ys)(h:CV u b (U8 xs)):
 ∃v u',(Builtin.append_ #[133,133] ty #[.slice (some ⟨b,0,none⟩) 8 8,y]).run Tryz.prog u= .ok v u'/\Bw u u'/\IN u' u'.heap.size v (xs++ys):=by
 obtain⟨ti,hti,htm⟩:=Option.map_eq_some_iff.1 infoB
 simp only[Prod.mk.injEq] at htm
 obtain⟨hzv,hsz,hby⟩:=htm
 obtain⟨v',u',hr,hB,hg⟩:=Vh (P:=Tryz.prog) u (ty:=ty) Tryz.underlying133 hti hzv (by rw[hsz];rfl) (n:=8) (m:=ys.length) (xs:=U8 xs) (news:=U8 ys) h hlo hlu hb (by rw[hsz,Zk,hxl]) (IN_NW hy) (by rw[hsz,Zk];omega) (by rw[hby];omega) Z1
 rw[hsz,<-U8_app] at hg
 exact⟨v',u',hr,hB,PG_in (by rw[List.length_append,hxl];exact hg)⟩
theorem lss_k(p q:Operand)(x y:Int)(b:Bool)(w:World)(h:decide (x<y)=b):(do eqGuard .lss 3 p q (iI x) (iI y);binOp .lss 3 (iI x) (iI y):Sem Value).run Tryz.prog w= .ok (.bool b) w:=by
 subst h;go_simp
theorem gtr_k(p q:Operand)(x y:Int)(b:Bool)(w:World)(h:decide (y<x)=b):(do eqGuard .gtr 3 p q (iI x) (iI y);binOp .gtr 3 (iI x) (iI y):Sem Value).run Tryz.prog w= .ok (.bool b) w:=by
 subst h;go_simp
theorem bd1m(w:World):(Instr.build 24 [(0,iU 1)].toArray).run Tryz.prog w= .ok (NV 1) w:=by kernel_rfl
theorem cvi8k{o:Oper}{ev:Operand->Value}{x:Operand}{n:Nat}(u:World)(h1:n<256)(ho:o.op= .convert 3 5 x)(hx:ev x=iI (n:Int)):(execOp ev o).run Tryz.prog u= .ok (.value (.int .u8 (n:Int))) u:=by
 have e1:IntKind.u8.wrap (n:Int)=(n:Int):=wraps_u8 _ Z1 Z1
 unfold execOp;rw[ho];simp only[hx];go_simp
section
variable {R:Rg} {P:Program} {ops:Array Oper} {Q:Exit->Act->World->Prop} {f:Nat->Bool} {t:Nat->Value} {u:World} {a:Act} {i:Nat} {o:Oper}
theorem g_aK(n:Nat)(p:World->Value->Prop){T:TypeId}{x y:Operand}{vx vy:Value}(h: ∀f u,KC f u R.lo R.base R.es->R.base<=u.heap.size->Below R.lo R.w u-> ∃v u',(Builtin.append_ #[T,T] o.type #[vx,vy]).run P u= .ok v u'/\Bw u u'/\p u' v)(hop:o.op= .call {callee:= .builtin .append,args:=[x,y].toArray,argTypes:=[T,T].toArray}:=by rfl)(hx:evR R i o x=some vx:=by rfl)(hy:evR R i o y=some vy:=by rfl)(hn:(R.E[n]?).map (·.p)=some p:=by rfl)(hc:R.chkE ops n i o=true:=by rfl):OG R P ops Q i o:=fun f t u a X=>by
 obtain⟨d,q,hd,hq,_,_,_,_,_,_,_,_,hw⟩:=Zm hc
 obtain⟨v,u',hr,hB,hp⟩:=h f u X.I.2.1 X.I.1.sz X.I.1.bel
 exact X.go hw fun K hK=>Vn hop (X.ev hx) (X.ev hy) hr (hK _ _ (X.putE hc (fun q hq=>by rw[hq] at hn;cases hn;exact hp) hB))
theorem g_cWg(m:Nat)(p:World->Value->Prop){N:FuncId}{j d:Nat}{args:List Operand}{tys:Array TypeId}{v:Value}(vs:Value->List Value)(hr: ∀(vs:Array Value) (w:World),(callFunc N vs).run P w= .ok (.enter N vs) w)
 (hcall: ∀(u:World) (y:Value),Below R.lo R.w u->p u y->Calls P N (vs y).toArray u fun e u'=>e= .returned v/\Bw u u')(hop:o.op= .call {callee:= .value (.func N),args:=args.toArray,argTypes:=tys}:=by rfl)(hm:R.E[m]?=some ⟨j,d,some i,p⟩:=by rfl)(hx: ∀y,args.mapM (ev1 R i o d y)=some (vs y):=by intro y;rfl)(hd:(Zs o j&&R.S.contains d)=true:=by rfl)(hv:some v=Y3 i R.G:=by rfl)(hc:R.chk ops i o=true:=by rfl):OG R P ops Q i o:=fun f t u a X=>by
 rw[Bool.and_eq_true,List.contains_iff_mem] at hd
 obtain⟨h2,h4⟩:=hd
 have hy:p u (t d):=X.val hm h2 rfl
 exact X.go (Yi hc).choose_spec.2.2.2.2.2.2.2 fun K hK=>Wg hop (evs1 X h4 (hx (t d))) hr (hcall u (t d) X.I.1.bel hy) fun w' hB=>hK _ _ (X.put hv hc (X.I.1.call hB) (X.I.2.1.below hB X.I.1.sz) hB)
end
theorem Yo:EnT 106:=fun _ _=>by kernel_rfl
theorem xMember_core(p q g h rv:Int)(bs:List Nat)(vb:Value)(f sq cf:Nat->Int)(w:World)(hin:IN w w.heap.size vb bs)(hbl:bs.length<=100000)
 (hC:Hid (∀u,CC 17 #[GX p q g h] u (iI 0)))
 (hD:Hid (∀(k:Nat) u y,k<64->Bw w u->PIn ([0,0,0,0,0,0,0,k]++bs) u y->CC 106 #[y,.string ⟨#[109,101,109,98,101,114]⟩,NV p] u (NV (f k))))
 (hM:Hid (∀(k:Nat) u,k<64->CC 19 #[NV (f k),NV (f k),NV p] u (.tuple #[NV (sq k),iI 0])))
 (hQ:Hid (∀(k:Nat) u,k<64->CC 43 #[NV (sq k),NV 1] u (iI (cf k))))
 (hc:Hid (∀k,k<64->(1<sq k->0<cf k)/\(¬1<sq k->cf k<=0)))
 (hE:Hid (∀k,k<64->(∀j,j<k->sq j<=1)->1<sq k->sq k=rv))(hE2:Hid ((∀j,j<64->sq j<=1)->rv=1)):
 CC 80 #[GX p q g h,vb] w (.tuple #[NV rv,iI 0]):=by
 go_enter Tryz.func80,Tryz.ntmps80
 go_upto_region 1 with fail
 obtain⟨v0,hC,HB0,K0⟩:=bx2 w (GE p q g h) 26 L0s 24
 rw[hC]
 clear hC
 refine Rn K0 HB0 (cG 0 11 [_,_,_] []) (Oc3 (g_ld 0 Tryz.underlying26 Z4) (g_cl Z6 hC.out) (g_bn (fun uZ=>Y7 _ _ _ 0 0 _ uZ rfl))) fun u1 HB1 _ K1=>?_
 simp only[sQ] at K1⊢
 go_upto_region 3 with fail
 refine Rn K1 HB1 [(0,6,_)] (Oc1 g_as) fun u2 HB2 _ K2=>?_
 simp only[sQ] at K2⊢
 go_wp2_with fail
 go_loopw [6] (fun s6 wr=> ∃(k:Nat),k<=64/\s6=iI (k:Int)/\Hid (∀j,j<k->sq j<=1)/\Bw w wr/\CV wr (w.heap.size) (GE p q g h)/\w.heap.size<wr.heap.size/\CV wr (w.heap.size+1) (L0s)/\w.heap.size+1<wr.heap.size) (fun s6 _=>64 -(intOf s6).toNat)
 case atStart=>exact⟨0,Z1,rfl,fun j hj=>absurd hj Z1,HB2,(K2.cv 0),(K2.lt 0),(K2.cv 1),(K2.lt 1)⟩
 case round=>
  obtain⟨k,hk,rfl,hall,HBr,Kp,lp,Kr,lr⟩:=hrel
  have hnK:=K2.n
  simp at hnK
  by_cases hj:k<64
  ·have hl:decide ((k:Int)<64)=true:=by simp;omega
   have hDg:=fun u y (hB:Bw w u) h=>hD.out k u y hj hB h
   have hMu:=fun u=>hM.out k u hj
   have hCp:=fun u=>hQ.out k u hj
   have hc1:=hc.out k hj
   have hev:=hE.out k hj hall.out
   have hall2: ¬1<sq k->Hid (∀j,j<k+1->sq j<=1):=fun hb j hj2=>by
    by_cases e:j=k
    ·subst e;omega
    ·exact hall.out j Z1
   have hDg:Hid _:=hDg
   have hMu:Hid _:=hMu
   have hCp:Hid _:=hCp
   have hk64:(k:Int)<64:=Z1
   obtain⟨x,ex⟩:=Z3 (f k)
   obtain⟨y,ey⟩:=Z3 (sq k)
   obtain⟨c,ec⟩:=Z3 (cf k)
   rw[ex] at hDg hMu
   rw[ey] at hMu hCp hev hall2 hc1
   rw[ec] at hCp hc1
   clear ex ey ec
   by_cases hy1:1<y
   ·have hcb:decide (0<c)=true:=by have:=hc1.1 Z1;simp;omega
    have hrv:=hev hy1
    subst hrv
    have K2_1:Bk w.heap.size wr [(false,w.heap.size,GE p q g h),(true,w.heap.size+1,L0s)]:=⟨.c lp Kp<| .o lr (K2.lo 1) Kr<|trivial,by simp<;>omega⟩
    go_upto_region 4 with fail
    refine Rn K2_1 HBr [(0,15,_),(1,16,_)] (Oc2 g_mv (g_bn (fun uZ=>lss_k _ _ (k:Int) 64 _ uZ hl))) fun u3 HB3 sz3 K3=>?_
    simp only[sQ] at K3⊢
    go_upto_region 6 with fail
    refine Rf K3 HB3 [] [] [(0,19,_),(1,20,_)] [] [] [⟨2,21,some 3,P8 u3.heap.size [0,0,0,0,0,0,0,k]⟩,⟨3,7,none,P8 u3.heap.size [0,0,0,0,0,0,0,k]⟩] [] (Oc4 g_mv (g_op (fun ev uZ he=>cvi8k uZ Z1 rfl (he _ _ rfl))) (g_bR 0 (P8 u3.heap.size [0,0,0,0,0,0,0,k]) [0,1,2,3,4,5,6,7] [.int .u8 0,.int .u8 0,.int .u8 0,.int .u8 0,.int .u8 0,.int .u8 0,.int .u8 0,.int .u8 (k:Int)] (U8 [0,0,0,0,0,0,0,k]) (bs8c k) (fun u hu=>⟨_,rfl,hu,by simp,CV.new u _ _⟩)) (g_sE 0 1 (P8 u3.heap.size [0,0,0,0,0,0,0,k]))) fun u4 v4_2 hv4_2 v4_3 hv4_3 HB4 sz4 K4=>?_
    simp only[sQ] at K4⊢
    obtain⟨b8,rfl,l1,l2,l3⟩:=hv4_3 rfl
    have K4xe8:=Bk.more3 K3 K4 l1 l2 l3 (by intro x hx;first | (simp at hx;done) | (simp at hx⊢;omega))
    simp only[aK] at K4xe8
    go_upto_region 7 with fail
    refine Re K4xe8 HB4 [] [(6,8,L0s,some (7,LN x))] [(0,22,_),(1,23,_),(3,25,_),(4,26,_),(5,27,_)] [(7,6)] [] [⟨2,24,some 5,PIn ([0,0,0,0,0,0,0,k]++bs)⟩] [true,true,false] (Oc8 g_mv g_mv (g_aK 0 (PIn ([0,0,0,0,0,0,0,k]++bs)) (fun f u kZ hs bZ=>app_P8 (lo:=0) (Nat.zero_le _) (Nat.zero_le _) (Nat.lt_of_lt_of_le (KC.get kZ (k:=2) rfl).1 hs) rfl hbl ((IN.below hin bZ).mono bZ.size) (KC.cv kZ 2))) (g_fd (fdG0 _)) (g_lo 0 0 uN iN) (g_cWg 0 (PIn ([0,0,0,0,0,0,0,k]++bs)) (fun y=>[y,.string ⟨#[109,101,109,98,101,114]⟩,NV p]) Yo (fun u y bZ hy=>hDg.out u y bZ hy)) (g_al 0 aN) (g_sn 0 iN)) fun u5 b5_6 v5_2 hv5_2 HB5 sz5 K5=>?_
    simp only[sQ] at K5⊢
    go_upto_region 8 with fail
    refine Rp K5 HB5 [] [(8,9,L0s,some (9,LN y))] (cG 0 29 [_,_,_,_,_] [(5,28,_),(6,34,_),(7,35,_),(10,10,_)]) [(9,8)] [] [true,true,false] (Od8 (g_ld 2 uN iN) (g_ld 2 uN iN) (g_fd (fdG0 _)) (g_lo 0 0 uN iN) (g_cl Zh hMu.out) g_mv g_ex g_ex<|Oc3 (g_al 0 aN) (g_sn 0 iN) g_as) fun u6 b6_8 HB6 sz6 K6=>?_
    simp only[sQ] at K6⊢
    go_upto_region 9 with fail
    refine Rn K6 HB6 (cG 0 36 [_,_,_,_] []) (Oc4 (g_ld 2 uN iN) (g_bd bd1m) (g_cl Zi hCp.out) (g_bn (fun uZ=>gtr_k _ _ c 0 _ uZ hcb))) fun u7 HB7 sz7 K7=>?_
    simp only[sQ] at K7⊢
    go_upto_region 10 with fail
    refine Rp K7 HB7 [.no,.all 1 (LN y)] [] [(0,40,_),(2,5,_)] [] [] [true,true,false] (Oc3 (g_ld 2 uN iN) (g_st 1 iN) g_as) fun u8 HB8 sz8 K8=>?_
    simp only[sQ] at K8⊢
    have c4:=(K8.cv 1).n4
    go_wp2
    refine bodyPost_ret (v:= .tuple #[NV y,iI 0]) (by simp[results,Tryz.results80,go_sem,c4]) rfl ⟨rfl,HB8⟩
   ·have hcb:decide (0<c)=false:=by have:=hc1.2 Z1;simp;omega
    have hall3:=hall2 hy1
    have hall3:Hid _:=hall3
    clear hall2 hev
    have K2_1:Bk w.heap.size wr [(false,w.heap.size,GE p q g h),(true,w.heap.size+1,L0s)]:=⟨.c lp Kp<| .o lr (K2.lo 1) Kr<|trivial,by simp<;>omega⟩
    go_upto_region 4 with fail
    refine Rn K2_1 HBr [(0,15,_),(1,16,_)] (Oc2 g_mv (g_bn (fun uZ=>lss_k _ _ (k:Int) 64 _ uZ hl))) fun u3 HB3 sz3 K3=>?_
    simp only[sQ] at K3⊢
    go_upto_region 6 with fail
    refine Rf K3 HB3 [] [] [(0,19,_),(1,20,_)] [] [] [⟨2,21,some 3,P8 u3.heap.size [0,0,0,0,0,0,0,k]⟩,⟨3,7,none,P8 u3.heap.size [0,0,0,0,0,0,0,k]⟩] [] (Oc4 g_mv (g_op (fun ev uZ he=>cvi8k uZ Z1 rfl (he _ _ rfl))) (g_bR 0 (P8 u3.heap.size [0,0,0,0,0,0,0,k]) [0,1,2,3,4,5,6,7] [.int .u8 0,.int .u8 0,.int .u8 0,.int .u8 0,.int .u8 0,.int .u8 0,.int .u8 0,.int .u8 (k:Int)] (U8 [0,0,0,0,0,0,0,k]) (bs8c k) (fun u hu=>⟨_,rfl,hu,by simp,CV.new u _ _⟩)) (g_sE 0 1 (P8 u3.heap.size [0,0,0,0,0,0,0,k]))) fun u4 v4_2 hv4_2 v4_3 hv4_3 HB4 sz4 K4=>?_
    simp only[sQ] at K4⊢
    obtain⟨b8,rfl,l1,l2,l3⟩:=hv4_3 rfl
    have K4xe8:=Bk.more3 K3 K4 l1 l2 l3 (by intro x hx;first | (simp at hx;done) | (simp at hx⊢;omega))
    simp only[aK] at K4xe8
    go_upto_region 7 with fail
    refine Re K4xe8 HB4 [] [(6,8,L0s,some (7,LN x))] [(0,22,_),(1,23,_),(3,25,_),(4,26,_),(5,27,_)] [(7,6)] [] [⟨2,24,some 5,PIn ([0,0,0,0,0,0,0,k]++bs)⟩] [true,true,false] (Oc8 g_mv g_mv (g_aK 0 (PIn ([0,0,0,0,0,0,0,k]++bs)) (fun f u kZ hs bZ=>app_P8 (lo:=0) (Nat.zero_le _) (Nat.zero_le _) (Nat.lt_of_lt_of_le (KC.get kZ (k:=2) rfl).1 hs) rfl hbl ((IN.below hin bZ).mono bZ.size) (KC.cv kZ 2))) (g_fd (fdG0 _)) (g_lo 0 0 uN iN) (g_cWg 0 (PIn ([0,0,0,0,0,0,0,k]++bs)) (fun y=>[y,.string ⟨#[109,101,109,98,101,114]⟩,NV p]) Yo (fun u y bZ hy=>hDg.out u y bZ hy)) (g_al 0 aN) (g_sn 0 iN)) fun u5 b5_6 v5_2 hv5_2 HB5 sz5 K5=>?_
    simp only[sQ] at K5⊢
    go_upto_region 8 with fail
    refine Rp K5 HB5 [] [(8,9,L0s,some (9,LN y))] (cG 0 29 [_,_,_,_,_] [(5,28,_),(6,34,_),(7,35,_),(10,10,_)]) [(9,8)] [] [true,true,false] (Od8 (g_ld 2 uN iN) (g_ld 2 uN iN) (g_fd (fdG0 _)) (g_lo 0 0 uN iN) (g_cl Zh hMu.out) g_mv g_ex g_ex<|Oc3 (g_al 0 aN) (g_sn 0 iN) g_as) fun u6 b6_8 HB6 sz6 K6=>?_
    simp only[sQ] at K6⊢
    go_upto_region 9 with fail
    refine Rp K6 HB6 [] [] (cG 0 36 [_,_,_,_] []) [] [] [true,true,false] (Oc4 (g_ld 2 uN iN) (g_bd bd1m) (g_cl Zi hCp.out) (g_bn (fun uZ=>gtr_k _ _ c 0 _ uZ hcb))) fun u7 HB7 sz7 K7=>?_
    simp only[sQ] at K7⊢
    go_upto_region 5 with fail
    refine Rp K7 HB7 [] [] [(0,17,_),(1,18,_),(2,6,_)] [(2,0)] [(2,6)] [] (Oc3 g_mv (g_bn (fun uZ=>Zu _ _ (k:Int) 1 ((k+1:Nat):Int) uZ Z1 Z1 Z1)) g_as) fun u8 HB8 sz8 K8=>?_
    simp only[sQ] at K8⊢
    go_wp2
    refine⟨⟨k+1,Z1,rfl,hall3.out,HB8,(K8.cv 0),(K8.lt 0),(K8.cv 1),(K8.lt 1)⟩,?_⟩
    simp[intOf]<;>omega
  ·have hl:decide ((k:Int)<64)=false:=by simp;omega
   have hkn:k=64:=Z1
   have hrv:=hE2.out (by rw[<-hkn];exact hall.out)
   clear hkn
   subst hrv
   have K2_1:Bk w.heap.size wr [(false,w.heap.size,GE p q g h),(true,w.heap.size+1,L0s)]:=⟨.c lp Kp<| .o lr (K2.lo 1) Kr<|trivial,by simp<;>omega⟩
   go_upto_region 4 with fail
   refine Rn K2_1 HBr [(0,15,_),(1,16,_)] (Oc2 g_mv (g_bn (fun uZ=>lss_k _ _ (k:Int) 64 _ uZ hl))) fun u3 HB3 sz3 K3=>?_
   simp only[sQ] at K3⊢
   go_upto_region 11 with fail
   refine Rp K3 HB3 [.no,.all 1 (LN 1)] [] [(0,41,_),(2,5,_)] [] [] [] (Oc3 (g_bd bd1m) (g_st 1 iN) g_as) fun u4 HB4 sz4 K4=>?_
   simp only[sQ] at K4⊢
   have c4:=(K4.cv 1).n4
   go_wp2
   refine bodyPost_ret (v:= .tuple #[NV 1,iI 0]) (by simp[results,Tryz.results80,go_sem,c4]) rfl ⟨rfl,HB4⟩
end
def tMem:ByteArray:=⟨#[109,101,109,98,101,114]⟩
def dgM(p:Int)(bs:List Nat)(i:Nat):Int:=dgN ([0,0,0,0,0,0,0,i]++bs) tMem p
def sqM(p:Int)(bs:List Nat)(i:Nat):Int:=dgM p bs i*dgM p bs i%p
def meF(f:Nat->Int)(i:Nat):Nat->Int
 | 0=>1
 | k+1=>if 1<f i then f i else meF f (i+1) k
def meN(p:Int)(bs:List Nat):Int:=meF (sqM p bs) 0 64
theorem meF_hit{f:Nat->Int}: ∀(k s i:Nat),i<k->(∀j,j<i->f (s+j)<=1)->1<f (s+i)->meF f s k=f (s+i)
 | 0,s,i,h,_,_=>absurd h Z1
 | k+1,s,0,_,_,h2=>by rw[Nat.add_zero] at h2;rw[meF,if_pos h2];rfl
 | k+1,s,i+1,h,h1,h2=>by
  have h0:=h1 0 Z1
  rw[Nat.add_zero] at h0
  rw[meF,if_neg Z1,meF_hit k (s+1) i Z1 (fun j hj=>by have:=h1 (j+1) Z1;rwa [show s+1+j=s+(j+1) by omega]) (by rwa [show s+1+i=s+(i+1) by omega])]
  rw[show s+1+i=s+(i+1) by omega]
theorem meF_none{f:Nat->Int}: ∀(k s:Nat),(∀j,j<k->f (s+j)<=1)->meF f s k=1
 | 0,s,_=>rfl
 | k+1,s,h1=>by
  have h0:=h1 0 Z1
  rw[Nat.add_zero] at h0
  rw[meF,if_neg Z1]
  exact meF_none k (s+1) (fun j hj=>by have:=h1 (j+1) Z1;rwa [show s+1+j=s+(j+1) by omega])
theorem xMemberK(p q g h:Int)(bs:List Nat)(v:Value)(w:World)(hp:In p)(hq:In q)(hin:IN w w.heap.size v bs)(hb: ∀x∈bs,x<256)(hl:bs.length<=900)(hg:gOk p q):
 CC 80 #[GX p q g h,v] w (.tuple #[NV (meN p bs),iI 0]):=by
 have hw:0<w.heap.size:=by obtain⟨_,_,gb,_,_,_,_,h4,_⟩:=hin;omega
 have hC:=fun u=>Vz p q g h u hp hq hg
 have h7:=hg.2
 have hp0:p≠0:=Z1
 refine xMember_core p q g h (meN p bs) bs v (dgM p bs) (sqM p bs) (fun k=>cmpI (sqM p bs k) 1) w hin Z1 hC (fun k u y hk hB hy=>?_) (fun k u hk=>xMul _ _ p u (Zt hp hp0) (Zt hp hp0) hp hp0) (fun k u hk=>V6 _ 1 u (Zt hp hp0) In_1) (fun k hk=>?_) (fun k hk hn hy=>?_) (fun hn=>?_)
 ·exact xDigest _ y _ p u hp hp0 hy (fun x hx=>by
   rcases List.mem_append.1 hx with h | h
   ·simp at h;omega
   ·exact hb x h) (by rw[List.length_append];simp;omega) Z2
 ·unfold cmpI;(repeat' split)<;>omega
 ·have:=meF_hit (f:=sqM p bs) 64 0 k hk (fun j hj=>by rw[Nat.zero_add];exact hn j hj) (by rw[Nat.zero_add];exact hy)
  rw[Nat.zero_add] at this;exact this.symm
 ·exact meF_none (f:=sqM p bs) 64 0 (fun j hj=>by rw[Nat.zero_add];exact hn j hj)
end
section
theorem sq_Mb{p q x:Int}(hp:Pr p.toNat)(hg:gOk p q)(h:x%p≠0):Mb p q (x*x%p):=by
 have h7:=hg.2
 have h2:=hg.1
 refine Mb.of hg ?_
 have ha0:=Int.emod_nonneg x (show p≠0 by omega)
 have ha1:=Int.emod_lt_of_pos x (show 0<p by omega)
 have e0:(x*x)^q.toNat%p=(x%p)^(p.toNat -1)%p:=by
  rw[show p.toNat -1=2*q.toNat by omega,Int.pow_mul,<-Wi (x*x),<-Wi ((x%p)^2),Int.pow_succ,Int.pow_succ,Int.pow_zero,Int.one_mul,<-Int.mul_emod]
 rw[e0]
 obtain⟨a,ea⟩: ∃a:Nat,x%p=(a:Int):=⟨(x%p).toNat,Z1⟩
 rw[ea] at h ha1⊢
 have hb: ¬p.toNat∣a:=fun hd=>by have:=Nat.le_of_dvd Z1 hd;omega
 have hf:=hp.fermat hb
 have hf2:((a^(p.toNat -1)%p.toNat:Nat):Int)=1:=by rw[hf];rfl
 rw[Int.natCast_emod,Int.natCast_pow,Int.toNat_of_nonneg Z1] at hf2
 exact hf2
theorem one_Mb{p q:Int}(hg:gOk p q):Mb p q 1:=by
 have h7:=hg.2
 exact⟨Z1,Z1,by rw[Int.one_pow];exact one_mod Z1⟩
theorem meF_is{f:Nat->Int}: ∀(k s:Nat),meF f s k=1\/ ∃i,meF f s k=f i/\1<f i
 | 0,s=>.inl rfl
 | k+1,s=>by
  rw[meF]
  by_cases h:1<f s
  ·rw[if_pos h];exact .inr ⟨s,rfl,h⟩
  ·rw[if_neg h];exact meF_is k (s+1)
theorem meN_Mb{p q:Int}(hp:Pr p.toNat)(hg:gOk p q)(bs:List Nat):Mb p q (meN p bs):=by
 unfold meN
 rcases meF_is (f:=sqM p bs) 64 0 with h | ⟨i,h,h1⟩
 ·rw[h];exact one_Mb hg
 ·rw[h]
  unfold sqM at h1⊢
  refine sq_Mb hp hg fun e=>?_
  rw[Int.mul_emod,e,Int.mul_zero,Int.zero_emod] at h1
  omega
abbrev P0:Int:=1162079267
abbrev Q0:Int:=581039633
theorem Ur:gOk P0 Q0:=⟨Z2,Z2⟩
theorem is_4(hp:Pr P0.toNat):Mb P0 Q0 4:=sq_Mb (x:=2) hp Ur Z2
def Bytes8(xs:List Int):Prop:= ∀x∈xs,0<=x/\x<256
def dv(xs:List Int)(p:Nat):Int:=xs.getD (xs.length -1 -p) 0
end
section
open Go.RowKit
def ixv(c:Int):Int:=if 48<=c/\c<=57 then c -48 else if 97<=c/\c<=102 then c -87 else -1
theorem str_ix(cs:List Int)(hb:Bytes8 cs)(j:Nat)(hj:j<cs.length)(W:World):(Instr.index 9 (.string (strOfNums cs)) (iI j)).run Tryz.prog W= .ok (.int .u8 (cs.getD j 0)) W:=by
 have hx:=hb (cs[j]) (List.getElem_mem hj)
 have hs:(strOfNums cs).size=cs.length:=strOfNums_size cs
 have hd:(strOfNums cs).data.toList=cs.map fun n=>UInt8.ofNat n.toNat:=strOfNums_data cs
 have hg: ∀h,((strOfNums cs)[j]'h).toNat=(cs[j]).toNat:=fun h=>by
  show (((strOfNums cs).data[j]'_).toNat)=_
  simp only[<-Array.getElem_toList,hd,List.getElem_map]
  simp;omega
 simp[Instr.index,go_sem,Tryz.underlying9,hs,hj]
 rw[hg];simp[List.getElem?_eq_getElem hj];omega
set_option maxHeartbeats 8000000 in
theorem rP16(S:ByteArray)(n:Nat)(c d vF:Nat->Int)(w:World)(hS:S.size=n)(hn:n<=16)(h1:(1:Int)<n)(hne:S.toList.isEmpty=false)(hix:Hid (∀j,j<n-> ∀W,(Instr.index 9 (.string S) (.int .i64 j)).run Tryz.prog W= .ok (.int .u8 (c j)) W))(h0:c 0≠48)(hc:Hid (∀j,j<n->(48<=c j/\c j<=57/\d j=c j -48)\/(97<=c j/\c j<=102/\d j=c j -87)))(hv0:Hid (vF 0=0))(hvs:Hid (∀j,j<n->vF (j+1)=vF j+d j*16^(n -1 -j)))(hvb:Hid (∀j,j<=n->0<=vF j/\vF j<18446744073709551616))(hdb:Hid (∀j,j<n-> ∀k,k<n->0<=d j*16^k/\d j*16^k<18446744073709551616)):
 CC 105 #[.string S] w (.tuple #[A4 (vF n) 0 0 0,.int .i64 0]):=by
 have k0:=hix.out 0 Z1
 rw[show (Value.int .i64 ((0:Nat):Int))= .int .i64 0 from rfl] at k0
 obtain⟨c0,e0⟩:=Z3 (c 0)
 rw[e0] at k0 h0
 have hl: ¬(64:Int)<n:=Z1
 go_enter Tryz.func105,Tryz.ntmps105
 go_wp2
 go_loop [4] (fun vi=> ∃k:Nat,k<=n/\vi= .int .i64 k) (fun vi=>n -(intOf vi).toNat)
 case atStart=>exact⟨0,Z1,rfl⟩
 case round=>
  obtain⟨k,hk,rfl⟩:=hrel
  by_cases hlt:k<n
  ·have hlt':(k:Int)<n:=Z1
   have k1:=hix.out k hlt
   have hck:=hc.out k hlt
   obtain⟨x,ex⟩:=Z3 (c k)
   rw[ex] at k1 hck
   clear ex
   rcases hck with⟨a1,a2,-⟩ | ⟨a1,a2,-⟩
   ·go_wp2
    exact⟨⟨k+1,Z1,by go_num⟩,by simp[intOf];omega⟩
   ·have a3:48<=x:=Z1
    have a4: ¬x<=57:=Z1
    go_wp2
    exact⟨⟨k+1,Z1,by go_num⟩,by simp[intOf];omega⟩
  ·have hlt': ¬(k:Int)<n:=Z1
   go_wp2
   go_loopw [6,7,8,9] (fun i _ _ _ wr=> ∃k:Nat,k<=n/\i= .int .i64 k/\Bw w wr/\w.heap.size+1<wr.heap.size/\C4 wr w.heap.size 0 0 0 0/\C4 wr (w.heap.size+1) (vF k) 0 0 0) (fun i _ _ _ _=>n -(intOf i).toNat)
   case atStart=>
    have hv:=hv0.out
    refine⟨0,Z1,rfl,?_,by simp,by unfold C4;simp[go_sem],by rw[hv];unfold C4;simp[go_sem]⟩
    iterate 6 all_goals (go_grown<;>try with_reducible refine below_drewN ?_ _)
   case round=>
    obtain⟨i,hi,rfl,hB,hs,hR,hA⟩:=hrel
    by_cases hj:i<n
    ·have hlt2:(i:Int)<n:=Z1
     obtain⟨p,hp⟩:=Z3 (n -1 -i)
     have hp':(n:Int) -1 -i=p:=Z1
     have hp16:(p:Int)<16:=Z1
     have kc:=hix.out i hj
     have hci:=hc.out i hj
     have hvi:=hvs.out i hj
     have hb1:=hvb.out i hi
     have hb2:=hvb.out (i+1) Z1
     have hd:=fun k (hk:k<=p)=>hdb.out i hj k Z1
     rw[hp] at hvi
     obtain⟨y,ey⟩:=Z3 (vF (i+1))
     obtain⟨v,ev⟩:=Z3 (vF i)
     obtain⟨x,ex⟩:=Z3 (c i)
     obtain⟨z,ez⟩:=Z3 (d i)
     rw[ey,ev,ez] at hvi
     rw[ev] at hb1 hA
     rw[ey] at hb2
     rw[ex] at kc hci
     rw[ez] at hci
     simp only[ez] at hd
     have hvi:Hid _:=hvi
     have hd:Hid _:=hd
     have EY:Hid _:=ey
     have hA':=hA
     obtain⟨⟨ac0,ac1,ac2,ac3⟩,af0,af1,af2,af3⟩:=hA'
     clear ex ev ez hp ey
     generalize wr=u at *
     rcases hci with⟨a1,a2,e⟩ | ⟨a1,a2,e⟩
     case' inl=>
      have kw:IntKind.u8.wrap (x -48)=x -48:=by rw[IntKind.wrap_u8];omega
      have kv:IntKind.u64.wrap (x -48)=x -48:=by rw[IntKind.wrap_u64];omega
      have a3: ¬97<=x:=Z1
     case' inr=>
      have kw:IntKind.u8.wrap (x -48)=x -48:=by rw[IntKind.wrap_u8];omega
      have kv:IntKind.u64.wrap (x -48)=x -48:=by rw[IntKind.wrap_u64];omega
      have kx:IntKind.u8.wrap (x -97)=x -97:=by rw[IntKind.wrap_u8];omega
      have ky:IntKind.u64.wrap (x -97)=x -97:=by rw[IntKind.wrap_u64];omega
      have kz:IntKind.u64.wrap (x -97+10)=x -97+10:=by rw[IntKind.wrap_u64];omega
     all_goals
      have E:Hid _:=e
      clear e
      go_wp2
      go_loop [7,9] (fun vx vj=> ∃j:Nat,j<=p/\vj= .int .i64 j/\vx= .int .u64 (z*16^j)) (fun _ vj=>p -(intOf vj).toNat)
      case atStart=>exact⟨0,Z1,rfl,by have:=E.out;simp;omega⟩
      case round=>
       obtain⟨j,hj2,rfl,rfl⟩:=hrel
       have hq:(p:Int)%16=p:=Z1
       by_cases hj3:j<p
       ·have hj4:(j:Int)<p:=Z1
        have hm:=hd.out (j+1) Z1
        rw[Int.pow_succ,<-Int.mul_assoc] at hm
        have hw:IntKind.u64.wrap (z*16^j*16)=z*16^j*16:=by rw[IntKind.wrap_u64];omega
        go_wp2
        exact⟨⟨j+1,Z1,by go_num,by rw[Int.pow_succ,<-Int.mul_assoc]⟩,by simp[intOf];omega⟩
       ·have hj4: ¬(j:Int)<p:=Z1
        obtain rfl:j=p:=Z1
        have hq2:(j:Int)/16=0:=Z1
        have hvo:=hvi.out
        obtain⟨g,eg⟩:=Z3 (z*16^j)
        rw[eg] at hvo⊢
        have hw:IntKind.u64.wrap (v+g)=v+g:=by rw[IntKind.wrap_u64];omega
        have hvo:Hid _:=hvo
        clear eg
        go_wp2
        go_roundw
        case rel=>
         refine⟨i+1,Z1,by go_num,?_,by simpa using hs,hR.other _ (by simp<;>omega) _,?_⟩
         ·iterate 6 all_goals (go_grown<;>try with_reducible refine below_drewN ?_ _)
         ·rw[EY.out,hvo.out];exact(hA.set0 _)
        case measure=>simp[intOf];omega
    ·have hlt2: ¬(i:Int)<n:=Z1
     obtain rfl:i=n:=Z1
     obtain⟨⟨ac0,ac1,ac2,ac3⟩,af0,af1,af2,af3⟩:=hA
     obtain⟨⟨rc0,rc1,rc2,rc3⟩,rf0,rf1,rf2,rf3⟩:=hR
     generalize wr=u at *
     go_wp2
     refine bodyPost_ret (v:= .tuple #[A4 (vF i) 0 0 0,.int .i64 0]) (by simp[results,Tryz.results105,go_sem,rc0,rc1,rc2,rc3]) rfl ⟨rfl,?_⟩
     iterate 6 all_goals (go_grown<;>try with_reducible refine below_drewN ?_ _)
def vp(cs:List Int):Nat->Int
 | 0=>0
 | j+1=>vp cs j+ixv (cs.getD j 0)*16^(cs.length -1 -j)
theorem rPs(cs:List Int)(v:Int)(w:World)(hn:cs.length<=16)(h1:1<cs.length)(hb:Bytes8 cs)(h0:cs.getD 0 0≠48)(hc: ∀j,j<cs.length->(48<=cs.getD j 0/\cs.getD j 0<=57/\ixv (cs.getD j 0)=cs.getD j 0 -48)\/(97<=cs.getD j 0/\cs.getD j 0<=102/\ixv (cs.getD j 0)=cs.getD j 0 -87))(hvb: ∀j,j<cs.length+1->0<=vp cs j/\vp cs j<18446744073709551616)(hdb: ∀j,j<cs.length-> ∀k,k<cs.length->0<=ixv (cs.getD j 0)*16^k/\ixv (cs.getD j 0)*16^k<18446744073709551616)(hv:A4 (vp cs cs.length) 0 0 0=NV v):CC 105 #[.string (strOfNums cs)] w (.tuple #[NV v,.int .i64 0]):=by
 rw[<-hv]
 refine rP16 (strOfNums cs) cs.length (fun j=>cs.getD j 0) (fun j=>ixv (cs.getD j 0)) (vp cs) w (strOfNums_size cs) hn Z1 ?_ (fun j hj W=>str_ix cs hb j hj W) h0 hc rfl (fun j hj=>rfl) (fun j hj=>hvb j Z1) hdb
 rw[<-decide_eq_emptyBytes,decide_eq_false_iff_not]
 intro e
 have:=congrArg ByteArray.size e
 rw[strOfNums_size] at this
 have:cs.length=0:=this
 omega
end
end Go.Proofs.YtoffgfhilkpdpaaGreatDoor
