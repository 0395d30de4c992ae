import Derived.Test.YtoffgfhilkpdpaaGreatDoorXX
namespace Go.Proofs.YtoffgfhilkpdpaaGreatDoor
set_option linter.unusedVariables false
set_option linter.unusedSimpArgs false
set_option maxRecDepth 100000
set_option maxHeartbeats 4000000
open Go.RowKit
theorem zQw(w:World):(Instr.build 91 [].toArray).run Tryz.prog w= .ok (A8 0 0 0 0 0 0 0 0) w:=by kernel_rfl
theorem gtr_yu(p q:Operand)(a b:Nat)(c:Bool)(w:World)(h:decide (b<a)=c):(do eqGuard .gtr 22 p q (iU (a:Int)) (iU (b:Int));binOp .gtr 22 (iU (a:Int)) (iU (b:Int)):Sem Value).run Tryz.prog w= .ok (.bool c) w:=by
 have e:decide ((b:Int)<(a:Int))=c:=by rw[<-h];simp
 subst e;go_simp
theorem ad_u(p q:Operand)(a b:Nat)(w:World)(h:a+b<18446744073709551616):(do eqGuard .add 22 p q (iU (a:Int)) (iU (b:Int));binOp .add 22 (iU (a:Int)) (iU (b:Int)):Sem Value).run Tryz.prog w= .ok (iU ((a+b:Nat):Int)) w:=by
 have e:IntKind.u64.wrap ((a:Int)+b)=((a+b:Nat):Int):=by rw[IntKind.wrap_u64];omega
 go_simp
theorem hf_u(p q:Operand)(a:Nat)(w:World)(h:a<18446744073709551616):(do eqGuard .quo 22 p q (iU (a:Int)) (iU 2);binOp .quo 22 (iU (a:Int)) (iU 2):Sem Value).run Tryz.prog w= .ok (iU ((a/2:Nat):Int)) w:=by
 have e:Int.tdiv (a:Int) 2=((a/2:Nat):Int):=by rw[Int.tdiv_eq_ediv_of_nonneg Z1];omega
 have e2:IntKind.u64.wrap ((a:Int)/2)=(a:Int)/2:=by rw[IntKind.wrap_u64];omega
 go_simp
theorem sQd{b c:Nat}{v x:Int}(w:World)(h:w.cell? ⟨b,c,none⟩=some (iU v))(hf:w.frozen? ⟨b,c,none⟩=false):(Instr.storeAt 22 (.pointer (some ⟨b,c,none⟩)) (iU x)).run Tryz.prog w= .ok () (w.setCell ⟨b,c,none⟩ (iU x)):=by go_simp
theorem eYv0(vs:Array Value)(w:World):(callFunc 43 vs).run Tryz.prog w= .ok (.enter 43 vs) w:=by kernel_rfl
theorem eYv1(vs:Array Value)(w:World):(callFunc 42 vs).run Tryz.prog w= .ok (.enter 42 vs) w:=by kernel_rfl
theorem eYv2(vs:Array Value)(w:World):(callFunc 93 vs).run Tryz.prog w= .ok (.enter 93 vs) w:=by kernel_rfl
theorem rdiv_core(m Q:Int)(xs:List Nat)(bF:Nat->Bool)(rF:Nat->Int)(zF bt:Nat->Nat->Int)(yF:Nat->Nat->Nat)(tp:Nat->Nat)(qF:Nat->List Nat)(sb:Int->Bool)(w:World)(hm0:0<m)(hm1:m<0x10000000000000000000000000000000000000000000000000000000000000000)(hxl:xs.length=8)(heq:Hid (∀p q u,(do eqGuard .eql 24 p q (NV m) (A4 0 0 0 0);binOp .eql 24 (NV m) (A4 0 0 0 0):Sem Value).run Tryz.prog u= .ok (.bool false) u))(hCm:Hid (∀t:Int,0<=t->t<0x10000000000000000000000000000000000000000000000000000000000000000-> ∀u,CC 43 #[NV t,NV m] u (iI (cmpI t m))))(hAd:Hid (∀z:Int,0<=z->z<m-> ∀u,CC 42 #[NV z,NV z] u (.tuple #[NV (z+z),.bool (decide (0x10000000000000000000000000000000000000000000000000000000000000000<=z+z))])))(hSb:Hid (∀t:Int,∀u,CC 93 #[NV t,NV m] u (.tuple #[NV (t -m),.bool (sb t)])))(hinc:Hid (∀(z:Int) p q u,(do eqGuard .add 22 p q (iU (D0 (z+z))) (iU 1);binOp .add 22 (iU (D0 (z+z))) (iU 1):Sem Value).run Tryz.prog u= .ok (iU (D0 (z+z)+1)) u))(hLi:Hid (∀z:Int,0<=z-> ∀b:Int,b=1->[iU (D0 (z+z)+1),iU (D1 (z+z)),iU (D2 (z+z)),iU (D3 (z+z))]=LN (2*z+b)))(hbx:Hid (∀k u,(Instr.build 24 ([0].zip [iU ((xs.getD k 0:Nat):Int)]).toArray).run Tryz.prog u= .ok (NV ((xs.getD k 0:Nat):Int)) u))(hxs:Hid (∀k,xs.getD k 0<18446744073709551616))(hb0:Hid (bF 0=false))(hq0:Hid (qF 0=List.replicate 8 0))(hr0:Hid (rF 0=0))(hQl:Hid (∀j,(qF j).length=8))(hb1:Hid (∀j,j<8->bF j=false->((xs.getD (7 -j) 0:Nat):Int)<m->rF (j+1)=((xs.getD (7 -j) 0:Nat):Int)/\qF (j+1)=qF j/\bF (j+1)=decide (0<xs.getD (7 -j) 0)))(hb2:Hid (∀j,j<8->((bF j=false/\m<=((xs.getD (7 -j) 0:Nat):Int))\/bF j=true)->bF (j+1)=true))(hz0:Hid (∀j,j<8->zF j 0=rF j))(hzr:Hid (∀j,j<8-> ∀i,i<=64->0<=zF j i/\zF j i<m))(hy0:Hid (∀j,j<8->(qF j).set (7 -j) (yF j 0)=qF j))(hz64:Hid (∀j,j<8->zF j 64=rF (j+1)))(hy64:Hid (∀j,j<8->(qF j).set (7 -j) (yF j 64)=qF (j+1)))(hyb:Hid (∀j,j<8-> ∀i,i<64->yF j i+tp i<18446744073709551616))(hst:Hid (∀j,j<8-> ∀i,i<64-> ∀b:Int,b=bt j i->(2*zF j i+b<m->zF j (i+1)=2*zF j i+b/\yF j (i+1)=yF j i)/\(m<=2*zF j i+b->zF j (i+1)=2*zF j i+b -m/\yF j (i+1)=yF j i+tp i)))(han:Hid (∀j,j<8-> ∀i,i<64-> ∃(a b:Int),b=bt j i/\(b=0\/b=1)/\Hid (∀p q u,(do eqGuard .and 22 p q (iU ((xs.getD (7 -j) 0:Nat):Int)) (iU ((tp i:Nat):Int));binOp .and 22 (iU ((xs.getD (7 -j) 0:Nat):Int)) (iU ((tp i:Nat):Int)):Sem Value).run Tryz.prog u= .ok (iU a) u)/\Hid ((b=0-> ∀p q u,(do eqGuard .neq 22 p q (iU a) (iU 0);binOp .neq 22 (iU a) (iU 0):Sem Value).run Tryz.prog u= .ok (.bool false) u)/\(b=1-> ∀p q u,(do eqGuard .neq 22 p q (iU a) (iU 0);binOp .neq 22 (iU a) (iU 0):Sem Value).run Tryz.prog u= .ok (.bool true) u))))(ht0:Hid (tp 0=9223372036854775808))(ht64:Hid (tp 64=0))(htp:Hid (∀i,i<64->0<tp i/\tp i<18446744073709551616))(hts:Hid (∀i,i<64->tp (i+1)=tp i/2))(hQ8:Hid (U64 (qF 8)=LW Q)):
 CC 70 #[.agg (U64 xs).toArray,NV m] w (.tuple #[WV Q,NV (rF 8),iI 0]):=by
 go_enter Tryz.func70,Tryz.ntmps70
 go_upto_region 1 with fail
 obtain⟨v0,hC,HB0,K0⟩:=bx4 w (U64 xs) 91 (LN m) 24 Lqw 91 Lq 24
 rw[hC]
 clear hC
 go_upto_region 1 with fail
 refine Rn K0 HB0 (cG 0 14 [NV m,A4 (0) (0) (0) (0),.bool false] []) (Oc3 (g_ld 1 uQ iQ) (g_bd zQ) (g_bn (heq.out _ _))) fun u1 HB1 _ K1=>?_
 simp only[sQ] at K1⊢
 clear K0 HB0
 go_upto_region 3 with fail
 refine Rp K1 HB1 [] [(1,7,Lqw,some (2,[iU (0),iU (0),iU (0),iU (0),iU (0),iU (0),iU (0),iU (0)]))] [(0,19,A8 (0) (0) (0) (0) (0) (0) (0) (0))] [(2,1)] [] [] (Oc3 (g_bd zQw) (g_al 0 aQw) (g_sn 0 iQw)) fun u2 b2_1 HB2 _ K2=>?_
 simp only[sQ] at K2⊢
 clear K1 HB1
 go_upto_region 4 with fail
 refine Rp K2 HB2 [] [(1,8,Lq,some (2,[iU (0),iU (0),iU (0),iU (0)]))] [(0,20,A4 (0) (0) (0) (0))] [(2,1)] [] [] (Oc3 (g_bd zQ) (g_al 0 aQ) (g_sn 0 iQ)) fun u3 b3_1 HB3 _ K3=>?_
 simp only[sQ] at K3⊢
 clear K2 HB2
 go_upto_region 5 with fail
 refine Rn K3 HB3 [(0,9,(Go.Value.bool Bool.false))] (Oc1 g_as) fun u4 HB4 _ K4=>?_
 simp only[sQ] at K4⊢
 clear K3 HB3
 go_upto_region 6 with fail
 refine Rn K4 HB4 [(0,10,(Go.Value.int Go.IntKind.i64 7))] (Oc1 g_as) fun u5 HB5 _ K5=>?_
 simp only[sQ] at K5⊢
 clear K4 HB4
 go_wp2_with fail
 go_loopw [10,9] (fun s10 s9 wr=> ∃j:Nat,j<=8/\s10=iI (7 -(j:Int))/\s9= .bool (bF j)/\Bw w wr/\CV wr (w.heap.size) (U64 xs)/\w.heap.size<wr.heap.size/\CV wr (w.heap.size+1) (LN m)/\w.heap.size+1<wr.heap.size/\CV wr (w.heap.size+1+1) (Lqw)/\w.heap.size+1+1<wr.heap.size/\CV wr (w.heap.size+1+1+1) (Lq)/\w.heap.size+1+1+1<wr.heap.size/\CV wr b2_1 (U64 (qF j))/\b2_1<wr.heap.size/\CV wr b3_1 (LN (rF j))/\b3_1<wr.heap.size) (fun s10 _ _=>((intOf s10)+1).toNat)
 case atStart=>exact⟨0,Z1,rfl,by rw[hb0.out],HB5,(K5.cv 0),(K5.lt 0),(K5.cv 1),(K5.lt 1),(K5.cv 2),(K5.lt 2),(K5.cv 3),(K5.lt 3),by rw[hq0.out];exact(K5.cv 4),(K5.lt 4),by rw[hr0.out];exact(K5.cv 5),(K5.lt 5)⟩
 case round=>
  obtain⟨j,hj8,rfl,rfl,HBr,C0,lC0,C1,lC1,C2,lC2,C3,lC3,C4,lC4,C5,lC5⟩:=hrel
  clear HB5
  have hnK:=K5.n
  simp at hnK
  have hoK4:=K5.lo 4
  have hoK5:=K5.lo 5
  by_cases hj:j<8
  ·have hl:decide ((0:Int)<=7 -(j:Int))=true:=by simp;omega
   obtain⟨k,hk⟩:=Z3 (7 -j)
   have hki:(7 -(j:Int))=(k:Int):=Z1
   have hk8:k<8:=Z1
   rw[hki] at hl⊢
   have hx:=hxs.out k
   have hgx:=Y0 xs k Z1
   have hql:=hQl.out j
   have hA1:=hb1.out j hj
   have hA2:=hb2.out j hj
   have hZ0:=hz0.out j hj
   have hZr:=hzr.out j hj
   have hSt:=hst.out j hj
   have hY0:=hy0.out j hj
   have hZ64:=hz64.out j hj
   have hY64:=hy64.out j hj
   have hAn:=han.out j hj
   have hYb:=hyb.out j hj
   have hBx:=hbx.out k
   rw[hk] at hA1 hA2 hAn hY0 hY64
   obtain⟨x,ex⟩:=Z3 (xs.getD k 0)
   rw[ex] at hx hgx hA1 hA2 hAn hBx
   obtain⟨qs,eq⟩:=Z3 (qF j)
   rw[eq] at hql hY0 hY64 C4 hA1
   obtain⟨r,er⟩:=Z3 (rF j)
   rw[er] at hZ0 C5
   obtain⟨g,eg⟩:=Z3 (bF j)
   rw[eg] at hA1 hA2⊢
   have hA1:Hid _:=hA1
   have hA2:Hid _:=hA2
   have hZ0:Hid _:=hZ0
   have hZr:Hid _:=hZr
   have hSt:Hid _:=hSt
   have hY0:Hid _:=hY0
   have hZ64:Hid _:=hZ64
   have hY64:Hid _:=hY64
   have hAn:Hid _:=hAn
   have hYb:Hid _:=hYb
   have hBx:Hid _:=hBx
   clear ex eq er eg
   have K5_1:Bk w.heap.size wr [(false,w.heap.size,U64 xs),(false,w.heap.size+1,LN m),(true,w.heap.size+1+1,Lqw),(true,w.heap.size+1+1+1,Lq),(true,b2_1,U64 qs),(true,b3_1,LN r)]:=⟨.c lC0 C0<| .c lC1 C1<| .o lC2 (K5.lo 2) C2<| .o lC3 (K5.lo 3) C3<| .o lC4 (K5.lo 4) C4<| .o lC5 (K5.lo 5) C5<|trivial,by simp<;>omega⟩
   go_upto_region 7 with fail
   refine Rn K5_1 HBr [(0,21,iI (k:Int)),(1,22,.bool true)] (Oc2 g_mv (g_bn (fun uZ=>Xm _ _ (k:Int) 0 _ uZ hl))) fun u6 HB6 sz6 K6=>?_
   simp only[sQ] at K6⊢
   have hc0:(g=false/\(x:Int)<m)\/(g=false/\m<=(x:Int))\/g=true:=by cases g<;>simp<;>omega
   rcases hc0 with⟨rfl,hxm⟩ | hc1
   ·have hcm:decide (cmpI (x:Int) m<0)=true:=by unfold cmpI;simp[hxm]
    obtain⟨e1,e2,e3⟩:=hA1.out rfl hxm
    go_upto_region 9 with fail
    refine Rm K6 HB6 (cG 0 25 [.bool false,.bool true,.bool true,iI (k:Int),.pointer (some ⟨w.heap.size,k,none⟩),iU ((x:Nat):Int),NV ((x:Int)),NV m,iI (cmpI (x:Int) m),.bool true,.bool true] []) (Od8 g_mv (g_un not_f) g_mv g_mv (g_ix (fun uZ=>xbW (w.heap.size) k uZ hk8)) (g_lw 0 k l64 hgx) (g_bd hBx.out) (g_ld 1 uQ iQ)<|Oc3 (g_cl eYv0 (fun uZ=>hCm.out (x:Int) Z1 Z1 uZ)) (g_bn (fun uZ=>Za _ _ (cmpI (x:Int) m) 0 true uZ hcm)) g_pk) fun u7 HB7 sz7 K7=>?_
    simp only[sQ] at K7⊢
    clear K6 HB6
    go_upto_region 10 with fail
    refine Rp K7 HB7 [.no,.no,.no,.no,.no,.all 4 (LN ((x:Int)))] [] (cG 0 36 [iI (k:Int),.pointer (some ⟨w.heap.size,k,none⟩),iU ((x:Nat):Int),NV ((x:Int))] []) [] [] [] (Oc5 g_mv (g_ix (fun uZ=>xbW (w.heap.size) k uZ hk8)) (g_lw 0 k l64 hgx) (g_bd hBx.out) (g_st 5 iQ)) fun u8 HB8 sz8 K8=>?_
    simp only[sQ] at K8⊢
    clear K7 HB7
    go_upto_region 11 with fail
    refine Rn K8 HB8 (cG 0 40 [iI (k:Int),.pointer (some ⟨w.heap.size,k,none⟩),iU ((x:Nat):Int),.bool (decide (0<x))] [(4,9,.bool (decide (0<x)))]) (Oc5 g_mv (g_ix (fun uZ=>xbW (w.heap.size) k uZ hk8)) (g_lw 0 k l64 hgx) (g_bn (fun uZ=>gtr_yu _ _ x 0 _ uZ rfl)) g_as) fun u9 HB9 sz9 K9=>?_
    simp only[sQ] at K9⊢
    clear K8 HB8
    go_upto_region 8 with fail
    refine Rp K9 HB9 [] [] [(0,23,iI (k:Int)),(1,24,iI (7 -((j+1:Nat):Int))),(2,10,iI (7 -((j+1:Nat):Int)))] [(2,0)] [(2,10)] [] (Oc3 g_mv (g_bn (fun uZ=>Xi _ _ (k:Int) 1 (7 -((j+1:Nat):Int)) uZ Z1 Z1 Z1)) g_as) fun u10 HB10 sz10 K10=>?_
    simp only[sQ] at K10⊢
    clear K9 HB9
    go_wp2
    refine⟨⟨j+1,Z1,rfl,by rw[e3],HB10,(K10.cv 0),(K10.lt 0),(K10.cv 1),(K10.lt 1),(K10.cv 2),(K10.lt 2),(K10.cv 3),(K10.lt 3),by rw[e2];exact(K10.cv 4),(K10.lt 4),by rw[e1];exact(K10.cv 5),(K10.lt 5)⟩,?_⟩
    simp[intOf]<;>omega
   ·have e3:=hA2.out (hc1.imp id id)
    rcases hc1 with⟨rfl,hxm⟩ | rfl
    case' inl=>
     have hcm:decide (cmpI (x:Int) m<0)=false:=by unfold cmpI;rw[if_neg Z1];split<;>rfl
     go_upto_region 9 with fail
     refine Rm K6 HB6 (cG 0 25 [.bool false,.bool true,.bool true,iI (k:Int),.pointer (some ⟨w.heap.size,k,none⟩),iU ((x:Nat):Int),NV ((x:Int)),NV m,iI (cmpI (x:Int) m),.bool false,.bool false] []) (Od8 g_mv (g_un not_f) g_mv g_mv (g_ix (fun uZ=>xbW (w.heap.size) k uZ hk8)) (g_lw 0 k l64 hgx) (g_bd hBx.out) (g_ld 1 uQ iQ)<|Oc3 (g_cl eYv0 (fun uZ=>hCm.out (x:Int) Z1 Z1 uZ)) (g_bn (fun uZ=>Za _ _ (cmpI (x:Int) m) 0 false uZ hcm)) g_pk) fun u7 HB7 sz7 K7=>?_
     simp only[sQ] at K7⊢
     clear K6 HB6
    case' inr=>
     go_upto_region 9 with fail
     refine Rm K6 HB6 (cG 0 25 [.bool true,.bool false,.bool false,undef,undef,undef,undef,undef,undef,undef,(Go.Value.bool Bool.false)] []) (Od8 g_mv (g_un Xe) g_mv g_sk g_sk g_sk g_sk g_sk<|Oc3 g_sk g_sk g_pk) fun u7 HB7 sz7 K7=>?_
     simp only[sQ] at K7⊢
     clear K6 HB6
    all_goals
     go_upto_region 12 with fail
     refine Rn K7 HB7 [(0,9,(Go.Value.bool Bool.true))] (Oc1 g_as) fun u8 HB8 sz8 K8=>?_
     simp only[sQ] at K8⊢
     clear K7 HB7
     go_upto_region 13 with fail
     refine Rn K8 HB8 [(0,11,(Go.Value.int Go.IntKind.u64 9223372036854775808))] (Oc1 g_as) fun u9 HB9 sz9 K9=>?_
     simp only[sQ] at K9⊢
     clear K8 HB8
     go_wp2_with fail
     go_loopw [11] (fun s11 wx=> ∃i:Nat,i<=64/\s11=iU ((tp i:Nat):Int)/\Bw w wx/\CV wx (w.heap.size) (U64 xs)/\w.heap.size<wx.heap.size/\CV wx (w.heap.size+1) (LN m)/\w.heap.size+1<wx.heap.size/\CV wx (w.heap.size+1+1) (Lqw)/\w.heap.size+1+1<wx.heap.size/\CV wx (w.heap.size+1+1+1) (Lq)/\w.heap.size+1+1+1<wx.heap.size/\CV wx b2_1 (U64 (qs.set k (yF j i)))/\b2_1<wx.heap.size/\CV wx b3_1 (LN (zF j i))/\b3_1<wx.heap.size) (fun s11 _=>(intOf s11).toNat)
     case atStart=>exact⟨0,Z1,by rw[ht0.out];rfl,HB9,(K9.cv 0),(K9.lt 0),(K9.cv 1),(K9.lt 1),(K9.cv 2),(K9.lt 2),(K9.cv 3),(K9.lt 3),by rw[hY0.out];exact(K9.cv 4),(K9.lt 4),by rw[hZ0.out];exact(K9.cv 5),(K9.lt 5)⟩
     case round=>
      obtain⟨i,hi,rfl,HBx,X0,lX0,X1,lX1,X2,lX2,X3,lX3,X4,lX4,X5,lX5⟩:=hrel
      clear HB9
      have hnK:=K9.n
      simp at hnK
      have hoK4:=K9.lo 4
      have hoK5:=K9.lo 5
      by_cases hi2:i<64
      ·obtain⟨hti,htb⟩:=htp.out i hi2
       have htn:=hts.out i hi2
       obtain⟨z1,z2⟩:=hZr.out i hi
       obtain⟨an,bt,eb,ea1,ea2,ea3⟩:=hAn.out i hi2
       obtain⟨s1,s2⟩:=hSt.out i hi2 bt eb
       have hyb1:=hYb.out i hi2
       obtain⟨t,et⟩:=Z3 (tp i)
       rw[et] at hti htb htn ea2 s2 hyb1⊢
       obtain⟨z,ez⟩:=Z3 (zF j i)
       rw[ez] at z1 z2 s1 s2 X5
       obtain⟨y,ey⟩:=Z3 (yF j i)
       rw[ey] at s1 s2 X4 hyb1
       have hgy:=Y0 (qs.set k y) k (by rw[List.length_set];omega)
       rw[Wh _ _ _ _ Z1,if_pos rfl] at hgy
       have hlt:decide (0<t)=true:=by simpa using hti
       have s1:Hid _:=s1
       have s2:Hid _:=s2
       have htn:Hid _:=htn
       have ea2:Hid _:=ea2
       clear et ez ey eb
       have K9_2:Bk w.heap.size wr [(false,w.heap.size,U64 xs),(false,w.heap.size+1,LN m),(true,w.heap.size+1+1,Lqw),(true,w.heap.size+1+1+1,Lq),(true,b2_1,U64 (qs.set k y)),(true,b3_1,LN z)]:=⟨.c lX0 X0<| .c lX1 X1<| .o lX2 (K9.lo 2) X2<| .o lX3 (K9.lo 3) X3<| .o lX4 (K9.lo 4) X4<| .o lX5 (K9.lo 5) X5<|trivial,by simp<;>omega⟩
       go_upto_region 14 with fail
       refine Rn K9_2 HBx [(0,44,iU ((t:Nat):Int)),(1,45,.bool true)] (Oc2 g_mv (g_bn (fun uZ=>gtr_yu _ _ t 0 _ uZ hlt))) fun u10 HB10 sz10 K10=>?_
       simp only[sQ] at K10⊢
       go_upto_region 15 with fail
       refine Rp K10 HB10 [] [(6,12,Lq,some (7,LN ((z+z))))] (cG 0 47 [NV z,NV z,.tuple #[NV ((z+z)),.bool (decide (0x10000000000000000000000000000000000000000000000000000000000000000<=z+z))]] [(3,46,.tuple #[NV ((z+z)),.bool (decide (0x10000000000000000000000000000000000000000000000000000000000000000<=z+z))]),(4,50,NV ((z+z))),(5,51,.bool (decide (0x10000000000000000000000000000000000000000000000000000000000000000<=z+z))),(8,13,.bool (decide (0x10000000000000000000000000000000000000000000000000000000000000000<=z+z)))]) [(7,6)] [] [] (Oc9 (g_ld 5 uQ iQ) (g_ld 5 uQ iQ) (g_cl eYv1 (hAd.out z z1 z2)) g_mv g_ex g_ex (g_al 0 aQ) (g_sn 0 iQ) g_as) fun u11 b11_6 HB11 sz11 K11=>?_
       simp only[sQ] at K11⊢
       clear K10 HB10
       have ea1':=ea1
       rcases ea1 with hbt | hbt
       case' inl=>
        go_upto_region 16 with fail
        refine Rn K11 HB11 (cG 0 52 [iI (k:Int),.pointer (some ⟨w.heap.size,k,none⟩),iU ((x:Nat):Int),iU ((t:Nat):Int),iU an,.bool false] []) (Oc6 g_mv (g_ix (fun uZ=>xbW (w.heap.size) k uZ hk8)) (g_lw 0 k l64 hgx) g_mv (g_bn (ea2.out _ _)) (g_bn (ea3.out.1 hbt _ _))) fun u12 HB12 sz12 K12=>?_
        simp only[sQ] at K12⊢
        clear K11 HB11
        obtain⟨uY,rfl⟩:=Zr u12
        have HY:=HB12
        rw[show (z+z:Int)=2*z+bt by omega] at K12
        have KY:=K12
        clear K12 HB12
       case' inr=>
        go_upto_region 16 with fail
        refine Rn K11 HB11 (cG 0 52 [iI (k:Int),.pointer (some ⟨w.heap.size,k,none⟩),iU ((x:Nat):Int),iU ((t:Nat):Int),iU an,.bool true] []) (Oc6 g_mv (g_ix (fun uZ=>xbW (w.heap.size) k uZ hk8)) (g_lw 0 k l64 hgx) g_mv (g_bn (ea2.out _ _)) (g_bn (ea3.out.2 hbt _ _))) fun u12 HB12 sz12 K12=>?_
        simp only[sQ] at K12⊢
        clear K11 HB11
        go_upto_region 17 with fail
        refine Rp K12 HB12 [.no,.no,.no,.no,.no,.no,.all 4 ([iU (D0 (z+z)+1),iU (D1 (z+z)),iU (D2 (z+z)),iU (D3 (z+z))])] [] (cG 0 58 [.pointer (some ⟨b11_6,0,none⟩),iU (D0 (z+z)),iU (D0 (z+z)+1),.pointer (some ⟨b11_6,0,none⟩)] []) [(4,1)] [] [] (Oc5 (g_ix (fun uZ=>xbN b11_6 0 uZ Z2)) (g_lw 6 0 lQ rfl) (g_bn (hinc.out z _ _)) (g_ix (fun uZ=>xbN b11_6 0 uZ Z2)) (g_sw 6 (0) sQd rfl rfl)) fun u13 HB13 _ K13=>?_
        simp only[sQ] at K13⊢
        clear K12 HB12
        obtain⟨uY,rfl⟩:=Zr u13
        have HY:=HB13
        rw[hLi.out z z1 bt hbt] at K13
        have KY:=K13
        clear K13 HB13
       all_goals
        obtain⟨tt,ett⟩:=Z3 (2*z+bt)
        rw[ett] at KY s1 s2
        clear hbt
        go_upto_region 18 with fail
        refine Rp KY HY [.no,.no,.no,.no,.no,.all 1 (LN tt)] [] [(0,62,NV tt)] [] [] [] (Oc2 (g_ld 6 uQ iQ) (g_st 5 iQ)) fun u14 HB14 _ K14=>?_
        simp only[sQ] at K14⊢
        cases hov:(decide (0x10000000000000000000000000000000000000000000000000000000000000000<=z+z))
        ·have hov:z+z<0x10000000000000000000000000000000000000000000000000000000000000000:=by simpa using hov
         by_cases hge:m<=tt
         ·obtain⟨e4,e5⟩:=s2.out hge
          have hcm:decide (0<=cmpI tt m)=true:=by unfold cmpI;rw[if_neg Z1];split<;>rfl
          go_upto_region 19 with fail
          refine Rn K14 HB14 (cG 0 63 [.bool false,.bool false,NV tt,NV m,iI (cmpI tt m),.bool true,.bool true] []) (Oc7 g_mv g_mv (g_ld 5 uQ iQ) (g_ld 1 uQ iQ) (g_cl eYv0 (fun uZ=>hCm.out tt Z1 Z1 uZ)) (g_bn (fun uZ=>Xm _ _ (cmpI tt m) 0 true uZ hcm)) g_pk) fun u15 HB15 sz15 K15=>?_
          simp only[sQ] at K15⊢
          clear K14 HB14
          go_upto_region 20 with fail
          refine Rp K15 HB15 [.no,.no,.no,.no,.no,.all 6 (LN ((tt -m)))] [] (cG 0 71 [NV tt,NV m,.tuple #[NV ((tt -m)),.bool (sb tt)]] [(3,70,.tuple #[NV ((tt -m)),.bool (sb tt)]),(4,74,NV ((tt -m))),(5,75,.bool (sb tt))]) [(6,0)] [] [] (Oc7 (g_ld 5 uQ iQ) (g_ld 1 uQ iQ) (g_cl eYv2 (hSb.out tt)) g_mv g_ex g_ex (g_st 5 iQ)) fun u16 HB16 sz16 K16=>?_
          simp only[sQ] at K16⊢
          clear K15 HB15
          go_upto_region 21 with fail
          refine Rp K16 HB16 [.no,.no,.no,.no,.all 6 (U64 ((qs.set k y).set k (y+t)))] [] (cG 0 76 [iI (k:Int),.pointer (some ⟨b2_1,k,none⟩),iU ((y:Nat):Int),iU ((t:Nat):Int),iU ((y+t:Nat):Int),.pointer (some ⟨b2_1,k,none⟩)] []) [(6,2)] [] [] (Oc7 g_mv (g_ix (fun uZ=>xbW b2_1 k uZ hk8)) (g_lw 4 k l64 hgy) g_mv (g_bn (fun uZ=>ad_u _ _ y t uZ hyb1)) (g_ix (fun uZ=>xbW b2_1 k uZ hk8)) (g_sw 4 k s64 hgy (Ul _ _ _))) fun u17 HB17 sz17 K17=>?_
          simp only[sQ] at K17⊢
          clear K16 HB16
          go_upto_region 22 with fail
          refine Rp K17 HB17 [] [] [(0,82,iU ((t:Nat):Int)),(1,83,iU ((t/2:Nat):Int)),(2,11,iU ((t/2:Nat):Int))] [(2,0)] [(2,11)] [] (Oc3 g_mv (g_bn (fun uZ=>hf_u _ _ t uZ Z1)) g_as) fun u18 HB18 sz18 K18=>?_
          simp only[sQ] at K18⊢
          clear K17 HB17
          go_wp2
          refine⟨⟨i+1,Z1,by rw[htn.out],HB18,(K18.cv 0),(K18.lt 0),(K18.cv 1),(K18.lt 1),(K18.cv 2),(K18.lt 2),(K18.cv 3),(K18.lt 3),by rw[e5,<-set_set _ _ y];exact(K18.cv 4),(K18.lt 4),by rw[e4];exact(K18.cv 5),(K18.lt 5)⟩,?_⟩
          simp[intOf]<;>omega
         ·obtain⟨e4,e5⟩:=s1.out Z1
          have hcm:decide (0<=cmpI tt m)=false:=by unfold cmpI;rw[if_pos Z1];rfl
          go_upto_region 19 with fail
          refine Rn K14 HB14 (cG 0 63 [.bool false,.bool false,NV tt,NV m,iI (cmpI tt m),.bool false,.bool false] []) (Oc7 g_mv g_mv (g_ld 5 uQ iQ) (g_ld 1 uQ iQ) (g_cl eYv0 (fun uZ=>hCm.out tt Z1 Z1 uZ)) (g_bn (fun uZ=>Xm _ _ (cmpI tt m) 0 false uZ hcm)) g_pk) fun u15 HB15 sz15 K15=>?_
          simp only[sQ] at K15⊢
          clear K14 HB14
          go_upto_region 22 with fail
          refine Rp K15 HB15 [] [] [(0,82,iU ((t:Nat):Int)),(1,83,iU ((t/2:Nat):Int)),(2,11,iU ((t/2:Nat):Int))] [(2,0)] [(2,11)] [] (Oc3 g_mv (g_bn (fun uZ=>hf_u _ _ t uZ Z1)) g_as) fun u16 HB16 sz16 K16=>?_
          simp only[sQ] at K16⊢
          clear K15 HB15
          go_wp2
          refine⟨⟨i+1,Z1,by rw[htn.out],HB16,(K16.cv 0),(K16.lt 0),(K16.cv 1),(K16.lt 1),(K16.cv 2),(K16.lt 2),(K16.cv 3),(K16.lt 3),by rw[e5];exact(K16.cv 4),(K16.lt 4),by rw[e4];exact(K16.cv 5),(K16.lt 5)⟩,?_⟩
          simp[intOf]<;>omega
        ·have hov:0x10000000000000000000000000000000000000000000000000000000000000000<=z+z:=by simpa using hov
         obtain⟨e4,e5⟩:=s2.out Z1
         go_upto_region 19 with fail
         refine Rn K14 HB14 (cG 0 63 [.bool true,.bool true,undef,undef,undef,undef,(Go.Value.bool Bool.true)] []) (Oc7 g_mv g_mv g_sk g_sk g_sk g_sk g_pk) fun u15 HB15 sz15 K15=>?_
         simp only[sQ] at K15⊢
         clear K14 HB14
         go_upto_region 20 with fail
         refine Rp K15 HB15 [.no,.no,.no,.no,.no,.all 6 (LN ((tt -m)))] [] (cG 0 71 [NV tt,NV m,.tuple #[NV ((tt -m)),.bool (sb tt)]] [(3,70,.tuple #[NV ((tt -m)),.bool (sb tt)]),(4,74,NV ((tt -m))),(5,75,.bool (sb tt))]) [(6,0)] [] [] (Oc7 (g_ld 5 uQ iQ) (g_ld 1 uQ iQ) (g_cl eYv2 (hSb.out tt)) g_mv g_ex g_ex (g_st 5 iQ)) fun u16 HB16 sz16 K16=>?_
         simp only[sQ] at K16⊢
         clear K15 HB15
         go_upto_region 21 with fail
         refine Rp K16 HB16 [.no,.no,.no,.no,.all 6 (U64 ((qs.set k y).set k (y+t)))] [] (cG 0 76 [iI (k:Int),.pointer (some ⟨b2_1,k,none⟩),iU ((y:Nat):Int),iU ((t:Nat):Int),iU ((y+t:Nat):Int),.pointer (some ⟨b2_1,k,none⟩)] []) [(6,2)] [] [] (Oc7 g_mv (g_ix (fun uZ=>xbW b2_1 k uZ hk8)) (g_lw 4 k l64 hgy) g_mv (g_bn (fun uZ=>ad_u _ _ y t uZ hyb1)) (g_ix (fun uZ=>xbW b2_1 k uZ hk8)) (g_sw 4 k s64 hgy (Ul _ _ _))) fun u17 HB17 sz17 K17=>?_
         simp only[sQ] at K17⊢
         clear K16 HB16
         go_upto_region 22 with fail
         refine Rp K17 HB17 [] [] [(0,82,iU ((t:Nat):Int)),(1,83,iU ((t/2:Nat):Int)),(2,11,iU ((t/2:Nat):Int))] [(2,0)] [(2,11)] [] (Oc3 g_mv (g_bn (fun uZ=>hf_u _ _ t uZ Z1)) g_as) fun u18 HB18 sz18 K18=>?_
         simp only[sQ] at K18⊢
         clear K17 HB17
         go_wp2
         refine⟨⟨i+1,Z1,by rw[htn.out],HB18,(K18.cv 0),(K18.lt 0),(K18.cv 1),(K18.lt 1),(K18.cv 2),(K18.lt 2),(K18.cv 3),(K18.lt 3),by rw[e5,<-set_set _ _ y];exact(K18.cv 4),(K18.lt 4),by rw[e4];exact(K18.cv 5),(K18.lt 5)⟩,?_⟩
         simp[intOf]<;>omega
      ·obtain rfl:i=64:=Z1
       have e64:=ht64.out
       rw[e64]
       rw[hY64.out] at X4
       rw[hZ64.out] at X5
       have K9_2:Bk w.heap.size wr [(false,w.heap.size,U64 xs),(false,w.heap.size+1,LN m),(true,w.heap.size+1+1,Lqw),(true,w.heap.size+1+1+1,Lq),(true,b2_1,U64 (qF (j+1))),(true,b3_1,LN (rF (j+1)))]:=⟨.c lX0 X0<| .c lX1 X1<| .o lX2 (K9.lo 2) X2<| .o lX3 (K9.lo 3) X3<| .o lX4 (K9.lo 4) X4<| .o lX5 (K9.lo 5) X5<|trivial,by simp<;>omega⟩
       go_upto_region 14 with fail
       refine Rn K9_2 HBx [(0,44,iU ((0:Nat):Int)),(1,45,.bool false)] (Oc2 g_mv (g_bn (fun uZ=>gtr_yu _ _ 0 0 _ uZ rfl))) fun u10 HB10 sz10 K10=>?_
       simp only[sQ] at K10⊢
       go_upto_region 8 with fail
       refine Rp K10 HB10 [] [] [(0,23,iI (k:Int)),(1,24,iI (7 -((j+1:Nat):Int))),(2,10,iI (7 -((j+1:Nat):Int)))] [(2,0)] [(2,10)] [] (Oc3 g_mv (g_bn (fun uZ=>Xi _ _ (k:Int) 1 (7 -((j+1:Nat):Int)) uZ Z1 Z1 Z1)) g_as) fun u11 HB11 sz11 K11=>?_
       simp only[sQ] at K11⊢
       clear K10 HB10
       go_wp2
       refine⟨⟨j+1,Z1,rfl,by rw[e3],HB11,(K11.cv 0),(K11.lt 0),(K11.cv 1),(K11.lt 1),(K11.cv 2),(K11.lt 2),(K11.cv 3),(K11.lt 3),(K11.cv 4),(K11.lt 4),(K11.cv 5),(K11.lt 5)⟩,?_⟩
       simp[intOf]<;>omega
  ·obtain rfl:j=8:=Z1
   rw[hQ8.out] at C4
   have K5_1:Bk w.heap.size wr [(false,w.heap.size,U64 xs),(false,w.heap.size+1,LN m),(true,w.heap.size+1+1,Lqw),(true,w.heap.size+1+1+1,Lq),(true,b2_1,LW Q),(true,b3_1,LN (rF 8))]:=⟨.c lC0 C0<| .c lC1 C1<| .o lC2 (K5.lo 2) C2<| .o lC3 (K5.lo 3) C3<| .o lC4 (K5.lo 4) C4<| .o lC5 (K5.lo 5) C5<|trivial,by simp<;>omega⟩
   go_upto_region 7 with fail
   refine Rn K5_1 HBr [(0,21,iI (7 -((8:Nat):Int))),(1,22,.bool false)] (Oc2 g_mv (g_bn (fun uZ=>Xm _ _ (7 -((8:Nat):Int)) 0 false uZ Z2))) fun u6 HB6 sz6 K6=>?_
   simp only[sQ] at K6⊢
   go_upto_region 23 with fail
   refine Rd K6 HB6 [.no,.no,.all 2 (LW Q),.all 3 (LN (rF 8))] [] [(0,84,WV Q),(1,85,NV (rF 8)),(4,6,(Go.Value.int Go.IntKind.i64 0))] [] [] [] (Oc5 (g_ld 4 uQw iQw) (g_ld 5 uQ iQ) (g_st 2 iQw) (g_st 3 iQ) g_as) fun u7 HB7 sz7 K7=>?_
   simp only[sQ] at K7⊢
   clear K6 HB6
   have c4_0:=((K7.cv 2) 0 _ rfl).1
   have c4_1:=((K7.cv 2) 1 _ rfl).1
   have c4_2:=((K7.cv 2) 2 _ rfl).1
   have c4_3:=((K7.cv 2) 3 _ rfl).1
   have c4_4:=((K7.cv 2) 4 _ rfl).1
   have c4_5:=((K7.cv 2) 5 _ rfl).1
   have c4_6:=((K7.cv 2) 6 _ rfl).1
   have c4_7:=((K7.cv 2) 7 _ rfl).1
   have c5:=(K7.cv 3).n4
   go_wp2
   refine bodyPost_ret (v:= .tuple #[WV Q,NV (rF 8),iI 0]) (by simp[results,Tryz.results70,go_sem,c4_0,c4_1,c4_2,c4_3,c4_4,c4_5,c4_6,c4_7,c5]) rfl ⟨rfl,HB7⟩
end Go.Proofs.YtoffgfhilkpdpaaGreatDoor
