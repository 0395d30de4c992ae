import Derived.Test.YtbbohmgjphpfeaaGreatDoorMQ
namespace Go.Proofs.YtbbohmgjphpfeaaGreatDoor
set_option linter.unusedVariables false
set_option linter.unusedSimpArgs false
set_option maxRecDepth 100000
set_option maxHeartbeats 4000000
section
open Go.RowKit
def hoN(q x:Int)(ns:List Int):Nat->Int
 | 0=>0
 | i+1=>((hoN q x ns i*x)%q+ns.getD (ns.length -1 -i) 0)%q
theorem hoN_In{q x:Int}{ns:List Int}(hq:In q)(hq0:q≠0): ∀i,In (hoN q x ns i)
 | 0=>In_0
 | i+1=>Ze hq hq0
def dsN(q:Int)(ns:List Int)(i:Nat):Nat->Int
 | 0=>1
 | j+1=>if j=i then dsN q ns i j else (dsN q ns i j*((ns.getD i 0 -ns.getD j 0)%q))%q
theorem dsN_In{q:Int}{ns:List Int}{i:Nat}(hq:In q)(hq0:q≠0): ∀j,In (dsN q ns i j)
 | 0=>In_1
 | j+1=>by
  rw[dsN];split
  ·exact dsN_In hq hq0 j
  ·exact Ze hq hq0
theorem pTimes(q a b:Int)(w:World)(ha:In a)(hb:In b)(hq:In q)(hq0:q≠0):
 CC 108 #[NV q,NV a,NV b] w (NV ((a*b)%q)):=by
 go_enter Tryz.func108,Tryz.ntmps108
 go_upto_region 1 with fail
 obtain⟨v0,hC,HB0,K0⟩:=bx4 w (LN q) 24 (LN a) 24 (LN b) 24 L0s 24
 rw[hC]
 clear hC
 apply Rp K0 HB0 [] [(7,7,L0s,some (8,LN ((a*b)%q)))] [(0,10,_),(1,11,_),(2,12,_),(3,13,_),(4,9,_),(5,14,_),(6,15,_),(9,8,_)] [(8,7)] [] [false,false,false]
 ·exact oc (g_ld 1 uN iN)<|oc (g_ld 2 uN iN)<|oc (g_ld 0 uN iN)<|oc (g_cl U9 (fun uZ=>mMul a b q uZ ha hb hq hq0))<|oc g_mv<|oc g_ex<|oc g_ex<|oc (g_al 0 aN)<|oc (g_sn 0 iN)<|oc g_as on
 intro u1 b1_7 HB1 sz1 K1
 simp only[sQ] at K1⊢
 clear K0 HB0
 go_upto_region 2 with fail
 apply Rp K1 HB1 [.all 1 (LN ((a*b)%q))] [] [(0,16,_)] [] [] [true,false]
 ·exact oc (g_ld 1 uN iN)<|oc (g_st 0 iN) on
 intro u2 HB2 sz2 K2
 simp only[sQ] at K2⊢
 clear K1 HB1
 have c6:=(K2.cv 0).n4
 go_wp2
 refine bodyPost_ret (v:=NV ((a*b)%q)) (by simp[results,Tryz.results108,go_sem,c6]) rfl ⟨rfl,HB2⟩
theorem pMinus(q a b:Int)(w:World)(ha:In a)(hb:In b)(hq:In q)(hq0:q≠0):
 CC 137 #[NV q,NV a,NV b] w (NV ((a -b)%q)):=by
 go_enter Tryz.func137,Tryz.ntmps137
 go_upto_region 1 with fail
 obtain⟨v0,hC,HB0,K0⟩:=bx4 w (LN q) 24 (LN a) 24 (LN b) 24 L0s 24
 rw[hC]
 clear hC
 apply Rp K0 HB0 [] [(7,7,L0s,some (8,LN ((a -b)%q)))] [(0,10,_),(1,11,_),(2,12,_),(3,13,_),(4,9,_),(5,14,_),(6,15,_),(9,8,_)] [(8,7)] [] [false,false,false]
 ·exact oc (g_ld 1 uN iN)<|oc (g_ld 2 uN iN)<|oc (g_ld 0 uN iN)<|oc (g_cl U7 (fun uZ=>mSub a b q uZ ha hb hq hq0))<|oc g_mv<|oc g_ex<|oc g_ex<|oc (g_al 0 aN)<|oc (g_sn 0 iN)<|oc g_as on
 intro u1 b1_7 HB1 sz1 K1
 simp only[sQ] at K1⊢
 clear K0 HB0
 go_upto_region 2 with fail
 apply Rp K1 HB1 [.all 1 (LN ((a -b)%q))] [] [(0,16,_)] [] [] [true,false]
 ·exact oc (g_ld 1 uN iN)<|oc (g_st 0 iN) on
 intro u2 HB2 sz2 K2
 simp only[sQ] at K2⊢
 clear K1 HB1
 have c6:=(K2.cv 0).n4
 go_wp2
 refine bodyPost_ret (v:=NV ((a -b)%q)) (by simp[results,Tryz.results137,go_sem,c6]) rfl ⟨rfl,HB2⟩
theorem pValue_core(q x:Int)(sl:Option Addr)(gb go cap:Nat)(ns:List Int)(w:World)(hq:In q)(hq0:q≠0)(hx:In x)(hix:Hid (∀j,j<ns.length-> ∀W,(Instr.indexAt 27 (.slice sl ns.length cap) (.int .i64 j)).run Tryz.prog W= .ok (.pointer (some ⟨gb,go+4*j,none⟩)) W))(hg:ns.length=0\/gb<w.heap.size)(hS:Hid (SN w gb go ns))(hn:Hid (∀k,k<ns.length->In (ns.getD k 0)))(hns:ns.length<=1000):
 CC 69 #[NV q,.slice sl ns.length cap,NV x] w (NV (hoN q x ns ns.length)):=by
 go_enter Tryz.func69,Tryz.ntmps69
 go_upto_region 1 with fail
 obtain⟨v0,hC,HB0,K0⟩:=bx3 w (LN q) 24 (LN x) 24 L0s 24
 rw[hC]
 clear hC
 apply Rp K0 HB0 [] [(1,7,L0s,some (2,[.int .u64 (0),.int .u64 (0),.int .u64 (0),.int .u64 (0)]))] [(0,9,_)] [(2,1)] [] []
 ·exact oc (g_bd zN)<|oc (g_al 0 aN)<|oc (g_sn 0 iN) on
 intro u1 b1_1 HB1 sz1 K1
 simp only[sQ] at K1⊢
 clear K0 HB0
 go_upto_region 2 with fail
 apply Rn K1 HB1 [(0,10,_),(1,11,_),(2,12,_)]
 ·exact oc g_mv<|oc (g_ln Tryz.underlying27)<|oc g_mv on
 intro u2 HB2 sz2 K2
 simp only[sQ] at K2⊢
 clear K1 HB1
 go_wp2_with fail
 go_loopw [12] (fun s12 wr=> ∃(k:Nat),k<=ns.length/\s12= .int .i64 (k:Int)/\Bw w wr/\CV wr (w.heap.size) (LN q)/\w.heap.size<wr.heap.size/\CV wr (w.heap.size+1) (LN x)/\w.heap.size+1<wr.heap.size/\CV wr (w.heap.size+1+1) (L0s)/\w.heap.size+1+1<wr.heap.size/\CV wr b1_1 (LN (hoN q x ns k))/\b1_1<wr.heap.size) (fun s12 _=>ns.length -(intOf s12).toNat)
 case atStart=>exact⟨0,by omega,rfl,HB2,(K2.cv 0),(K2.lt 0),(K2.cv 1),(K2.lt 1),(K2.cv 2),(K2.lt 2),(K2.cv 3),(K2.lt 3)⟩
 case round=>
  obtain⟨k,hk,rfl,HBr,C0,l0,C1,l1,C2,l2,C3,l3⟩:=hrel
  clear HB2
  have hnK:=K2.n
  simp at hnK
  have hoK3:=K2.lo 3
  by_cases hj:k<ns.length
  ·have hl:decide ((k:Int)<(ns.length:Int))=true:=by simp;omega
   have ik:In (hoN q x ns k):=hoN_In hq hq0 k
   have hjn:ns.length -1 -k<ns.length:=by omega
   have iy:=hn.out _ hjn
   have hX:=hix.out _ hjn
   have hX:Hid _:=hX
   have hR:=hS.out.at _ hjn
   have hR:Hid _:=hR
   have hn2:Hid (hoN q x ns (k+1)=(hoN q x ns k*x%q+ns.getD (ns.length -1 -k) 0)%q):=rfl
   obtain⟨y,ey⟩: ∃y,ns.getD (ns.length -1 -k) 0=y:=⟨_,rfl⟩
   obtain⟨z,ez⟩: ∃z,hoN q x ns k=z:=⟨_,rfl⟩
   rw[ey] at iy hR hn2
   rw[ez] at ik C3 hn2
   clear ey ez
   obtain⟨j,ej⟩: ∃j,ns.length -1 -k=j:=⟨_,rfl⟩
   rw[ej] at hX hR hjn
   have hjk:(ns.length:Int) -1 -k=(j:Int):=by omega
   have EJ:Hid _:=ej
   have HJ:Hid _:=hjk
   clear ej hjk
   have K2_1:Bk w.heap.size wr [(false,w.heap.size,LN q),(false,w.heap.size+1,LN x),(true,w.heap.size+1+1,L0s),(true,b1_1,LN z)]:=⟨.c l0 C0<| .c l1 C1<| .o l2 (K2.lo 2) C2<| .o l3 (K2.lo 3) C3<|trivial,by simp<;>omega⟩
   go_upto_region 3 with fail
   apply Rn K2_1 HBr [(0,13,_)]
   ·exact oc (g_bn (fun uZ=>Zk _ _ (k:Int) (ns.length:Int) _ uZ hl)) on
   intro u3 HB3 sz3 K3
   simp only[sQ] at K3⊢
   go_upto_region 4 with fail
   apply Rn K3 HB3 [(0,14,_),(1,8,_)]
   ·exact oc g_mv<|oc g_as on
   intro u4 HB4 sz4 K4
   simp only[sQ] at K4⊢
   clear K3 HB3
   go_upto_region 5 with fail
   apply Rp K4 HB4 [.no,.no,.no,.all 7 (LN (z*x%q))] [] [(0,16,_),(1,17,_),(2,18,_),(3,19,_),(4,15,_),(5,20,_),(6,21,_)] [(7,0)] [] []
   ·exact oc (g_ld 3 uN iN)<|oc (g_ld 1 uN iN)<|oc (g_ld 0 uN iN)<|oc (g_cl U9 (fun uZ=>mMul z x q uZ ik hx hq hq0))<|oc g_mv<|oc g_ex<|oc g_ex<|oc (g_st 3 iN) on
   intro u5 HB5 sz5 K5
   simp only[sQ] at K5⊢
   clear K4 HB4
   go_upto_region 6 with fail
   apply Rd K5 HB5 [.no,.no,.no,.all 14 (LN ((z*x%q+y)%q))] [] [(0,23,_),(1,24,_),(2,25,_),(3,26,_),(4,27,_),(5,28,_),(6,29,_),(7,30,_),(8,31,_),(9,32,_),(10,33,_),(11,22,_),(12,34,_),(13,35,_)] [(14,0)] [] []
   ·exact oc (g_ld 3 uN iN)<|oc g_mv<|oc g_mv<|oc (g_ln Tryz.underlying27)<|oc (g_bn (fun uZ=>Xt _ _ (ns.length:Int) 1 _ uZ rfl (by omega) (by omega)))<|oc g_mv<|oc (g_bn (fun uZ=>Xt _ _ ((ns.length:Int) -1) (k:Int) _ uZ HJ.out (by omega) (by omega)))<|oc (g_ix hX.out)<|oc (g_lf hR.out (hg.resolve_left (by omega)) uN iN)<|oc (g_ld 0 uN iN)<|oc (g_cl ent_mod_Add (fun uZ=>mAdd (z*x%q) y q uZ (Ze hq hq0) iy hq hq0))<|oc g_mv<|oc g_ex<|oc g_ex<|oc (g_st 3 iN) on
   intro u6 HB6 sz6 K6
   simp only[sQ] at K6⊢
   clear K5 HB5
   go_upto_region 7 with fail
   apply Rp K6 HB6 [] [] [(0,36,_),(1,12,_)] [(1,0)] [(1,12)] []
   ·exact oc (g_bn (fun uZ=>Yj _ _ (k:Int) 1 ((k+1:Nat):Int) uZ (by omega) (by omega) (by omega)))<|oc g_mv on
   intro u7 HB7 sz7 K7
   simp only[sQ] at K7⊢
   clear K6 HB6
   go_wp2
   refine⟨⟨k+1,by omega,rfl,HB7,(K7.cv 0),(K7.lt 0),(K7.cv 1),(K7.lt 1),(K7.cv 2),(K7.lt 2),by rw[hn2.out];exact(K7.cv 3),(K7.lt 3)⟩,?_⟩
   simp[intOf]<;>omega
  ·have hl:decide ((k:Int)<(ns.length:Int))=false:=by simp;omega
   have hkn:k=ns.length:=by omega
   have K2_1:Bk w.heap.size wr [(false,w.heap.size,LN q),(false,w.heap.size+1,LN x),(true,w.heap.size+1+1,L0s),(true,b1_1,LN (hoN q x ns k))]:=⟨.c l0 C0<| .c l1 C1<| .o l2 (K2.lo 2) C2<| .o l3 (K2.lo 3) C3<|trivial,by simp<;>omega⟩
   go_upto_region 3 with fail
   apply Rn K2_1 HBr [(0,13,_)]
   ·exact oc (g_bn (fun uZ=>Zk _ _ (k:Int) (ns.length:Int) _ uZ hl)) on
   intro u3 HB3 sz3 K3
   simp only[sQ] at K3⊢
   go_upto_region 8 with fail
   apply Rp K3 HB3 [.no,.no,.all 1 (LN (hoN q x ns k))] [] [(0,37,_)] [] [] []
   ·exact oc (g_ld 3 uN iN)<|oc (g_st 2 iN) on
   intro u4 HB4 sz4 K4
   simp only[sQ] at K4⊢
   clear K3 HB3
   have c6:=(K4.cv 2).n4
   go_wp2
   refine bodyPost_ret (v:=NV (hoN q x ns k)) (by simp[results,Tryz.results69,go_sem,c6]) rfl ⟨by rw[hkn],HB4⟩
theorem W6:EnT 137:=fun _ _=>by kernel_rfl
theorem Yh:EnT 108:=fun _ _=>by kernel_rfl
theorem pDistance_core(q:Int)(i:Nat)(sl:Option Addr)(gb go cap:Nat)(ns:List Int)(w:World)(hq:In q)(hq0:q≠0)(hi:i<ns.length)(hix:Hid (∀j,j<ns.length-> ∀W,(Instr.indexAt 27 (.slice sl ns.length cap) (.int .i64 j)).run Tryz.prog W= .ok (.pointer (some ⟨gb,go+4*j,none⟩)) W))(hg:ns.length=0\/gb<w.heap.size)(hS:Hid (SN w gb go ns))(hn:Hid (∀k,k<ns.length->In (ns.getD k 0)))(hns:ns.length<=1000):
 CC 106 #[NV q,.int .i64 (i:Int),.slice sl ns.length cap] w (NV (dsN q ns i ns.length)):=by
 go_enter Tryz.func106,Tryz.ntmps106
 go_upto_region 1 with fail
 obtain⟨v0,hC,HB0,K0⟩:=bx2 w (LN q) 24 L0s 24
 rw[hC]
 clear hC
 apply Rp K0 HB0 [] [(1,7,L0s,some (2,LN 1))] [(0,10,_)] [(2,1)] [] []
 ·exact oc (g_cl Z5 (fun uZ=>nOf 1 uZ (by omega) (by omega)))<|oc (g_al 0 aN)<|oc (g_sn 0 iN) on
 intro u1 b1_1 HB1 sz1 K1
 simp only[sQ] at K1⊢
 clear K0 HB0
 go_upto_region 2 with fail
 apply Rn K1 HB1 [(0,11,_),(1,12,_),(2,13,_)]
 ·exact oc g_mv<|oc (g_ln Tryz.underlying27)<|oc g_mv on
 intro u2 HB2 sz2 K2
 simp only[sQ] at K2⊢
 clear K1 HB1
 go_wp2_with fail
 go_loopw [13] (fun s13 wr=> ∃(k:Nat),k<=ns.length/\s13= .int .i64 (k:Int)/\Bw w wr/\CV wr (w.heap.size) (LN q)/\w.heap.size<wr.heap.size/\CV wr (w.heap.size+1) (L0s)/\w.heap.size+1<wr.heap.size/\CV wr b1_1 (LN (dsN q ns i k))/\b1_1<wr.heap.size) (fun s13 _=>ns.length -(intOf s13).toNat)
 case atStart=>exact⟨0,by omega,rfl,HB2,(K2.cv 0),(K2.lt 0),(K2.cv 1),(K2.lt 1),(K2.cv 2),(K2.lt 2)⟩
 case round=>
  obtain⟨k,hk,rfl,HBr,C0,l0,C1,l1,C2,l2⟩:=hrel
  clear HB2
  have hnK:=K2.n
  simp at hnK
  have hoK2:=K2.lo 2
  by_cases hj:k<ns.length
  ·have hl:decide ((k:Int)<(ns.length:Int))=true:=by simp;omega
   have ik:In (dsN q ns i k):=dsN_In hq hq0 k
   have iy:=hn.out _ hj
   have hX:=hix.out _ hj
   have hX:Hid _:=hX
   have hR:=hS.out.at _ hj
   have hR:Hid _:=hR
   have hXi:=hix.out _ hi
   have hXi:Hid _:=hXi
   have hRi:=hS.out.at _ hi
   have hRi:Hid _:=hRi
   have iz:=hn.out _ hi
   have hn2:Hid (dsN q ns i (k+1)=if k=i then dsN q ns i k else (dsN q ns i k*((ns.getD i 0 -ns.getD k 0)%q))%q):=rfl
   obtain⟨y,ey⟩: ∃y,ns.getD k 0=y:=⟨_,rfl⟩
   obtain⟨x,ex⟩: ∃x,ns.getD i 0=x:=⟨_,rfl⟩
   obtain⟨z,ez⟩: ∃z,dsN q ns i k=z:=⟨_,rfl⟩
   rw[ey] at iy hR hn2
   rw[ex] at iz hRi hn2
   rw[ez] at ik C2 hn2
   clear ey ez ex
   by_cases hki:k=i
   ·have hne:((k:Int) !=(i:Int))=false:=by simp;omega
    have hn2:Hid _:=hn2.out.trans (if_pos hki)
    have HK:Hid _:=hki
    clear hki
    have K2_1:Bk w.heap.size wr [(false,w.heap.size,LN q),(true,w.heap.size+1,L0s),(true,b1_1,LN z)]:=⟨.c l0 C0<| .o l1 (K2.lo 1) C1<| .o l2 (K2.lo 2) C2<|trivial,by simp<;>omega⟩
    go_upto_region 3 with fail
    apply Rn K2_1 HBr [(0,14,_)]
    ·exact oc (g_bn (fun uZ=>Zk _ _ (k:Int) (ns.length:Int) _ uZ hl)) on
    intro u3 HB3 sz3 K3
    simp only[sQ] at K3⊢
    go_upto_region 4 with fail
    apply Rp K3 HB3 [] [(3,9,L0s,some (5,LN y))] [(0,15,_),(1,16,_),(2,17,_),(4,8,_)] [(5,3)] [] [true,true,true,false]
    ·exact oc g_mv<|oc (g_ix hX.out)<|oc (g_lf hR.out (hg.resolve_left (by omega)) uN iN)<|oc (g_al 0 aN)<|oc g_as<|oc (g_sn 0 iN) on
    intro u4 b4_3 HB4 sz4 K4
    simp only[sQ] at K4⊢
    clear K3 HB3
    go_upto_region 5 with fail
    apply Rn K4 HB4 [(0,18,_),(1,19,_),(2,20,_)]
    ·exact oc g_mv<|oc g_mv<|oc (g_bn (fun uZ=>Zy _ _ _ (k:Int) (i:Int) _ uZ hne)) on
    intro u5 HB5 sz5 K5
    simp only[sQ] at K5⊢
    clear K4 HB4
    go_upto_region 7 with fail
    apply Rp K5 HB5 [] [] [(0,31,_),(1,13,_)] [(1,0)] [(1,13)] []
    ·exact oc (g_bn (fun uZ=>Yj _ _ (k:Int) 1 ((k+1:Nat):Int) uZ (by omega) (by omega) (by omega)))<|oc g_mv on
    intro u6 HB6 sz6 K6
    simp only[sQ] at K6⊢
    clear K5 HB5
    go_wp2
    refine⟨⟨k+1,by omega,rfl,HB6,(K6.cv 0),(K6.lt 0),(K6.cv 1),(K6.lt 1),by rw[hn2.out];exact(K6.cv 2),(K6.lt 2)⟩,?_⟩
    simp[intOf]<;>omega
   ·have hne:((k:Int) !=(i:Int))=true:=by simp;omega
    have hn2:Hid _:=hn2.out.trans (if_neg hki)
    have HK:Hid _:=hki
    clear hki
    have K2_1:Bk w.heap.size wr [(false,w.heap.size,LN q),(true,w.heap.size+1,L0s),(true,b1_1,LN z)]:=⟨.c l0 C0<| .o l1 (K2.lo 1) C1<| .o l2 (K2.lo 2) C2<|trivial,by simp<;>omega⟩
    go_upto_region 3 with fail
    apply Rn K2_1 HBr [(0,14,_)]
    ·exact oc (g_bn (fun uZ=>Zk _ _ (k:Int) (ns.length:Int) _ uZ hl)) on
    intro u3 HB3 sz3 K3
    simp only[sQ] at K3⊢
    go_upto_region 4 with fail
    apply Rp K3 HB3 [] [(3,9,L0s,some (5,LN y))] [(0,15,_),(1,16,_),(2,17,_),(4,8,_)] [(5,3)] [] []
    ·exact oc g_mv<|oc (g_ix hX.out)<|oc (g_lf hR.out (hg.resolve_left (by omega)) uN iN)<|oc (g_al 0 aN)<|oc g_as<|oc (g_sn 0 iN) on
    intro u4 b4_3 HB4 sz4 K4
    simp only[sQ] at K4⊢
    clear K3 HB3
    go_upto_region 5 with fail
    apply Rn K4 HB4 [(0,18,_),(1,19,_),(2,20,_)]
    ·exact oc g_mv<|oc g_mv<|oc (g_bn (fun uZ=>Zy _ _ _ (k:Int) (i:Int) _ uZ hne)) on
    intro u5 HB5 sz5 K5
    simp only[sQ] at K5⊢
    clear K4 HB4
    go_upto_region 6 with fail
    apply Rd K5 HB5 [.no,.no,.all 10 (LN (z*((x -y)%q)%q))] [] [(0,21,_),(1,22,_),(2,23,_),(3,24,_),(4,25,_),(5,26,_),(6,27,_),(7,28,_),(8,29,_),(9,30,_)] [(10,1)] [] [true,true,true,false]
    ·exact oc (g_ld 0 uN iN)<|oc (g_ld 2 uN iN)<|oc (g_ld 0 uN iN)<|oc g_mv<|oc g_mv<|oc (g_ix hXi.out)<|oc (g_lf hRi.out (hg.resolve_left (by omega)) uN iN)<|oc (g_ld 3 uN iN)<|oc (g_cl W6 (fun uZ=>pMinus q x y uZ iz iy hq hq0))<|oc (g_cl Yh (fun uZ=>pTimes q z ((x -y)%q) uZ ik (Ze hq hq0) hq hq0))<|oc (g_st 2 iN) on
    intro u6 HB6 sz6 K6
    simp only[sQ] at K6⊢
    clear K5 HB5
    go_upto_region 7 with fail
    apply Rp K6 HB6 [] [] [(0,31,_),(1,13,_)] [(1,0)] [(1,13)] []
    ·exact oc (g_bn (fun uZ=>Yj _ _ (k:Int) 1 ((k+1:Nat):Int) uZ (by omega) (by omega) (by omega)))<|oc g_mv on
    intro u7 HB7 sz7 K7
    simp only[sQ] at K7⊢
    clear K6 HB6
    go_wp2
    refine⟨⟨k+1,by omega,rfl,HB7,(K7.cv 0),(K7.lt 0),(K7.cv 1),(K7.lt 1),by rw[hn2.out];exact(K7.cv 2),(K7.lt 2)⟩,?_⟩
    simp[intOf]<;>omega
  ·have hl:decide ((k:Int)<(ns.length:Int))=false:=by simp;omega
   have hkn:k=ns.length:=by omega
   have K2_1:Bk w.heap.size wr [(false,w.heap.size,LN q),(true,w.heap.size+1,L0s),(true,b1_1,LN (dsN q ns i k))]:=⟨.c l0 C0<| .o l1 (K2.lo 1) C1<| .o l2 (K2.lo 2) C2<|trivial,by simp<;>omega⟩
   go_upto_region 3 with fail
   apply Rn K2_1 HBr [(0,14,_)]
   ·exact oc (g_bn (fun uZ=>Zk _ _ (k:Int) (ns.length:Int) _ uZ hl)) on
   intro u3 HB3 sz3 K3
   simp only[sQ] at K3⊢
   go_upto_region 8 with fail
   apply Rp K3 HB3 [.no,.all 1 (LN (dsN q ns i k))] [] [(0,32,_)] [] [] []
   ·exact oc (g_ld 2 uN iN)<|oc (g_st 1 iN) on
   intro u4 HB4 sz4 K4
   simp only[sQ] at K4⊢
   clear K3 HB3
   have c6:=(K4.cv 1).n4
   go_wp2
   refine bodyPost_ret (v:=NV (dsN q ns i k)) (by simp[results,Tryz.results106,go_sem,c6]) rfl ⟨by rw[hkn],HB4⟩
end
section
section
section ring
variable {R:Type} [Lean.Grind.CommRing R]
def pP(t:R):List (R×R)->R
 | []=>1
 | p::l=>(t -p.1)*pP t l
def smP(f p:R->R)(t:R):List (R×R)->R
 | []=>0
 | x::l=>f x.1*x.2*(p t*pP t l)+smP f (fun z=>p z*(z -x.1)) t l
def wtP(p:R->R):List (R×R)->Prop
 | []=>True
 | x::l=>x.2*(p x.1*pP x.1 l)=1/\wtP (fun z=>p z*(z -x.1)) l
def evPR:List R->R->R
 | [],_=>0
 | c::l,x=>c+x*evPR l x
def lsP(a:R)(l:List (R×R)):List (R×R):=l.map fun x=>(x.1,x.2*(x.1 -a))
theorem pP_ls(a t:R): ∀l:List (R×R),pP t (lsP a l)=pP t l
 | []=>rfl
 | x::l=>by simp only[lsP,List.map,pP];rw[<-pP_ls a t l];rfl
theorem Ux(f:R->R)(a t:R): ∀(l:List (R×R)) (p:R->R),smP f (fun z=>(z -a)*p z) t l=(t -a)*smP f p t l
 | [],p=>by simp only[smP];grind
 | x::l,p=>by
  simp only[smP]
  have h:=Ux f a t l (fun z=>p z*(z -x.1))
  rw[show (fun z=>(z -a)*p z*(z -x.1))=fun z=>(z -a)*(p z*(z -x.1)) from funext fun z=>by grind,h]
  grind
theorem smP_ls(f:R->R)(a t:R): ∀(l:List (R×R)) (p:R->R),smP f p t (lsP a l)=smP (fun x=>f x*(x -a)) p t l
 | [],p=>rfl
 | x::l,p=>by
  have h:=smP_ls f a t l (fun z=>p z*(z -x.1))
  have h2:=pP_ls a t l
  simp only[lsP,List.map,smP] at h h2⊢
  rw[h,h2]
  grind
theorem smP_add(f g:R->R)(c t:R): ∀(l:List (R×R)) (p:R->R),smP (fun x=>c*f x+g x) p t l=c*smP f p t l+smP g p t l
 | [],p=>by simp only[smP];grind
 | x::l,p=>by
  simp only[smP]
  rw[smP_add f g c t l]
  grind
theorem wtP_ls(a:R): ∀(l:List (R×R)) (p:R->R),wtP (fun z=>(z -a)*p z) l->wtP p (lsP a l)
 | [],p,_=>trivial
 | x::l,p,⟨h1,h2⟩=>by
  refine⟨?_,wtP_ls a l _ ?_⟩
  ·have:=pP_ls a x.1 l
   simp only[lsP] at this⊢
   rw[this]
   rw[<-h1];grind
  ·rw[show (fun z=>(z -a)*(p z*(z -x.1)))=fun z=>(z -a)*p z*(z -x.1) from funext fun z=>by grind];exact h2
theorem onP: ∀(n:Nat) (l:List (R×R)) (t:R),l.length=n->l≠[]->wtP (fun _=>1) l->smP (fun _=>1) (fun _=>1) t l=1
 | 0,l,t,h,h0,_=>absurd (List.eq_nil_of_length_eq_zero h) h0
 | 1,[x],t,_,_,⟨h,_⟩=>by simp only[smP,pP] at h⊢;grind
 | n+2,x::y::r,t,hl,_,⟨h1,h2,h3⟩=>by
  have e1:(fun z:R=>1*(z -x.1)*(z -y.1))=fun z=>(z -x.1)*(1*(z -y.1)):=funext fun z=>by grind
  have e2:(fun z:R=>1*(z -x.1)*(z -y.1))=fun z=>(z -y.1)*(1*(z -x.1)):=funext fun z=>by grind
  have e3:(fun z:R=>1*(z -y.1))=fun z=>(z -y.1)*1:=funext fun z=>by grind
  have e4:(fun z:R=>1*(z -x.1))=fun z=>(z -x.1)*1:=funext fun z=>by grind
  have hl2:r.length=n:=by simpa using hl
  have ll: ∀a:R,(lsP a r).length=n:=fun a=>by simp[lsP,hl2]
  have i1:=onP (n+1) ((y.1,y.2*(y.1 -x.1))::lsP x.1 r) t (by simp[ll]) (by simp) ⟨by
   have:=pP_ls x.1 y.1 r
   simp only[this]
   rw[<-h2];grind,wtP_ls x.1 r _ (by rw[<-e1];exact h3)⟩
  have i2:=onP (n+1) ((x.1,x.2*(x.1 -y.1))::lsP y.1 r) t (by simp[ll]) (by simp) ⟨by
   have:=pP_ls y.1 x.1 r
   simp only[this]
   simp only[pP] at h1
   rw[<-h1];grind,wtP_ls y.1 r _ (by rw[<-e2];exact h3)⟩
  have m1:=smP_ls (fun _=>1) x.1 t r (fun z=>1*(z -y.1))
  have m2:=smP_ls (fun _=>1) y.1 t r (fun z=>1*(z -x.1))
  have p1:=pP_ls x.1 t r
  have p2:=pP_ls y.1 t r
  simp only[smP] at i1 i2⊢
  rw[m1,p1] at i1
  rw[m2,p2] at i2
  rw[e3,Ux] at i1
  rw[e4,Ux] at i2
  rw[e1,Ux,e3,Ux]
  simp only[pP] at h1⊢
  have k1:=smP_add (fun _=>(1:R)) (fun x'=>1*(x' -x.1)) (y.1 -x.1) t r (fun _=>1)
  have k2:smP (fun x'=>(y.1 -x.1)*1+1*(x' -x.1)) (fun _=>1) t r=smP (fun x'=>1*(x' -x.1)) (fun _=>1) t r+(y.1 -x.1)*smP (fun _=>1) (fun _=>1) t r:=by rw[k1];grind
  have k3:=smP_add (fun _=>(1:R)) (fun x'=>1*(x' -y.1)) (y.1 -x.1) t r (fun _=>1)
  rw[show (fun x':R=>(y.1 -x.1)*1+1*(x' -y.1))=fun x'=>1*(x' -x.1) from funext fun z=>by grind] at k3
  grind
theorem divP(a:R): ∀cs:List R,∃(r:R) (d:List R),d.length=cs.length -1/\ ∀x,evPR cs x=r+(x -a)*evPR d x
 | []=>⟨0,[],rfl,fun x=>by simp only[evPR];grind⟩
 | [c]=>⟨c,[],rfl,fun x=>by simp only[evPR];grind⟩
 | c::c2::cs=>by
  obtain⟨r,d,h1,h2⟩:=divP a (c2::cs)
  refine⟨c+a*r,r::d,by simp at h1⊢;omega,fun x=>?_⟩
  rw[evPR,h2 x,evPR];grind
theorem lagP: ∀(n:Nat) (l:List (R×R)) (cs:List R) (t:R),l.length=n->cs.length<=n->wtP (fun _=>1) l->smP (evPR cs) (fun _=>1) t l=evPR cs t
 | 0,l,cs,t,hl,hc,_=>by
  rw[List.eq_nil_of_length_eq_zero hl,List.eq_nil_of_length_eq_zero (Nat.le_zero.1 hc)];rfl
 | n+1,[],cs,t,hl,hc,h=>by simp at hl
 | n+1,x::l,cs,t,hl,hc,h=>by
  obtain⟨r,d,h1,h2⟩:=divP x.1 cs
  have hl2:l.length=n:=by simpa using hl
  have i:=lagP n (lsP x.1 l) d t (by simp[lsP,hl2]) (by omega) (wtP_ls x.1 l _ (by rw[show (fun z:R=>(z -x.1)*1)=fun z=>1*(z -x.1) from funext fun z=>by grind];exact h.2))
  have o:=onP (n+1) (x::l) t hl (by simp) h
  have k1:=smP_add (fun _=>(1:R)) (fun z=>evPR d z*(z -x.1)) r t (x::l) (fun _=>1)
  rw[show (fun z:R=>r*1+evPR d z*(z -x.1))=evPR cs from funext fun z=>by rw[h2 z];grind,o] at k1
  rw[k1,h2 t]
  simp only[smP]
  rw[show (fun z:R=>1*(z -x.1))=fun z=>(z -x.1)*1 from funext fun z=>by grind,Ux,<-smP_ls (evPR d) x.1 t l,i]
  grind
end ring
end
end
section
open Go.RowKit
abbrev PtE(x y:Int):List Value:=[.int .u64 (D0 x),.int .u64 (D1 x),.int .u64 (D2 x),.int .u64 (D3 x),.int .u64 (D0 y),.int .u64 (D1 y),.int .u64 (D2 y),.int .u64 (D3 y)]
abbrev PtX(x y:Int):Value:= .agg #[.int .u64 (D0 x),.int .u64 (D1 x),.int .u64 (D2 x),.int .u64 (D3 x),.int .u64 (D0 y),.int .u64 (D1 y),.int .u64 (D2 y),.int .u64 (D3 y)]
abbrev L0p:List Value:=[.int .u64 0,.int .u64 0,.int .u64 0,.int .u64 0,.int .u64 0,.int .u64 0,.int .u64 0,.int .u64 0]
abbrev BE(q:Int)(vx vd:Value):List Value:=[.int .u64 (D0 q),.int .u64 (D1 q),.int .u64 (D2 q),.int .u64 (D3 q),vx,vd]
abbrev BX(q:Int)(vx vd:Value):Value:= .agg #[.int .u64 (D0 q),.int .u64 (D1 q),.int .u64 (D2 q),.int .u64 (D3 q),vx,vd]
abbrev L0b:List Value:=[.int .u64 0,.int .u64 0,.int .u64 0,.int .u64 0,.slice none 0 0,.slice none 0 0]
theorem al_poly_Point(w:World):(Instr.alloc 102 true (.tuple #[])).run Tryz.prog w= .ok (.pointer (some ⟨w.heap.size,0,none⟩)) (w.alloc (.cells L0p.toArray 102)):=by kernel_rfl
theorem V9:(Tryz.prog.info? 102).map (·.size)=some 8:=by kernel_rfl
theorem Vs:(Tryz.prog.info? 105).map (·.size)=some 6:=by kernel_rfl
theorem fdP0(b o:Nat)(w:World):(Instr.fieldAt 102 (.pointer (some ⟨b,o,none⟩)) 0).run Tryz.prog w= .ok (.pointer (some ⟨b,o,none⟩)) w:=by go_simp
theorem fdP1(b o:Nat)(w:World):(Instr.fieldAt 102 (.pointer (some ⟨b,o,none⟩)) 1).run Tryz.prog w= .ok (.pointer (some ⟨b,o+4,none⟩)) w:=by go_simp
theorem fdB0(b:Nat)(w:World):(Instr.fieldAt 105 (.pointer (some ⟨b,0,none⟩)) 0).run Tryz.prog w= .ok (.pointer (some ⟨b,0,none⟩)) w:=by go_simp
theorem fdB1(b:Nat)(w:World):(Instr.fieldAt 105 (.pointer (some ⟨b,0,none⟩)) 1).run Tryz.prog w= .ok (.pointer (some ⟨b,4,none⟩)) w:=by go_simp
theorem fdB2(b:Nat)(w:World):(Instr.fieldAt 105 (.pointer (some ⟨b,0,none⟩)) 2).run Tryz.prog w= .ok (.pointer (some ⟨b,5,none⟩)) w:=by go_simp
theorem lSN{b c n cap:Nat}{sl:Option Addr}(w:World)(h:w.cell? ⟨b,c,none⟩=some (.slice sl n cap)):(Instr.loadAt 27 (.pointer (some ⟨b,c,none⟩))).run Tryz.prog w= .ok (.slice sl n cap) w:=by go_simp
theorem bdB(q:Int)(s1 s2:Option Addr)(n1 c1 n2 c2:Nat)(w:World):(Instr.build 105 [(0,NV q),(1,.slice s1 n1 c1),(2,.slice s2 n2 c2)].toArray).run Tryz.prog w= .ok (BX q (.slice s1 n1 c1) (.slice s2 n2 c2)) w:=by kernel_rfl
theorem ixZ(g n cap j:Nat)(h:j<n)(w:World):(Instr.indexAt 27 (.slice (some ⟨g,0,none⟩) n cap) (.int .i64 j)).run Tryz.prog w= .ok (.pointer (some ⟨g,4*j,none⟩)) w:=by
 have:=ixS g 0 n cap j h w
 rwa [Nat.zero_add] at this
theorem ixP(g o n cap j:Nat)(h:j<n)(w:World):(Instr.indexAt 73 (.slice (some ⟨g,o,none⟩) n cap) (.int .i64 j)).run Tryz.prog w= .ok (.pointer (some ⟨g,o+8*j,none⟩)) w:=by
 have hj:(j:Int)<n:=by omega
 go_simp
 all_goals first | omega | (simp[Addr.add];omega) | simp[Addr.add,Nat.mul_comm]
def rowN(vs:List Int)(k:Nat):List Int:=vs.take k++List.replicate (vs.length -k) 0
theorem rowN_0(vs:List Int):rowN vs 0=List.replicate vs.length 0:=by simp[rowN]
theorem Ui(vs:List Int):rowN vs vs.length=vs:=by simp[rowN]
theorem W9{vs:List Int}{k:Nat}(h:k<vs.length):flN (rowN vs k)=flN (vs.take k)++LN 0++flN (List.replicate (vs.length -(k+1)) 0):=by
 rw[rowN,show vs.length -k=(vs.length -(k+1))+1 by omega,List.replicate_succ,Va,flN,List.append_assoc]
theorem Wx{vs:List Int}{k:Nat}(h:k<vs.length):flN (rowN vs (k+1))=flN (vs.take k)++LN (vs.getD k 0)++flN (List.replicate (vs.length -(k+1)) 0):=by
 rw[rowN,Va,List.take_add_one,List.getElem?_eq_getElem h,Va]
 simp[flN,List.getElem?_eq_getElem h]
theorem Uh{vs:List Int}{k:Nat}(h:k<vs.length):(flN (vs.take k)).length=4*k:=by
 rw[flN_len,List.length_take];omega
theorem infoNt:(Tryz.prog.info? 24).map (fun i=>(i.zero,i.size,i.bytes))=some (some (A4 0 0 0 0),4,32):=by kernel_rfl
theorem infoPt:(Tryz.prog.info? 102).map (fun i=>(i.zero,i.size,i.bytes))=some (some (.agg #[.int .u64 0,.int .u64 0,.int .u64 0,.int .u64 0,.int .u64 0,.int .u64 0,.int .u64 0,.int .u64 0]),8,64):=by kernel_rfl
theorem flN_zero: ∀n,flN (List.replicate n 0)=List.replicate (4*n) (.int .u64 0)
 | 0=>rfl
 | n+1=>by
  rw[List.replicate_succ,flN,flN_zero n,show 4*(n+1)=4*n+1+1+1+1 by omega,List.replicate_succ,List.replicate_succ,List.replicate_succ,List.replicate_succ]
  have h0:D0 0=0:=by simp[D0]
  have h1:D1 0=0:=by simp[D1]
  have h2:D2 0=0:=by simp[D2]
  have h3:D3 0=0:=by simp[D3]
  rw[LN,h0,h1,h2,h3];rfl
theorem mkNt(n:Nat)(hn:n<=1000)(w:World):(Instr.makeSlice 27 (.int .i64 (n:Int)) (.int .i64 (n:Int))).run Tryz.prog w= .ok (.slice (some ⟨w.heap.size,0,none⟩) n n) (w.alloc (.cells (flN (List.replicate n 0)).toArray 24)):=by
 obtain⟨i,hi,hi2⟩:=Option.map_eq_some_iff.1 infoNt
 simp only[Prod.mk.injEq] at hi2
 obtain⟨hz,hs,hb⟩:=hi2
 have:=run_makeSlice (P:=Tryz.prog) w 27 24 i (A4 0 0 0 0) Tryz.underlying27 hi hz .i64 .i64 n n (by omega) (by omega) (by rw[hs];omega) (by rw[hb];omega) (by omega)
 rw[this,hs,flN_zero]
 simp only[Int.toNat_natCast]
 congr 3
 apply Array.ext'
 simp[madeCells,Value.cells,A4]
 apply List.ext_getElem
 ·simp;omega
 ·intro j h1 h2
  simp
  have:j%4<4:=Nat.mod_lt _ (by omega)
  generalize j%4=m at *
  match m,this with
  | 0,_=>rfl
  | 1,_=>rfl
  | 2,_=>rfl
  | 3,_=>rfl
def PRw(lo:Nat)(ns:List Int)(u:World)(v:Value):Prop:= ∃b,v= .slice (some ⟨b,0,none⟩) ns.length ns.length/\lo<=b/\b<u.heap.size/\CV u b (flN ns)
theorem PRw.stab{lo:Nat}{ns:List Int}{u u2:World}{x:Value}(hB:Bw u u2)(h:PRw lo ns u x):PRw lo ns u2 x:=by
 obtain⟨b,e,h1,h2,h3⟩:=h
 exact⟨b,e,h1,Nat.lt_of_lt_of_le h2 hB.size,h3.below hB h2⟩
theorem PRw.nl{lo:Nat}{ns:List Int}{u:World}{v:Value}(h:PRw lo ns u v):NL u v ns:=by
 obtain⟨b,e,h1,h2,h3⟩:=h
 exact⟨_,b,0,_,e,Nat.le_refl _,(by simp),.inr rfl,.inr h2,fun j v hj=>by rw[Nat.zero_add];exact(h3 j v hj).1⟩
def flt:List (Int×Int)->List Int
 | []=>[]
 | p::l=>p.1::p.2::flt l
theorem flt_len: ∀l,(flt l).length=2*l.length
 | []=>rfl
 | p::l=>by rw[flt,List.length_cons,List.length_cons,flt_len l,List.length_cons];omega
def PtL(u:World)(v:Value)(ps:List (Int×Int)):Prop:= ∃sl gb go cap,v= .slice sl ps.length cap/\ps.length<=cap/\(sl=none->cap=0)/\(ps=[]\/sl=some ⟨gb,go,none⟩)/\(ps.length=0\/gb<u.heap.size)/\SN u gb go (flt ps)
theorem PtL.up{w u:World}{v:Value}{ps:List (Int×Int)}(h:PtL w v ps)(hB:Bw w u):PtL u v ps:=by
 obtain⟨sl,gb,go,cap,h1,h2,h3,h4,h5,h6⟩:=h
 refine⟨sl,gb,go,cap,h1,h2,h3,h4,h5.imp id fun e=>Nat.lt_of_lt_of_le e hB.size,?_⟩
 rcases h5 with h5 | h5
 ·exact SN.empty (by rw[flt_len];omega)
 ·exact h6.below hB h5
def PRp(lo:Nat)(ps:List (Int×Int))(u:World)(v:Value):Prop:= ∃b,v= .slice (some ⟨b,0,none⟩) ps.length ps.length/\lo<=b/\b<u.heap.size/\CV u b (flN (flt ps))
theorem PRp.stab{lo:Nat}{ps:List (Int×Int)}{u u2:World}{x:Value}(hB:Bw u u2)(h:PRp lo ps u x):PRp lo ps u2 x:=by
 obtain⟨b,e,h1,h2,h3⟩:=h
 exact⟨b,e,h1,Nat.lt_of_lt_of_le h2 hB.size,h3.below hB h2⟩
theorem PRp.pl{lo:Nat}{ps:List (Int×Int)}{u:World}{v:Value}(h:PRp lo ps u v):PtL u v ps:=by
 obtain⟨b,e,h1,h2,h3⟩:=h
 exact⟨_,b,0,_,e,Nat.le_refl _,(by simp),.inr rfl,.inr h2,fun j v hj=>by rw[Nat.zero_add];exact(h3 j v hj).1⟩
theorem flt_at: ∀(ps:List (Int×Int)) (j:Nat),j<ps.length->flN (flt ps)=flN (flt (ps.take j))++PtE (ps.getD j (0,0)).1 (ps.getD j (0,0)).2++flN (flt (ps.drop (j+1)))
 | [],j,h=>by simp at h
 | p::l,0,h=>by simp[flt,flN]
 | p::l,j+1,h=>by
  have:=flt_at l j (by simpa using h)
  simp only[List.take_succ_cons,List.drop_succ_cons,List.getD_cons_succ,flt,flN,this,List.append_assoc]
theorem flt_pre{ps:List (Int×Int)}{j:Nat}(h:j<=ps.length):(flN (flt (ps.take j))).length=8*j:=by
 rw[flN_len,flt_len,List.length_take];omega
theorem mid_at{xs ys zs:List Value}{c:Nat}(h:xs.length=c): ∀j v,ys[j]?=some v->(xs++ys++zs)[c+j]?=some v:=fun j v hj=>by
 have hl:j<ys.length:=(List.getElem?_eq_some_iff.1 hj).1
 rw[List.append_assoc,List.getElem?_append_right (by omega),<-h,Nat.add_sub_cancel_left,List.getElem?_append_left hl];exact hj
theorem SN.pt{w:World}{g o:Nat}{ps:List (Int×Int)}(h:SN w g o (flt ps))(j:Nat)(hj:j<ps.length):w.rangeAt g (o+8*j) (PtE (ps.getD j (0,0)).1 (ps.getD j (0,0)).2):=fun c v hc=>by
 have:=h (8*j+c) v (by rw[flt_at ps j hj];exact mid_at (flt_pre (by omega)) c v hc)
 rwa [<-Nat.add_assoc] at this
theorem SN.ptY{w:World}{g o:Nat}{ps:List (Int×Int)}(h:SN w g o (flt ps))(j:Nat)(hj:j<ps.length):w.rangeAt g (o+8*j+4) (LN (ps.getD j (0,0)).2):=fun c v hc=>by
 have:=h.pt j hj (4+c) v (by
  match c,hc with
  | 0,hc=>exact hc
  | 1,hc=>exact hc
  | 2,hc=>exact hc
  | 3,hc=>exact hc)
 rwa [<-Nat.add_assoc] at this
end
end Go.Proofs.YtbbohmgjphpfeaaGreatDoor
