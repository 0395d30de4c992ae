import Derived.Test.YtmoimodkopjeeaaGreatDoorMQ
import Derived.Stop.Asserts
namespace Go.Proofs.YtmoimodkopjeeaaGreatDoor
set_option linter.unusedVariables false
set_option linter.unusedSimpArgs false
set_option maxRecDepth 100000
set_option maxHeartbeats 4000000
section
open Go.RowKit
def hoN(q x:Int)(ns:List Int):Nat->Int
 | 0=>0
 | i+1=>((hoN q x ns i*x)%q+ns.getD (ns.length -1 -i) 0)%q
theorem hoN_In{q x:Int}{ns:List Int}(hq:In q)(hq0:q≠0): ∀i,In (hoN q x ns i)
 | 0=>In_0
 | i+1=>Zi hq hq0
def dsN(q:Int)(ns:List Int)(i:Nat):Nat->Int
 | 0=>1
 | j+1=>if j=i then dsN q ns i j else (dsN q ns i j*((ns.getD i 0 -ns.getD j 0)%q))%q
theorem dsN_In{q:Int}{ns:List Int}{i:Nat}(hq:In q)(hq0:q≠0): ∀j,In (dsN q ns i j)
 | 0=>In_1
 | j+1=>by
  rw[dsN];split
  ·exact dsN_In hq hq0 j
  ·exact Zi hq hq0
theorem pTimes(q a b:Int)(w:World)(ha:In a)(hb:In b)(hq:In q)(hq0:q≠0):
 CC 108 #[NV q,NV a,NV b] w (NV ((a*b)%q)):=by
 go_enter Tryz.func108,Tryz.ntmps108
 go_upto_region 1 with fail
 obtain⟨v0,hC,HB0,K0⟩:=bx4 w (LN q) 24 (LN a) 24 (LN b) 24 L0s 24
 rw[hC]
 clear hC
 refine Rp K0 HB0 [] [(7,7,L0s,some (8,LN ((a*b)%q)))] (cG 0 10 [_,_,_,_] [(4,9,_),(5,14,_),(6,15,_),(9,8,_)]) [(8,7)] [] [false,false,false] (oc (g_ld 1 uN iN)<|oc (g_ld 2 uN iN)<|oc (g_ld 0 uN iN)<|oc (g_cl Vo (fun uZ=>mMul a b q uZ ha hb hq hq0))<|oc g_mv<|oc g_ex<|oc g_ex<|oc (g_al 0 aN)<|oc (g_sn 0 iN)<|oc g_as on) fun u1 b1_7 HB1 _ K1=>?_
 simp only[sQ] at K1⊢
 go_upto_region 2 with fail
 refine Rp K1 HB1 [.all 1 (LN ((a*b)%q))] [] [(0,16,_)] [] [] [true,false] (oc (g_ld 1 uN iN)<|oc (g_st 0 iN) on) fun u2 HB2 _ K2=>?_
 simp only[sQ] at K2⊢
 have c6:=(K2.cv 0).n4
 go_wp2
 refine bodyPost_ret (v:=NV ((a*b)%q)) (by simp[results,Tryz.results108,go_sem,c6]) rfl ⟨rfl,HB2⟩
theorem pMinus(q a b:Int)(w:World)(ha:In a)(hb:In b)(hq:In q)(hq0:q≠0):
 CC 137 #[NV q,NV a,NV b] w (NV ((a -b)%q)):=by
 go_enter Tryz.func137,Tryz.ntmps137
 go_upto_region 1 with fail
 obtain⟨v0,hC,HB0,K0⟩:=bx4 w (LN q) 24 (LN a) 24 (LN b) 24 L0s 24
 rw[hC]
 clear hC
 refine Rp K0 HB0 [] [(7,7,L0s,some (8,LN ((a -b)%q)))] (cG 0 10 [_,_,_,_] [(4,9,_),(5,14,_),(6,15,_),(9,8,_)]) [(8,7)] [] [false,false,false] (oc (g_ld 1 uN iN)<|oc (g_ld 2 uN iN)<|oc (g_ld 0 uN iN)<|oc (g_cl Vn (fun uZ=>mSub a b q uZ ha hb hq hq0))<|oc g_mv<|oc g_ex<|oc g_ex<|oc (g_al 0 aN)<|oc (g_sn 0 iN)<|oc g_as on) fun u1 b1_7 HB1 _ K1=>?_
 simp only[sQ] at K1⊢
 go_upto_region 2 with fail
 refine Rp K1 HB1 [.all 1 (LN ((a -b)%q))] [] [(0,16,_)] [] [] [true,false] (oc (g_ld 1 uN iN)<|oc (g_st 0 iN) on) fun u2 HB2 _ K2=>?_
 simp only[sQ] at K2⊢
 have c6:=(K2.cv 0).n4
 go_wp2
 refine bodyPost_ret (v:=NV ((a -b)%q)) (by simp[results,Tryz.results137,go_sem,c6]) rfl ⟨rfl,HB2⟩
theorem pValue_core(q x:Int)(sl:Option Addr)(gb go cap:Nat)(ns:List Int)(w:World)(hq:In q)(hq0:q≠0)(hx:In x)(hix:Hid (∀j,j<ns.length-> ∀W,(Instr.indexAt 27 (.slice sl ns.length cap) (iI j)).run Tryz.prog W= .ok (.pointer (some ⟨gb,go+4*j,none⟩)) W))(hg:ns.length=0\/gb<w.heap.size)(hS:Hid (SN w gb go ns))(hn:Hid (∀k,k<ns.length->In (ns.getD k 0)))(hns:ns.length<=1000):
 CC 69 #[NV q,.slice sl ns.length cap,NV x] w (NV (hoN q x ns ns.length)):=by
 go_enter Tryz.func69,Tryz.ntmps69
 go_upto_region 1 with fail
 obtain⟨v0,hC,HB0,K0⟩:=bx3 w (LN q) 24 (LN x) 24 L0s 24
 rw[hC]
 clear hC
 refine Rp K0 HB0 [] [(1,7,L0s,some (2,[iU (0),iU (0),iU (0),iU (0)]))] [(0,9,_)] [(2,1)] [] [] (oc (g_bd zN)<|oc (g_al 0 aN)<|oc (g_sn 0 iN) on) fun u1 b1_1 HB1 _ K1=>?_
 simp only[sQ] at K1⊢
 go_upto_region 2 with fail
 refine Rn K1 HB1 (cG 0 10 [_,_,_] []) (oc g_mv<|oc (g_ln Tryz.underlying27)<|oc g_mv on) fun u2 HB2 _ K2=>?_
 simp only[sQ] at K2⊢
 go_wp2_with fail
 go_loopw [12] (fun s12 wr=> ∃(k:Nat),k<=ns.length/\s12=iI (k:Int)/\Bw w wr/\CV wr (w.heap.size) (LN q)/\w.heap.size<wr.heap.size/\CV wr (w.heap.size+1) (LN x)/\w.heap.size+1<wr.heap.size/\CV wr (w.heap.size+1+1) (L0s)/\w.heap.size+1+1<wr.heap.size/\CV wr b1_1 (LN (hoN q x ns k))/\b1_1<wr.heap.size) (fun s12 _=>ns.length -(intOf s12).toNat)
 case atStart=>exact⟨0,by omega,rfl,HB2,(K2.cv 0),(K2.lt 0),(K2.cv 1),(K2.lt 1),(K2.cv 2),(K2.lt 2),(K2.cv 3),(K2.lt 3)⟩
 case round=>
  obtain⟨k,hk,rfl,HBr,C0,l0,C1,l1,C2,l2,C3,l3⟩:=hrel
  have hnK:=K2.n
  simp at hnK
  have hoK3:=K2.lo 3
  by_cases hj:k<ns.length
  ·have hl:decide ((k:Int)<(ns.length:Int))=true:=by simp;omega
   have ik:In (hoN q x ns k):=hoN_In hq hq0 k
   have hjn:ns.length -1 -k<ns.length:=by omega
   have iy:=hn.out _ hjn
   have hX:=hix.out _ hjn
   have hX:Hid _:=hX
   have hR:=hS.out.at _ hjn
   have hR:Hid _:=hR
   have hn2:Hid (hoN q x ns (k+1)=(hoN q x ns k*x%q+ns.getD (ns.length -1 -k) 0)%q):=rfl
   obtain⟨y,ey⟩: ∃y,ns.getD (ns.length -1 -k) 0=y:=⟨_,rfl⟩
   obtain⟨z,ez⟩: ∃z,hoN q x ns k=z:=⟨_,rfl⟩
   rw[ey] at iy hR hn2
   rw[ez] at ik C3 hn2
   clear ey ez
   obtain⟨j,ej⟩: ∃j,ns.length -1 -k=j:=⟨_,rfl⟩
   rw[ej] at hX hR hjn
   have hjk:(ns.length:Int) -1 -k=(j:Int):=by omega
   have EJ:Hid _:=ej
   have HJ:Hid _:=hjk
   clear ej hjk
   have K2_1:Bk w.heap.size wr [(false,w.heap.size,LN q),(false,w.heap.size+1,LN x),(true,w.heap.size+1+1,L0s),(true,b1_1,LN z)]:=⟨.c l0 C0<| .c l1 C1<| .o l2 (K2.lo 2) C2<| .o l3 (K2.lo 3) C3<|trivial,by simp<;>omega⟩
   go_upto_region 3 with fail
   refine Rn K2_1 HBr [(0,13,_)] (oc (g_bn (fun uZ=>Z6 _ _ (k:Int) (ns.length:Int) _ uZ hl)) on) fun u3 HB3 sz3 K3=>?_
   simp only[sQ] at K3⊢
   go_upto_region 4 with fail
   refine Rn K3 HB3 [(0,14,_),(1,8,_)] (oc g_mv<|oc g_as on) fun u4 HB4 sz4 K4=>?_
   simp only[sQ] at K4⊢
   go_upto_region 5 with fail
   refine Rp K4 HB4 [.no,.no,.no,.all 7 (LN (z*x%q))] [] (cG 0 16 [_,_,_,_] [(4,15,_),(5,20,_),(6,21,_)]) [(7,0)] [] [] (oc (g_ld 3 uN iN)<|oc (g_ld 1 uN iN)<|oc (g_ld 0 uN iN)<|oc (g_cl Vo (fun uZ=>mMul z x q uZ ik hx hq hq0))<|oc g_mv<|oc g_ex<|oc g_ex<|oc (g_st 3 iN) on) fun u5 HB5 _ K5=>?_
   simp only[sQ] at K5⊢
   go_upto_region 6 with fail
   refine Rd K5 HB5 [.no,.no,.no,.all 14 (LN ((z*x%q+y)%q))] [] (cG 0 23 [_,_,_,_,_,_,_,_,_,_,_] [(11,22,_),(12,34,_),(13,35,_)]) [(14,0)] [] [] (oc (g_ld 3 uN iN)<|oc g_mv<|oc g_mv<|oc (g_ln Tryz.underlying27)<|oc (g_bn (fun uZ=>X8 _ _ (ns.length:Int) 1 _ uZ rfl (by omega) (by omega)))<|oc g_mv<|oc (g_bn (fun uZ=>X8 _ _ ((ns.length:Int) -1) (k:Int) _ uZ HJ.out (by omega) (by omega)))<|oc (g_ix hX.out)<|oc (g_lf hR.out (hg.resolve_left (by omega)) uN iN)<|oc (g_ld 0 uN iN)<|oc (g_cl ent_mod_Add (fun uZ=>mAdd (z*x%q) y q uZ (Zi hq hq0) iy hq hq0))<|oc g_mv<|oc g_ex<|oc g_ex<|oc (g_st 3 iN) on) fun u6 HB6 _ K6=>?_
   simp only[sQ] at K6⊢
   go_upto_region 7 with fail
   refine Rp K6 HB6 [] [] [(0,36,_),(1,12,_)] [(1,0)] [(1,12)] [] (oc (g_bn (fun uZ=>Zm _ _ (k:Int) 1 ((k+1:Nat):Int) uZ (by omega) (by omega) (by omega)))<|oc g_mv on) fun u7 HB7 _ K7=>?_
   simp only[sQ] at K7⊢
   go_wp2
   refine⟨⟨k+1,by omega,rfl,HB7,(K7.cv 0),(K7.lt 0),(K7.cv 1),(K7.lt 1),(K7.cv 2),(K7.lt 2),by rw[hn2.out];exact(K7.cv 3),(K7.lt 3)⟩,?_⟩
   simp[intOf]<;>omega
  ·have hl:decide ((k:Int)<(ns.length:Int))=false:=by simp;omega
   have hkn:k=ns.length:=by omega
   have K2_1:Bk w.heap.size wr [(false,w.heap.size,LN q),(false,w.heap.size+1,LN x),(true,w.heap.size+1+1,L0s),(true,b1_1,LN (hoN q x ns k))]:=⟨.c l0 C0<| .c l1 C1<| .o l2 (K2.lo 2) C2<| .o l3 (K2.lo 3) C3<|trivial,by simp<;>omega⟩
   go_upto_region 3 with fail
   refine Rn K2_1 HBr [(0,13,_)] (oc (g_bn (fun uZ=>Z6 _ _ (k:Int) (ns.length:Int) _ uZ hl)) on) fun u3 HB3 sz3 K3=>?_
   simp only[sQ] at K3⊢
   go_upto_region 8 with fail
   refine Rp K3 HB3 [.no,.no,.all 1 (LN (hoN q x ns k))] [] [(0,37,_)] [] [] [] (oc (g_ld 3 uN iN)<|oc (g_st 2 iN) on) fun u4 HB4 sz4 K4=>?_
   simp only[sQ] at K4⊢
   have c6:=(K4.cv 2).n4
   go_wp2
   refine bodyPost_ret (v:=NV (hoN q x ns k)) (by simp[results,Tryz.results69,go_sem,c6]) rfl ⟨by rw[hkn],HB4⟩
theorem Xw:EnT 137:=fun _ _=>by kernel_rfl
theorem Y8:EnT 108:=fun _ _=>by kernel_rfl
theorem Va(q:Int)(i:Nat)(sl:Option Addr)(gb go cap:Nat)(ns:List Int)(w:World)(hq:In q)(hq0:q≠0)(hi:i<ns.length)(hix:Hid (∀j,j<ns.length-> ∀W,(Instr.indexAt 27 (.slice sl ns.length cap) (iI j)).run Tryz.prog W= .ok (.pointer (some ⟨gb,go+4*j,none⟩)) W))(hg:ns.length=0\/gb<w.heap.size)(hS:Hid (SN w gb go ns))(hn:Hid (∀k,k<ns.length->In (ns.getD k 0)))(hns:ns.length<=1000):
 CC 106 #[NV q,iI (i:Int),.slice sl ns.length cap] w (NV (dsN q ns i ns.length)):=by
 go_enter Tryz.func106,Tryz.ntmps106
 go_upto_region 1 with fail
 obtain⟨v0,hC,HB0,K0⟩:=bx2 w (LN q) 24 L0s 24
 rw[hC]
 clear hC
 refine Rp K0 HB0 [] [(1,7,L0s,some (2,LN 1))] [(0,10,_)] [(2,1)] [] [] (oc (g_cl Z7 (fun uZ=>nOf 1 uZ (by omega) (by omega)))<|oc (g_al 0 aN)<|oc (g_sn 0 iN) on) fun u1 b1_1 HB1 _ K1=>?_
 simp only[sQ] at K1⊢
 go_upto_region 2 with fail
 refine Rn K1 HB1 (cG 0 11 [_,_,_] []) (oc g_mv<|oc (g_ln Tryz.underlying27)<|oc g_mv on) fun u2 HB2 _ K2=>?_
 simp only[sQ] at K2⊢
 go_wp2_with fail
 go_loopw [13] (fun s13 wr=> ∃(k:Nat),k<=ns.length/\s13=iI (k:Int)/\Bw w wr/\CV wr (w.heap.size) (LN q)/\w.heap.size<wr.heap.size/\CV wr (w.heap.size+1) (L0s)/\w.heap.size+1<wr.heap.size/\CV wr b1_1 (LN (dsN q ns i k))/\b1_1<wr.heap.size) (fun s13 _=>ns.length -(intOf s13).toNat)
 case atStart=>exact⟨0,by omega,rfl,HB2,(K2.cv 0),(K2.lt 0),(K2.cv 1),(K2.lt 1),(K2.cv 2),(K2.lt 2)⟩
 case round=>
  obtain⟨k,hk,rfl,HBr,C0,l0,C1,l1,C2,l2⟩:=hrel
  have hnK:=K2.n
  simp at hnK
  have hoK2:=K2.lo 2
  by_cases hj:k<ns.length
  ·have hl:decide ((k:Int)<(ns.length:Int))=true:=by simp;omega
   have ik:In (dsN q ns i k):=dsN_In hq hq0 k
   have iy:=hn.out _ hj
   have hX:=hix.out _ hj
   have hX:Hid _:=hX
   have hR:=hS.out.at _ hj
   have hR:Hid _:=hR
   have hXi:=hix.out _ hi
   have hXi:Hid _:=hXi
   have hRi:=hS.out.at _ hi
   have hRi:Hid _:=hRi
   have iz:=hn.out _ hi
   have hn2:Hid (dsN q ns i (k+1)=if k=i then dsN q ns i k else (dsN q ns i k*((ns.getD i 0 -ns.getD k 0)%q))%q):=rfl
   obtain⟨y,ey⟩: ∃y,ns.getD k 0=y:=⟨_,rfl⟩
   obtain⟨x,ex⟩: ∃x,ns.getD i 0=x:=⟨_,rfl⟩
   obtain⟨z,ez⟩: ∃z,dsN q ns i k=z:=⟨_,rfl⟩
   rw[ey] at iy hR hn2
   rw[ex] at iz hRi hn2
   rw[ez] at ik C2 hn2
   clear ey ez ex
   by_cases hki:k=i
   ·have hne:((k:Int) !=(i:Int))=false:=by simp;omega
    have hn2:Hid _:=hn2.out.trans (if_pos hki)
    have HK:Hid _:=hki
    clear hki
    have K2_1:Bk w.heap.size wr [(false,w.heap.size,LN q),(true,w.heap.size+1,L0s),(true,b1_1,LN z)]:=⟨.c l0 C0<| .o l1 (K2.lo 1) C1<| .o l2 (K2.lo 2) C2<|trivial,by simp<;>omega⟩
    go_upto_region 3 with fail
    refine Rn K2_1 HBr [(0,14,_)] (oc (g_bn (fun uZ=>Z6 _ _ (k:Int) (ns.length:Int) _ uZ hl)) on) fun u3 HB3 sz3 K3=>?_
    simp only[sQ] at K3⊢
    go_upto_region 4 with fail
    refine Rp K3 HB3 [] [(3,9,L0s,some (5,LN y))] (cG 0 15 [_,_,_] [(4,8,_)]) [(5,3)] [] [true,true,true,false] (oc g_mv<|oc (g_ix hX.out)<|oc (g_lf hR.out (hg.resolve_left (by omega)) uN iN)<|oc (g_al 0 aN)<|oc g_as<|oc (g_sn 0 iN) on) fun u4 b4_3 HB4 sz4 K4=>?_
    simp only[sQ] at K4⊢
    go_upto_region 5 with fail
    refine Rn K4 HB4 (cG 0 18 [_,_,_] []) (oc g_mv<|oc g_mv<|oc (g_bn (fun uZ=>Zw _ _ _ (k:Int) (i:Int) _ uZ hne)) on) fun u5 HB5 sz5 K5=>?_
    simp only[sQ] at K5⊢
    go_upto_region 7 with fail
    refine Rp K5 HB5 [] [] [(0,31,_),(1,13,_)] [(1,0)] [(1,13)] [] (oc (g_bn (fun uZ=>Zm _ _ (k:Int) 1 ((k+1:Nat):Int) uZ (by omega) (by omega) (by omega)))<|oc g_mv on) fun u6 HB6 sz6 K6=>?_
    simp only[sQ] at K6⊢
    go_wp2
    refine⟨⟨k+1,by omega,rfl,HB6,(K6.cv 0),(K6.lt 0),(K6.cv 1),(K6.lt 1),by rw[hn2.out];exact(K6.cv 2),(K6.lt 2)⟩,?_⟩
    simp[intOf]<;>omega
   ·have hne:((k:Int) !=(i:Int))=true:=by simp;omega
    have hn2:Hid _:=hn2.out.trans (if_neg hki)
    have HK:Hid _:=hki
    clear hki
    have K2_1:Bk w.heap.size wr [(false,w.heap.size,LN q),(true,w.heap.size+1,L0s),(true,b1_1,LN z)]:=⟨.c l0 C0<| .o l1 (K2.lo 1) C1<| .o l2 (K2.lo 2) C2<|trivial,by simp<;>omega⟩
    go_upto_region 3 with fail
    refine Rn K2_1 HBr [(0,14,_)] (oc (g_bn (fun uZ=>Z6 _ _ (k:Int) (ns.length:Int) _ uZ hl)) on) fun u3 HB3 sz3 K3=>?_
    simp only[sQ] at K3⊢
    go_upto_region 4 with fail
    refine Rp K3 HB3 [] [(3,9,L0s,some (5,LN y))] (cG 0 15 [_,_,_] [(4,8,_)]) [(5,3)] [] [] (oc g_mv<|oc (g_ix hX.out)<|oc (g_lf hR.out (hg.resolve_left (by omega)) uN iN)<|oc (g_al 0 aN)<|oc g_as<|oc (g_sn 0 iN) on) fun u4 b4_3 HB4 sz4 K4=>?_
    simp only[sQ] at K4⊢
    go_upto_region 5 with fail
    refine Rn K4 HB4 (cG 0 18 [_,_,_] []) (oc g_mv<|oc g_mv<|oc (g_bn (fun uZ=>Zw _ _ _ (k:Int) (i:Int) _ uZ hne)) on) fun u5 HB5 sz5 K5=>?_
    simp only[sQ] at K5⊢
    go_upto_region 6 with fail
    refine Rd K5 HB5 [.no,.no,.all 10 (LN (z*((x -y)%q)%q))] [] (cG 0 21 [_,_,_,_,_,_,_,_,_,_] []) [(10,1)] [] [true,true,true,false] (oc (g_ld 0 uN iN)<|oc (g_ld 2 uN iN)<|oc (g_ld 0 uN iN)<|oc g_mv<|oc g_mv<|oc (g_ix hXi.out)<|oc (g_lf hRi.out (hg.resolve_left (by omega)) uN iN)<|oc (g_ld 3 uN iN)<|oc (g_cl Xw (fun uZ=>pMinus q x y uZ iz iy hq hq0))<|oc (g_cl Y8 (fun uZ=>pTimes q z ((x -y)%q) uZ ik (Zi hq hq0) hq hq0))<|oc (g_st 2 iN) on) fun u6 HB6 sz6 K6=>?_
    simp only[sQ] at K6⊢
    go_upto_region 7 with fail
    refine Rp K6 HB6 [] [] [(0,31,_),(1,13,_)] [(1,0)] [(1,13)] [] (oc (g_bn (fun uZ=>Zm _ _ (k:Int) 1 ((k+1:Nat):Int) uZ (by omega) (by omega) (by omega)))<|oc g_mv on) fun u7 HB7 _ K7=>?_
    simp only[sQ] at K7⊢
    go_wp2
    refine⟨⟨k+1,by omega,rfl,HB7,(K7.cv 0),(K7.lt 0),(K7.cv 1),(K7.lt 1),by rw[hn2.out];exact(K7.cv 2),(K7.lt 2)⟩,?_⟩
    simp[intOf]<;>omega
  ·have hl:decide ((k:Int)<(ns.length:Int))=false:=by simp;omega
   have hkn:k=ns.length:=by omega
   have K2_1:Bk w.heap.size wr [(false,w.heap.size,LN q),(true,w.heap.size+1,L0s),(true,b1_1,LN (dsN q ns i k))]:=⟨.c l0 C0<| .o l1 (K2.lo 1) C1<| .o l2 (K2.lo 2) C2<|trivial,by simp<;>omega⟩
   go_upto_region 3 with fail
   refine Rn K2_1 HBr [(0,14,_)] (oc (g_bn (fun uZ=>Z6 _ _ (k:Int) (ns.length:Int) _ uZ hl)) on) fun u3 HB3 sz3 K3=>?_
   simp only[sQ] at K3⊢
   go_upto_region 8 with fail
   refine Rp K3 HB3 [.no,.all 1 (LN (dsN q ns i k))] [] [(0,32,_)] [] [] [] (oc (g_ld 2 uN iN)<|oc (g_st 1 iN) on) fun u4 HB4 sz4 K4=>?_
   simp only[sQ] at K4⊢
   have c6:=(K4.cv 1).n4
   go_wp2
   refine bodyPost_ret (v:=NV (dsN q ns i k)) (by simp[results,Tryz.results106,go_sem,c6]) rfl ⟨by rw[hkn],HB4⟩
end
section
section
section ring
variable {R:Type} [Lean.Grind.CommRing R]
def pP(t:R):List (R×R)->R
 | []=>1
 | p::l=>(t -p.1)*pP t l
def evPR:List R->R->R
 | [],_=>0
 | c::l,x=>c+x*evPR l x
end ring
end
end
section
open Go.RowKit
abbrev PtE(x y:Int):List Value:=[iU (D0 x),iU (D1 x),iU (D2 x),iU (D3 x),iU (D0 y),iU (D1 y),iU (D2 y),iU (D3 y)]
abbrev PtX(x y:Int):Value:= .agg #[iU (D0 x),iU (D1 x),iU (D2 x),iU (D3 x),iU (D0 y),iU (D1 y),iU (D2 y),iU (D3 y)]
abbrev L0p:List Value:=[iU 0,iU 0,iU 0,iU 0,iU 0,iU 0,iU 0,iU 0]
abbrev BE(q:Int)(vx vd:Value):List Value:=[iU (D0 q),iU (D1 q),iU (D2 q),iU (D3 q),vx,vd]
abbrev BX(q:Int)(vx vd:Value):Value:= .agg #[iU (D0 q),iU (D1 q),iU (D2 q),iU (D3 q),vx,vd]
abbrev L0b:List Value:=[iU 0,iU 0,iU 0,iU 0,.slice none 0 0,.slice none 0 0]
theorem al_poly_Point(w:World):(Instr.alloc 102 true (.tuple #[])).run Tryz.prog w= .ok (.pointer (some ⟨w.heap.size,0,none⟩)) (w.alloc (.cells L0p.toArray 102)):=by kernel_rfl
theorem Wu:(Tryz.prog.info? 102).map (·.size)=some 8:=by kernel_rfl
theorem al_poly_base(w:World):(Instr.alloc 105 true (.tuple #[])).run Tryz.prog w= .ok (.pointer (some ⟨w.heap.size,0,none⟩)) (w.alloc (.cells L0b.toArray 105)):=by kernel_rfl
theorem Yw:(Tryz.prog.info? 105).map (·.size)=some 6:=by kernel_rfl
theorem fdP0(b o:Nat)(w:World):(Instr.fieldAt 102 (.pointer (some ⟨b,o,none⟩)) 0).run Tryz.prog w= .ok (.pointer (some ⟨b,o,none⟩)) w:=by go_simp
theorem fdP1(b o:Nat)(w:World):(Instr.fieldAt 102 (.pointer (some ⟨b,o,none⟩)) 1).run Tryz.prog w= .ok (.pointer (some ⟨b,o+4,none⟩)) w:=by go_simp
theorem fdB0(b:Nat)(w:World):(Instr.fieldAt 105 (.pointer (some ⟨b,0,none⟩)) 0).run Tryz.prog w= .ok (.pointer (some ⟨b,0,none⟩)) w:=by go_simp
theorem fdB1(b:Nat)(w:World):(Instr.fieldAt 105 (.pointer (some ⟨b,0,none⟩)) 1).run Tryz.prog w= .ok (.pointer (some ⟨b,4,none⟩)) w:=by go_simp
theorem fdB2(b:Nat)(w:World):(Instr.fieldAt 105 (.pointer (some ⟨b,0,none⟩)) 2).run Tryz.prog w= .ok (.pointer (some ⟨b,5,none⟩)) w:=by go_simp
theorem lSN{b c n cap:Nat}{sl:Option Addr}(w:World)(h:w.cell? ⟨b,c,none⟩=some (.slice sl n cap)):(Instr.loadAt 27 (.pointer (some ⟨b,c,none⟩))).run Tryz.prog w= .ok (.slice sl n cap) w:=by go_simp
theorem bdB(q:Int)(s1 s2:Option Addr)(n1 c1 n2 c2:Nat)(w:World):(Instr.build 105 [(0,NV q),(1,.slice s1 n1 c1),(2,.slice s2 n2 c2)].toArray).run Tryz.prog w= .ok (BX q (.slice s1 n1 c1) (.slice s2 n2 c2)) w:=by kernel_rfl
theorem ixZ(g n cap j:Nat)(h:j<n)(w:World):(Instr.indexAt 27 (.slice (some ⟨g,0,none⟩) n cap) (iI j)).run Tryz.prog w= .ok (.pointer (some ⟨g,4*j,none⟩)) w:=by
 have:=ixS g 0 n cap j h w
 rwa [Nat.zero_add] at this
theorem ixP(g o n cap j:Nat)(h:j<n)(w:World):(Instr.indexAt 73 (.slice (some ⟨g,o,none⟩) n cap) (iI j)).run Tryz.prog w= .ok (.pointer (some ⟨g,o+8*j,none⟩)) w:=by
 have hj:(j:Int)<n:=by omega
 go_simp
 all_goals first | omega | (simp[Addr.add];omega) | simp[Addr.add,Nat.mul_comm]
def rowN(vs:List Int)(k:Nat):List Int:=vs.take k++List.replicate (vs.length -k) 0
theorem rowN_0(vs:List Int):rowN vs 0=List.replicate vs.length 0:=by simp[rowN]
theorem Vw(vs:List Int):rowN vs vs.length=vs:=by simp[rowN]
theorem Xd{vs:List Int}{k:Nat}(h:k<vs.length):flN (rowN vs k)=flN (vs.take k)++LN 0++flN (List.replicate (vs.length -(k+1)) 0):=by
 rw[rowN,show vs.length -k=(vs.length -(k+1))+1 by omega,List.replicate_succ,Wc,flN,List.append_assoc]
theorem Xy{vs:List Int}{k:Nat}(h:k<vs.length):flN (rowN vs (k+1))=flN (vs.take k)++LN (vs.getD k 0)++flN (List.replicate (vs.length -(k+1)) 0):=by
 rw[rowN,Wc,List.take_add_one,List.getElem?_eq_getElem h,Wc]
 simp[flN,List.getElem?_eq_getElem h]
theorem V4{vs:List Int}{k:Nat}(h:k<vs.length):(flN (vs.take k)).length=4*k:=by
 rw[Wb,List.length_take];omega
theorem infoNt:(Tryz.prog.info? 24).map (fun i=>(i.zero,i.size,i.bytes))=some (some (A4 0 0 0 0),4,32):=by kernel_rfl
theorem infoPt:(Tryz.prog.info? 102).map (fun i=>(i.zero,i.size,i.bytes))=some (some (.agg #[iU 0,iU 0,iU 0,iU 0,iU 0,iU 0,iU 0,iU 0]),8,64):=by kernel_rfl
theorem flN_zero: ∀n,flN (List.replicate n 0)=List.replicate (4*n) (iU 0)
 | 0=>rfl
 | n+1=>by
  rw[List.replicate_succ,flN,flN_zero n,show 4*(n+1)=4*n+1+1+1+1 by omega,List.replicate_succ,List.replicate_succ,List.replicate_succ,List.replicate_succ]
  have h0:D0 0=0:=by simp[D0]
  have h1:D1 0=0:=by simp[D1]
  have h2:D2 0=0:=by simp[D2]
  have h3:D3 0=0:=by simp[D3]
  rw[LN,h0,h1,h2,h3];rfl
theorem mkNt(n:Nat)(hn:n<=1000)(w:World):(Instr.makeSlice 27 (iI (n:Int)) (iI (n:Int))).run Tryz.prog w= .ok (.slice (some ⟨w.heap.size,0,none⟩) n n) (w.alloc (.cells (flN (List.replicate n 0)).toArray 24)):=by
 obtain⟨i,hi,hi2⟩:=Option.map_eq_some_iff.1 infoNt
 simp only[Prod.mk.injEq] at hi2
 obtain⟨hz,hs,hb⟩:=hi2
 have:=run_makeSlice (P:=Tryz.prog) w 27 24 i (A4 0 0 0 0) Tryz.underlying27 hi hz .i64 .i64 n n (by omega) (by omega) (by rw[hs];omega) (by rw[hb];omega) (by omega)
 rw[this,hs,flN_zero]
 simp only[Int.toNat_natCast]
 congr 3
 apply Array.ext'
 simp[madeCells,Value.cells,A4]
 apply List.ext_getElem
 ·simp;omega
 ·intro j h1 h2
  simp
  have:j%4<4:=Nat.mod_lt _ (by omega)
  generalize j%4=m at *
  match m,this with
  | 0,_=>rfl
  | 1,_=>rfl
  | 2,_=>rfl
  | 3,_=>rfl
def PRw(lo:Nat)(ns:List Int)(u:World)(v:Value):Prop:= ∃b,v= .slice (some ⟨b,0,none⟩) ns.length ns.length/\lo<=b/\b<u.heap.size/\CV u b (flN ns)
theorem PRw.stab{lo:Nat}{ns:List Int}{u u2:World}{x:Value}(hB:Bw u u2)(h:PRw lo ns u x):PRw lo ns u2 x:=by
 obtain⟨b,e,h1,h2,h3⟩:=h
 exact⟨b,e,h1,Nat.lt_of_lt_of_le h2 hB.size,h3.below hB h2⟩
theorem PRw.nl{lo:Nat}{ns:List Int}{u:World}{v:Value}(h:PRw lo ns u v):NL u v ns:=by
 obtain⟨b,e,h1,h2,h3⟩:=h
 exact⟨_,b,0,_,e,Nat.le_refl _,(by simp),.inr rfl,.inr h2,fun j v hj=>by rw[Nat.zero_add];exact(h3 j v hj).1⟩
def flt:List (Int×Int)->List Int
 | []=>[]
 | p::l=>p.1::p.2::flt l
theorem Vl: ∀l,(flt l).length=2*l.length
 | []=>rfl
 | p::l=>by rw[flt,List.length_cons,List.length_cons,Vl l,List.length_cons];omega
def PtL(u:World)(v:Value)(ps:List (Int×Int)):Prop:= ∃sl gb go cap,v= .slice sl ps.length cap/\ps.length<=cap/\(sl=none->cap=0)/\(ps=[]\/sl=some ⟨gb,go,none⟩)/\(ps.length=0\/gb<u.heap.size)/\SN u gb go (flt ps)
theorem PtL.up{w u:World}{v:Value}{ps:List (Int×Int)}(h:PtL w v ps)(hB:Bw w u):PtL u v ps:=by
 obtain⟨sl,gb,go,cap,h1,h2,h3,h4,h5,h6⟩:=h
 refine⟨sl,gb,go,cap,h1,h2,h3,h4,h5.imp id fun e=>Nat.lt_of_lt_of_le e hB.size,?_⟩
 rcases h5 with h5 | h5
 ·exact SN.empty (by rw[Vl];omega)
 ·exact h6.below hB h5
def PRp(lo:Nat)(ps:List (Int×Int))(u:World)(v:Value):Prop:= ∃b,v= .slice (some ⟨b,0,none⟩) ps.length ps.length/\lo<=b/\b<u.heap.size/\CV u b (flN (flt ps))
theorem PRp.stab{lo:Nat}{ps:List (Int×Int)}{u u2:World}{x:Value}(hB:Bw u u2)(h:PRp lo ps u x):PRp lo ps u2 x:=by
 obtain⟨b,e,h1,h2,h3⟩:=h
 exact⟨b,e,h1,Nat.lt_of_lt_of_le h2 hB.size,h3.below hB h2⟩
theorem PRp.pl{lo:Nat}{ps:List (Int×Int)}{u:World}{v:Value}(h:PRp lo ps u v):PtL u v ps:=by
 obtain⟨b,e,h1,h2,h3⟩:=h
 exact⟨_,b,0,_,e,Nat.le_refl _,(by simp),.inr rfl,.inr h2,fun j v hj=>by rw[Nat.zero_add];exact(h3 j v hj).1⟩
theorem flt_at: ∀(ps:List (Int×Int)) (j:Nat),j<ps.length->flN (flt ps)=flN (flt (ps.take j))++PtE (ps.getD j (0,0)).1 (ps.getD j (0,0)).2++flN (flt (ps.drop (j+1)))
 | [],j,h=>by simp at h
 | p::l,0,h=>by simp[flt,flN]
 | p::l,j+1,h=>by
  have:=flt_at l j (by simpa using h)
  simp only[List.take_succ_cons,List.drop_succ_cons,List.getD_cons_succ,flt,flN,this,List.append_assoc]
theorem flt_pre{ps:List (Int×Int)}{j:Nat}(h:j<=ps.length):(flN (flt (ps.take j))).length=8*j:=by
 rw[Wb,Vl,List.length_take];omega
theorem mid_at{xs ys zs:List Value}{c:Nat}(h:xs.length=c): ∀j v,ys[j]?=some v->(xs++ys++zs)[c+j]?=some v:=fun j v hj=>by
 have hl:j<ys.length:=(List.getElem?_eq_some_iff.1 hj).1
 rw[List.append_assoc,List.getElem?_append_right (by omega),<-h,Nat.add_sub_cancel_left,List.getElem?_append_left hl];exact hj
theorem SN.pt{w:World}{g o:Nat}{ps:List (Int×Int)}(h:SN w g o (flt ps))(j:Nat)(hj:j<ps.length):w.rangeAt g (o+8*j) (PtE (ps.getD j (0,0)).1 (ps.getD j (0,0)).2):=fun c v hc=>by
 have:=h (8*j+c) v (by rw[flt_at ps j hj];exact mid_at (flt_pre (by omega)) c v hc)
 rwa [<-Nat.add_assoc] at this
theorem SN.ptY{w:World}{g o:Nat}{ps:List (Int×Int)}(h:SN w g o (flt ps))(j:Nat)(hj:j<ps.length):w.rangeAt g (o+8*j+4) (LN (ps.getD j (0,0)).2):=fun c v hc=>by
 have:=h.pt j hj (4+c) v (by
  match c,hc with
  | 0,hc=>exact hc
  | 1,hc=>exact hc
  | 2,hc=>exact hc
  | 3,hc=>exact hc)
 rwa [<-Nat.add_assoc] at this
theorem allX_core(sl:Option Addr)(gb go cap:Nat)(ps:List (Int×Int))(xs:List Int)(w:World)(hxl:Hid (xs.length=ps.length))(hxs:Hid (∀k,k<ps.length->xs.getD k 0=(ps.getD k (0,0)).1))(hix:Hid (∀j,j<ps.length-> ∀W,(Instr.indexAt 73 (.slice sl ps.length cap) (iI j)).run Tryz.prog W= .ok (.pointer (some ⟨gb,go+8*j,none⟩)) W))(hg:ps.length=0\/gb<w.heap.size)(hS:Hid (SN w gb go (flt ps)))(hns:ps.length<=1000):
 Calls Tryz.prog 78 #[.slice sl ps.length cap] w fun e' w'=> ∃y,e'= .returned y/\PRw w.heap.size xs w' y/\Bw w w':=by
 have hmk:=mkNt ps.length hns
 go_enter Tryz.func78,Tryz.ntmps78
 go_wp2_with fail
 go_loopw [11] (fun s11 wr=> ∃(k:Nat),k<=ps.length/\s11=iI (k:Int)/\Bw w wr/\CV wr (w.heap.size) (flN (rowN xs k))/\w.heap.size<wr.heap.size) (fun s11 _=>ps.length -(intOf s11).toNat)
 case atStart=>exact⟨0,by omega,rfl,Z1 (Z5 w) _,by rw[rowN_0,hxl.out];exact CV.new w _ _,by simp⟩
 case round=>
  obtain⟨k,hk,rfl,HBr,C0,lC0⟩:=hrel
  by_cases hj:k<ps.length
  ·have hl:decide ((k:Int)<(ps.length:Int))=true:=by simp;omega
   have hkx:k<xs.length:=by rw[hxl.out];exact hj
   have hX:=hix.out _ hj
   have hX:Hid _:=hX
   have hR:=hS.out.pt _ hj
   have hR:Hid _:=hR
   have hv:=hxs.out k hj
   obtain⟨y,ey⟩: ∃y,(ps.getD k (0,0)).2=y:=⟨_,rfl⟩
   obtain⟨x,ex⟩: ∃x,(ps.getD k (0,0)).1=x:=⟨_,rfl⟩
   rw[ey,ex] at hR
   rw[ex] at hv
   clear ey ex
   have hXL:=V4 (vs:=xs) (k:=k) (by omega)
   have hNx:=Xy (vs:=xs) (k:=k) (by omega)
   rw[Xd (vs:=xs) (k:=k) (by omega)] at C0
   obtain⟨X,eX⟩: ∃X,flN (List.take k xs)=X:=⟨_,rfl⟩
   obtain⟨Z,eZ⟩: ∃Z,flN (List.replicate (List.length xs -(k+1)) 0)=Z:=⟨_,rfl⟩
   rw[eX] at hXL hNx C0
   rw[eZ] at hNx C0
   clear eX eZ
   rw[hv] at hNx
   clear hv hkx
   have hXL:Hid _:=hXL
   have hNx:Hid _:=hNx
   have K0_1:Bk w.heap.size wr [(true,w.heap.size,X++LN 0++Z)]:=⟨.o lC0 (by omega) C0<|trivial,by simp⟩
   go_upto_region 3 with fail
   refine Rn K0_1 HBr [(0,12,_)] (oc (g_bn (fun uZ=>Z6 _ _ (k:Int) (ps.length:Int) _ uZ hl)) on) fun u1 HB1 sz1 K1=>?_
   simp only[sQ] at K1⊢
   go_upto_region 4 with fail
   refine Rp K1 HB1 [] [(3,5,L0p,some (5,PtE x y))] (cG 0 13 [_,_,_] [(4,4,_)]) [(5,3)] [] [] (oc g_mv<|oc (g_ix hX.out)<|oc (g_lf hR.out (hg.resolve_left (by omega)) Tryz.underlying102 Wu)<|oc (g_al 0 al_poly_Point)<|oc g_as<|oc (g_sn 0 Wu) on) fun u2 b2_3 HB2 sz2 K2=>?_
   simp only[sQ] at K2⊢
   go_upto_region 5 with fail
   refine Rp K2 HB2 [.all 5 (X++LN x++Z)] [] (cG 0 16 [_,_,_,_,_] []) [] [] [true,false] (oc g_mv<|oc g_mv<|oc (g_fd (fdP0 _ 0))<|oc (g_lo 1 0 uN iN)<|oc (g_ix (ixZ _ _ _ k hj))<|oc (g_sm 0 (4*k) X (LN 0) Z (post:=LN x) (hxc:=hXL.out) iN) on) fun u3 HB3 _ K3=>?_
   simp only[sQ] at K3⊢
   go_upto_region 6 with fail
   refine Rp K3 HB3 [] [] [(0,21,_),(1,11,_)] [(1,0)] [(1,11)] [] (oc (g_bn (fun uZ=>Zm _ _ (k:Int) 1 ((k+1:Nat):Int) uZ (by omega) (by omega) (by omega)))<|oc g_mv on) fun u4 HB4 _ K4=>?_
   simp only[sQ] at K4⊢
   go_wp2
   refine⟨⟨k+1,by omega,rfl,HB4,by rw[hNx.out];exact(K4.cv 0),(K4.lt 0)⟩,?_⟩
   simp[intOf]<;>omega
  ·have hl:decide ((k:Int)<(ps.length:Int))=false:=by simp;omega
   have hkn:k=ps.length:=by omega
   have K0_1:Bk w.heap.size wr [(true,w.heap.size,flN (rowN xs k))]:=⟨.o lC0 (by omega) C0<|trivial,by simp⟩
   go_upto_region 3 with fail
   refine Rn K0_1 HBr [(0,12,_)] (oc (g_bn (fun uZ=>Z6 _ _ (k:Int) (ps.length:Int) _ uZ hl)) on) fun u1 HB1 sz1 K1=>?_
   simp only[sQ] at K1⊢
   go_upto_region 7 with fail
   refine Rn K1 HB1 [(0,22,_),(1,2,_)] (oc g_mv<|oc g_as on) fun u2 HB2 sz2 K2=>?_
   simp only[sQ] at K2⊢
   go_wp2
   exact bodyPost_ret (v:= .slice (some ⟨w.heap.size,0,none⟩) ps.length ps.length) (by simp[results,Tryz.results78,go_sem]) rfl ⟨_,rfl,⟨w.heap.size,by rw[hxl.out],Nat.le_refl _,(K2.lt 0),by rw[<-Vw xs,hxl.out,<-hkn];exact(K2.cv 0)⟩,HB2⟩
section
section
variable {R:Rg} {P:Program} {Q:Exit->Act->World->Prop} {ops:Array Oper} {i:Nat} {o:Oper} {a:Act} {u:World}
theorem wp_mS{K:Act->World->Prop}{T:TypeId}{x y:Operand}{vx vy v:Value}{w':World}(ho:o.op= .makeSlice T x y)(hx:a.eval x=vx)(hy:a.eval y=vy)(hr:(Instr.makeSlice T vx vy).run P u= .ok v w')(hk:K (a.put o.dst v) w'):o.wp P a u K Q:=
 Yb (by
  unfold execOp;rw[ho]
  show Sem.run P (do pure (Next.value (<-Instr.makeSlice T (a.eval x) (a.eval y)))) u=_
  rw[hx,hy,Sem.run_bind,hr,Result.andThen_ok,Sem.run_pure]) hk
theorem g_mS(n:Nat)(p:World->Value->Prop)(m:Nat)(cs:List Value){T e:TypeId}{x y:Operand}{vx vy:Value}(hr: ∀w,(Instr.makeSlice T vx vy).run P w= .ok (.slice (some ⟨w.heap.size,0,none⟩) m m) (w.alloc (.cells cs.toArray e)))(hp: ∀u:World,R.base<=u.heap.size->p (u.alloc (.cells cs.toArray e)) (.slice (some ⟨u.heap.size,0,none⟩) m m))(hop:o.op= .makeSlice T x y:=by rfl)(hx:evR R i o x=some vx:=by rfl)(hy:evR R i o y=some vy:=by rfl)(hn:(R.E[n]?).map (·.p)=some p:=by rfl)(hc:R.chkE ops n i o=true:=by rfl):OG R P ops Q i o:=fun f t u a X=>by
 obtain⟨d,q,hd,hq,_,_,_,_,_,_,_,_,hw⟩:=Zo hc
 exact X.go hw fun K hK=>wp_mS hop (X.ev hx) (X.ev hy) (hr u) (hK _ _ (X.putE hc (fun q hq=>by rw[hq] at hn;cases hn;exact hp u X.I.1.sz) (Z1 (Z5 u) _)))
end
def PRz(lo n:Nat)(u:World)(v:Value):Prop:= ∃b,v= .slice (some ⟨b,0,none⟩) n n/\lo<=b/\b<u.heap.size/\CV u b (flN (List.replicate n 0))
theorem PRz.stab{lo n:Nat}{u u2:World}{x:Value}(hB:Bw u u2)(h:PRz lo n u x):PRz lo n u2 x:=by
 obtain⟨b,e,h1,h2,h3⟩:=h
 exact⟨b,e,h1,Nat.lt_of_lt_of_le h2 hB.size,h3.below hB h2⟩
theorem PRz.new{lo n:Nat}{T:TypeId}(u:World)(h:lo<=u.heap.size):PRz lo n (u.alloc (.cells (flN (List.replicate n 0)).toArray T)) (.slice (some ⟨u.heap.size,0,none⟩) n n):=
 ⟨_,rfl,h,by simp,CV.new u _ _⟩
theorem dvd_small{m g:Int}(h:g∣1)(hg:0<=g):g=1:=by
 have h1:=Int.le_of_dvd (by omega) h
 by_cases h0:g=0
 ·subst h0;obtain⟨k,hk⟩:=h;simp at hk
 ·omega
theorem inv_gcd{a m x:Int}(h:IsInv a m x)(ha:0<=a)(hm:0<m):gI m a=1:=by
 have hg0:0<=gI m a:=by unfold gI;omega
 have hdm:gI m a∣m:=by
  have:((Nat.gcd m.toNat a.toNat:Nat):Int)∣(m.toNat:Int):=Int.natCast_dvd_natCast.2 (Nat.gcd_dvd_left _ _)
  rw[Int.toNat_of_nonneg (by omega)] at this;exact this
 have hda:gI m a∣a:=by
  have:((Nat.gcd m.toNat a.toNat:Nat):Int)∣(a.toNat:Int):=Int.natCast_dvd_natCast.2 (Nat.gcd_dvd_right _ _)
  rw[Int.toNat_of_nonneg ha] at this;exact this
 refine dvd_small (m:=m) ?_ hg0
 have h1:gI m a∣x*a -1:=Int.dvd_trans hdm h.2.2
 have h2:gI m a∣x*a:=Int.dvd_mul_of_dvd_right hda
 have:=Int.dvd_sub h2 h1
 rwa [show x*a -(x*a -1)=1 by omega] at this
def Invs(q:Int)(ns vs:List Int):Prop:=vs.length=ns.length/\ ∀i,i<ns.length->IsInv (dsN q ns i ns.length%q) q (vs.getD i 0)
end
def ahN(q t:Int)(ns:List Int):Nat->Int
 | 0=>1
 | i+1=>(ahN q t ns i*((t -ns.getD i 0)%q))%q
def bhN(q t:Int)(ns:List Int):Nat->Int
 | 0=>1
 | i+1=>(bhN q t ns i*((t -ns.getD (ns.length -1 -i) 0)%q))%q
theorem ahN_In{q t:Int}{ns:List Int}(hq:In q)(hq0:q≠0): ∀i,In (ahN q t ns i)
 | 0=>In_1
 | i+1=>Zi hq hq0
theorem bhN_In{q t:Int}{ns:List Int}(hq:In q)(hq0:q≠0): ∀i,In (bhN q t ns i)
 | 0=>In_1
 | i+1=>Zi hq hq0
theorem Ui:EnT 106:=fun _ _=>by kernel_rfl
theorem Wh:EnT 107:=fun _ _=>by kernel_rfl
theorem baseOf_core(q:Int)(sl:Option Addr)(gb go cap:Nat)(ns vs:List Int)(w:World)(hq:In q)(hq0:q≠0)(hvl:Hid (vs.length=ns.length))(hvs:Hid (∀i,i<ns.length->IsInv (dsN q ns i ns.length%q) q (vs.getD i 0)))(hix:Hid (∀j,j<ns.length-> ∀W,(Instr.indexAt 27 (.slice sl ns.length cap) (iI j)).run Tryz.prog W= .ok (.pointer (some ⟨gb,go+4*j,none⟩)) W))(hg:ns.length=0\/gb<w.heap.size)(hS:Hid (SN w gb go ns))(hn:Hid (∀k,k<ns.length->In (ns.getD k 0)))(hns:ns.length<=1000):
 Calls Tryz.prog 77 #[NV q,.slice sl ns.length cap] w fun e' w'=> ∃vd,e'= .returned (.tuple #[BX q (.slice sl ns.length cap) vd,.nilIface])/\PRw w.heap.size vs w' vd/\Bw w w':=by
 have hmk:=mkNt ns.length hns
 go_enter Tryz.func77,Tryz.ntmps77
 go_wp2_with fail
 go_loopw [16] (fun s16 wr=> ∃(k:Nat),k<=ns.length/\s16=iI (k:Int)/\Bw w wr/\CV wr (w.heap.size) (LN q)/\w.heap.size<wr.heap.size/\CV wr (w.heap.size+1) (L0b)/\w.heap.size+1<wr.heap.size/\CV wr (w.heap.size+1+1) (flN (rowN vs k))/\w.heap.size+1+1<wr.heap.size) (fun s16 _=>ns.length -(intOf s16).toNat)
 case atStart=>exact⟨0,by omega,rfl,Z1 (Z1 (Z1 (Z5 w) _) _) _,((CV.new w (LN q) 24).below (Z1 (Z5 (w.alloc (.cells (LN q:List Value).toArray 24))) _) (by simp)).below (Z1 (Z5 ((w.alloc (.cells (LN q:List Value).toArray 24)).alloc (.cells (L0b:List Value).toArray 105))) _) (by simp<;>omega),by (simp<;>omega),(CV.newAt (w.alloc (.cells (LN q:List Value).toArray 24)) L0b 105 _ (by simp)).below (Z1 (Z5 ((w.alloc (.cells (LN q:List Value).toArray 24)).alloc (.cells (L0b:List Value).toArray 105))) _) (by simp<;>omega),by (simp<;>omega),by rw[rowN_0,hvl.out];exact CV.newAt ((w.alloc (.cells (LN q:List Value).toArray 24)).alloc (.cells (L0b:List Value).toArray 105)) _ _ _ (by simp),by (simp<;>omega)⟩
 case round=>
  obtain⟨k,hk,rfl,HBr,C0,lC0,C1,lC1,C2,lC2⟩:=hrel
  by_cases hj:k<ns.length
  ·have hl:decide ((k:Int)<(ns.length:Int))=true:=by simp;omega
   have hkx:k<vs.length:=by rw[hvl.out];exact hj
   have hX:=hix.out _ hj
   have hX:Hid _:=hX
   have hR:=hS.out.at _ hj
   have hR:Hid _:=hR
   have iz:In (dsN q ns k ns.length):=dsN_In hq hq0 _
   have hv:=hvs.out k hj
   have hgz:=inv_gcd hv (Int.emod_nonneg _ hq0) (by have:=hq.1;omega)
   have hD:Hid (∀u,Bw w u->CC 106 #[NV q,iI (k:Int),.slice sl ns.length cap] u (NV (dsN q ns k ns.length))):=fun u bZ=>Va q k sl gb go cap ns u hq hq0 hj hix (hg.imp id (fun h=>Nat.lt_of_lt_of_le h bZ.size)) (hS.out.below2 bZ hg) hn hns
   obtain⟨x,ex⟩: ∃x,ns.getD k 0=x:=⟨_,rfl⟩
   rw[ex] at hR
   clear ex
   obtain⟨z,ez⟩: ∃z,dsN q ns k ns.length=z:=⟨_,rfl⟩
   rw[ez] at iz hv hgz hD
   clear ez
   have hXL:=V4 (vs:=vs) (k:=k) (by omega)
   have hNx:=Xy (vs:=vs) (k:=k) (by omega)
   rw[Xd (vs:=vs) (k:=k) (by omega)] at C2
   obtain⟨X,eX⟩: ∃X,flN (List.take k vs)=X:=⟨_,rfl⟩
   obtain⟨Z,eZ⟩: ∃Z,flN (List.replicate (List.length vs -(k+1)) 0)=Z:=⟨_,rfl⟩
   rw[eX] at hXL hNx C2
   rw[eZ] at hNx C2
   clear eX eZ
   obtain⟨y,ey⟩: ∃y,vs.getD k 0=y:=⟨_,rfl⟩
   rw[ey] at hv hNx
   clear ey hkx
   have hXL:Hid _:=hXL
   have hNx:Hid _:=hNx
   have K0_1:Bk w.heap.size wr [(false,w.heap.size,LN q),(true,w.heap.size+1,L0b),(true,w.heap.size+1+1,X++LN 0++Z)]:=⟨.c lC0 C0<| .o lC1 (by omega) C1<| .o lC2 (by omega) C2<|trivial,by simp<;>omega⟩
   go_upto_region 3 with fail
   refine Rn K0_1 HBr [(0,17,_)] (oc (g_bn (fun uZ=>Z6 _ _ (k:Int) (ns.length:Int) _ uZ hl)) on) fun u1 HB1 sz1 K1=>?_
   simp only[sQ] at K1⊢
   go_upto_region 4 with fail
   refine Rp K1 HB1 [] [(3,8,L0s,some (5,LN x))] (cG 0 18 [_,_,_] [(4,7,_)]) [(5,3)] [] [true,true,true,false] (oc g_mv<|oc (g_ix hX.out)<|oc (g_lf hR.out (hg.resolve_left (by omega)) uN iN)<|oc (g_al 0 aN)<|oc g_as<|oc (g_sn 0 iN) on) fun u2 b2_3 HB2 sz2 K2=>?_
   simp only[sQ] at K2⊢
   go_upto_region 5 with fail
   refine Rd K2 HB2 [] [(9,9,L0s,some (10,LN y))] (cG 0 22 [_,_,_,_,_,_] [(6,21,_),(7,28,_),(8,29,_),(11,10,_)]) [(10,9)] [] [] (oc (g_ld 0 uN iN)<|oc g_mv<|oc g_mv<|oc (g_cb Ui hD.out)<|oc (g_ld 0 uN iN)<|oc (g_cl Wx (fun uZ=>mInverse z q y uZ iz hq hq0 hgz hv))<|oc g_mv<|oc g_ex<|oc g_ex<|oc (g_al 0 aN)<|oc (g_sn 0 iN)<|oc g_as on) fun u3 b3_9 HB3 _ K3=>?_
   simp only[sQ] at K3⊢
   go_upto_region 6 with fail
   refine Rn K3 HB3 [(0,30,_),(1,31,_)] (oc g_mv<|oc (g_bn (fun uZ=>Zw _ _ _ 0 0 _ uZ rfl)) on) fun u4 HB4 _ K4=>?_
   simp only[sQ] at K4⊢
   go_upto_region 8 with fail
   refine Rp K4 HB4 [.no,.no,.all 4 (X++LN y++Z)] [] (cG 0 41 [_,_,_,_] []) [] [] [true,true,true,false] (oc g_mv<|oc g_mv<|oc (g_ld 3 uN iN)<|oc (g_ix (ixZ _ _ _ k hj))<|oc (g_sm 2 (4*k) X (LN 0) Z (post:=LN y) (hxc:=hXL.out) iN) on) fun u5 HB5 _ K5=>?_
   simp only[sQ] at K5⊢
   go_upto_region 9 with fail
   refine Rp K5 HB5 [] [] [(0,45,_),(1,16,_)] [(1,0)] [(1,16)] [] (oc (g_bn (fun uZ=>Zm _ _ (k:Int) 1 ((k+1:Nat):Int) uZ (by omega) (by omega) (by omega)))<|oc g_mv on) fun u6 HB6 _ K6=>?_
   simp only[sQ] at K6⊢
   go_wp2
   refine⟨⟨k+1,by omega,rfl,HB6,(K6.cv 0),(K6.lt 0),(K6.cv 1),(K6.lt 1),by rw[hNx.out];exact(K6.cv 2),(K6.lt 2)⟩,?_⟩
   simp[intOf]<;>omega
  ·have hl:decide ((k:Int)<(ns.length:Int))=false:=by simp;omega
   have hkn:k=ns.length:=by omega
   have K0_1:Bk w.heap.size wr [(false,w.heap.size,LN q),(true,w.heap.size+1,L0b),(true,w.heap.size+1+1,flN (rowN vs k))]:=⟨.c lC0 C0<| .o lC1 (by omega) C1<| .o lC2 (by omega) C2<|trivial,by simp<;>omega⟩
   go_upto_region 3 with fail
   refine Rn K0_1 HBr [(0,17,_)] (oc (g_bn (fun uZ=>Z6 _ _ (k:Int) (ns.length:Int) _ uZ hl)) on) fun u1 HB1 sz1 K1=>?_
   simp only[sQ] at K1⊢
   go_upto_region 10 with fail
   refine Rp K1 HB1 [.no,.all 4 (BE q (.slice sl ns.length cap) (.slice (some ⟨w.heap.size+1+1,0,none⟩) ns.length ns.length))] [] (cG 0 46 [_,_,_,_] [(5,5,_)]) [] [] [] (oc (g_ld 0 uN iN)<|oc g_mv<|oc g_mv<|oc (g_bd (bdB q _ _ _ _ _ _))<|oc (g_st 1 Yw)<|oc g_as on) fun u2 HB2 sz2 K2=>?_
   simp only[sQ] at K2⊢
   have c0:=((K2.cv 1) 0 _ rfl).1
   have c1:=((K2.cv 1) 1 _ rfl).1
   have c2:=((K2.cv 1) 2 _ rfl).1
   have c3:=((K2.cv 1) 3 _ rfl).1
   have c4:=((K2.cv 1) 4 _ rfl).1
   have c5:=((K2.cv 1) 5 _ rfl).1
   go_wp2
   exact bodyPost_ret (v:= .tuple #[BX q (.slice sl ns.length cap) (.slice (some ⟨w.heap.size+1+1,0,none⟩) ns.length ns.length),.nilIface]) (by simp[results,Tryz.results77,go_sem,c0,c1,c2,c3,c4,c5]) rfl ⟨_,rfl,⟨w.heap.size+1+1,by rw[hvl.out],by omega,(K2.lt 2),by rw[<-Vw vs,hvl.out,<-hkn];exact(K2.cv 2)⟩,HB2⟩
def rowM(f g:List Int)(k:Nat):List Int:=f.take (f.length -k)++g.drop (f.length -k)
theorem rowM_0{f g:List Int}(h:g.length=f.length):rowM f g 0=f:=by simp[rowM,h]
theorem rowM_end{f g:List Int}(h:g.length=f.length):rowM f g f.length=g:=by simp[rowM]
theorem rowM_split{f g:List Int}{k i:Nat}(h:g.length=f.length)(hk:k<f.length)(hi:f.length -1 -k=i):flN (rowM f g k)=flN (f.take i)++LN (f.getD i 0)++flN (g.drop (i+1)):=by
 have e:f.length -k=i+1:=by omega
 rw[rowM,e,Wc,List.take_add_one,List.getElem?_eq_getElem (show i<f.length by omega),Wc]
 simp[flN,List.getElem?_eq_getElem (show i<f.length by omega)]
theorem rowM_next{f g:List Int}{k i:Nat}(h:g.length=f.length)(hk:k<f.length)(hi:f.length -1 -k=i):flN (rowM f g (k+1))=flN (f.take i)++LN (g.getD i 0)++flN (g.drop (i+1)):=by
 have e:f.length -(k+1)=i:=by omega
 have hig:i<g.length:=by omega
 rw[rowM,e,Wc,List.drop_eq_getElem_cons hig,flN]
 simp[List.getElem?_eq_getElem hig]
theorem factors_core(q t:Int)(sx sd:Option Addr)(gx ox cx gd od cd:Nat)(ns vs f1 f2:List Int)(w:World)(hq:In q)(hq0:q≠0)(ht:In t)(hix:Hid (∀j,j<ns.length-> ∀W,(Instr.indexAt 27 (.slice sx ns.length cx) (iI j)).run Tryz.prog W= .ok (.pointer (some ⟨gx,ox+4*j,none⟩)) W))(hg:ns.length=0\/gx<w.heap.size)(hS:Hid (SN w gx ox ns))(hn:Hid (∀k,k<ns.length->In (ns.getD k 0)))(hns:ns.length<=1000)(hixd:Hid (∀j,j<ns.length-> ∀W,(Instr.indexAt 27 (.slice sd ns.length cd) (iI j)).run Tryz.prog W= .ok (.pointer (some ⟨gd,od+4*j,none⟩)) W))(hgd:ns.length=0\/gd<w.heap.size)(hSd:Hid (SN w gd od vs))(hnd:Hid (∀k,k<ns.length->In (vs.getD k 0)))(hvl:Hid (vs.length=ns.length))(hf1l:Hid (f1.length=ns.length))(hf2l:Hid (f2.length=f1.length))(hf1:Hid (∀i,i<ns.length->f1.getD i 0=vs.getD i 0*ahN q t ns i%q))(hf2:Hid (∀i,i<ns.length->f2.getD i 0=f1.getD i 0*bhN q t ns (ns.length -1 -i)%q)):
 Calls Tryz.prog 107 #[BX q (.slice sx ns.length cx) (.slice sd ns.length cd),NV t] w fun e' w'=> ∃y,e'= .returned y/\PRw w.heap.size f2 w' y/\Bw w w':=by
 go_enter Tryz.func107,Tryz.ntmps107
 go_upto_region 1 with fail
 obtain⟨v0,hC,HB0,K0⟩:=bx2 w (BE q (.slice sx ns.length cx) (.slice sd ns.length cd)) 105 (LN t) 24
 rw[hC]
 clear hC
 have hv0:w.heap.size<=v0.heap.size:=HB0.size
 refine Rf K0 HB0 [] [] (cG 0 12 [_,_,_] []) [] [] [⟨3,15,some 4,PRz v0.heap.size ns.length⟩,⟨4,5,none,PRz v0.heap.size ns.length⟩] [] (oc (g_fd (fdB1 _))<|oc (g_lc 0 4 lSN)<|oc (g_ln Tryz.underlying27)<|oc (g_mS 0 (PRz v0.heap.size ns.length) ns.length (flN (List.replicate ns.length 0)) (mkNt _ hns) (fun u h=>PRz.new u h))<|oc (g_sE 0 1 (PRz v0.heap.size ns.length)) on) fun u1 v1_3 hv1_3 v1_4 hv1_4 HB1 _ K1=>?_
 simp only[sQ] at K1⊢
 obtain⟨bo,rfl,o1,o2,o3⟩:=hv1_4 rfl
 have K1xo:=Bk.more3 K0 K1 o1 o2 o3 (by intro x hx;first | (simp at hx;done) | (simp at hx⊢;omega))
 simp only[aK] at K1xo
 have hbo:w.heap.size<=bo:=Nat.le_trans hv0 o1
 go_upto_region 2 with fail
 refine Rp K1xo HB1 [] [(2,6,L0s,some (4,LN 1)),(3,7,L0s,some (5,LN 1))] [(0,16,_),(1,17,_)] [(4,2),(5,3)] [] [] (oc (g_cl Z7 (fun uZ=>nOf 1 uZ (by omega) (by omega)))<|oc (g_cl Z7 (fun uZ=>nOf 1 uZ (by omega) (by omega)))<|oc (g_al 0 aN)<|oc (g_al 1 aN)<|oc (g_sn 0 iN)<|oc (g_sn 1 iN) on) fun u2 b2_2 b2_3 HB2 _ K2=>?_
 simp only[sQ] at K2⊢
 go_upto_region 3 with fail
 refine Rn K2 HB2 (cG 0 18 [_,_,_,_] []) (oc (g_fd (fdB1 _))<|oc (g_lc 0 4 lSN)<|oc (g_ln Tryz.underlying27)<|oc g_mv on) fun u3 HB3 _ K3=>?_
 simp only[sQ] at K3⊢
 go_wp2_with fail
 go_loopw [21] (fun s21 wr=> ∃(k:Nat),k<=ns.length/\s21=iI (k:Int)/\Bw w wr/\CV wr (w.heap.size) (BE q (.slice sx ns.length cx) (.slice sd ns.length cd))/\w.heap.size<wr.heap.size/\CV wr (w.heap.size+1) (LN t)/\w.heap.size+1<wr.heap.size/\CV wr bo (flN (rowN f1 k))/\bo<wr.heap.size/\CV wr b2_2 (LN (ahN q t ns k))/\b2_2<wr.heap.size/\CV wr b2_3 (LN 1)/\b2_3<wr.heap.size) (fun s21 _=>ns.length -(intOf s21).toNat)
 case atStart=>exact⟨0,by omega,rfl,HB3,(K3.cv 0),(K3.lt 0),(K3.cv 1),(K3.lt 1),by rw[rowN_0,hf1l.out];exact(K3.cv 2),(K3.lt 2),(K3.cv 3),(K3.lt 3),(K3.cv 4),(K3.lt 4)⟩
 case round=>
  obtain⟨k,hk,rfl,HBr,C0,lC0,C1,lC1,C2,lC2,C3,lC3,C4,lC4⟩:=hrel
  have hnK:=K3.n
  simp at hnK
  have hoK3:=K3.lo 3
  have hoK4:=K3.lo 4
  by_cases hj:k<ns.length
  ·have hl:decide ((k:Int)<(ns.length:Int))=true:=by simp;omega
   have hkx:k<f1.length:=by rw[hf1l.out];exact hj
   have hX:=hix.out _ hj
   have hX:Hid _:=hX
   have hR:=hS.out.at _ hj
   have hR:Hid _:=hR
   have hXd:=hixd.out _ hj
   have hXd:Hid _:=hXd
   have hRd:=hSd.out.at k (by rw[hvl.out];exact hj)
   have hRd:Hid _:=hRd
   have ix:=hn.out k hj
   have iv:=hnd.out k hj
   have ia:=ahN_In (t:=t) (ns:=ns) hq hq0 k
   have hv:=hf1.out k hj
   have hA:Hid (ahN q t ns (k+1)=(ahN q t ns k*((t -ns.getD k 0)%q))%q):=rfl
   obtain⟨x,ex⟩: ∃x,ns.getD k 0=x:=⟨_,rfl⟩
   rw[ex] at hR ix hA
   clear ex
   obtain⟨v,ev⟩: ∃v,vs.getD k 0=v:=⟨_,rfl⟩
   rw[ev] at hRd iv hv
   clear ev
   obtain⟨a,ea⟩: ∃a,ahN q t ns k=a:=⟨_,rfl⟩
   rw[ea] at ia hv hA C3
   clear ea
   have hXL:=V4 (vs:=f1) (k:=k) (by omega)
   have hNx:=Xy (vs:=f1) (k:=k) (by omega)
   rw[Xd (vs:=f1) (k:=k) (by omega)] at C2
   obtain⟨X,eX⟩: ∃X,flN (List.take k f1)=X:=⟨_,rfl⟩
   obtain⟨Z,eZ⟩: ∃Z,flN (List.replicate (List.length f1 -(k+1)) 0)=Z:=⟨_,rfl⟩
   rw[eX] at hXL hNx C2
   rw[eZ] at hNx C2
   clear eX eZ
   rw[hv] at hNx
   clear hv hkx
   have hXL:Hid _:=hXL
   have hNx:Hid _:=hNx
   have K3_1:Bk w.heap.size wr [(false,w.heap.size,BE q (.slice sx ns.length cx) (.slice sd ns.length cd)),(false,w.heap.size+1,LN t),(true,bo,X++LN 0++Z),(true,b2_2,LN a),(true,b2_3,LN 1)]:=⟨.c lC0 C0<| .c lC1 C1<| .o lC2 (by omega) C2<| .o lC3 (K3.lo 3) C3<| .o lC4 (K3.lo 4) C4<|trivial,by simp<;>omega⟩
   go_upto_region 4 with fail
   refine Rn K3_1 HBr [(0,22,_)] (oc (g_bn (fun uZ=>Z6 _ _ (k:Int) (ns.length:Int) _ uZ hl)) on) fun u4 HB4 sz4 K4=>?_
   simp only[sQ] at K4⊢
   go_upto_region 5 with fail
   refine Rp K4 HB4 [] [(3,9,L0s,some (5,LN x))] (cG 0 23 [_,_,_] [(4,8,_)]) [(5,3)] [] [] (oc g_mv<|oc (g_ix hX.out)<|oc (g_lf hR.out (hg.resolve_left (by omega)) uN iN)<|oc (g_al 0 aN)<|oc g_as<|oc (g_sn 0 iN) on) fun u5 b5_3 HB5 sz5 K5=>?_
   simp only[sQ] at K5⊢
   go_upto_region 6 with fail
   refine Rd K5 HB5 [.no,.no,.all 12 (X++LN (v*a%q)++Z)] [] (cG 0 26 [_,_,_,_,_,_,_,_,_,_,_,_] []) [] [] [] (oc g_mv<|oc g_mv<|oc (g_fd (fdB0 _))<|oc (g_lo 0 0 uN iN)<|oc (g_fd (fdB2 _))<|oc (g_lc 0 5 lSN)<|oc g_mv<|oc (g_ix hXd.out)<|oc (g_lf hRd.out (hgd.resolve_left (by omega)) uN iN)<|oc (g_ld 3 uN iN)<|oc (g_cl Y8 (fun uZ=>pTimes q v a uZ iv ia hq hq0))<|oc (g_ix (ixZ _ _ _ k hj))<|oc (g_sm 2 (4*k) X (LN 0) Z (post:=LN (v*a%q)) (hxc:=hXL.out) iN) on) fun u6 HB6 sz6 K6=>?_
   simp only[sQ] at K6⊢
   go_upto_region 7 with fail
   refine Rd K6 HB6 [.no,.no,.no,.all 9 (LN (a*((t -x)%q)%q))] [] (cG 0 38 [_,_,_,_,_,_,_,_,_] []) [(9,2)] [] [true,true,true,true,true,false] (oc (g_fd (fdB0 _))<|oc (g_lo 0 0 uN iN)<|oc (g_ld 3 uN iN)<|oc (g_fd (fdB0 _))<|oc (g_lo 0 0 uN iN)<|oc (g_ld 1 uN iN)<|oc (g_ld 5 uN iN)<|oc (g_cl Xw (fun uZ=>pMinus q t x uZ ht ix hq hq0))<|oc (g_cl Y8 (fun uZ=>pTimes q a ((t -x)%q) uZ ia (Zi hq hq0) hq hq0))<|oc (g_st 3 iN) on) fun u7 HB7 sz7 K7=>?_
   simp only[sQ] at K7⊢
   go_upto_region 8 with fail
   refine Rp K7 HB7 [] [] [(0,47,_),(1,21,_)] [(1,0)] [(1,21)] [] (oc (g_bn (fun uZ=>Zm _ _ (k:Int) 1 ((k+1:Nat):Int) uZ (by omega) (by omega) (by omega)))<|oc g_mv on) fun u8 HB8 sz8 K8=>?_
   simp only[sQ] at K8⊢
   go_wp2
   refine⟨⟨k+1,by omega,rfl,HB8,(K8.cv 0),(K8.lt 0),(K8.cv 1),(K8.lt 1),by rw[hNx.out];exact(K8.cv 2),(K8.lt 2),by rw[hA.out];exact(K8.cv 3),(K8.lt 3),(K8.cv 4),(K8.lt 4)⟩,?_⟩
   simp[intOf]<;>omega
  ·have hl:decide ((k:Int)<(ns.length:Int))=false:=by simp;omega
   have hkn:k=f1.length:=by rw[hf1l.out];omega
   rw[hkn,Vw] at C2
   clear hkn
   have K3_1:Bk w.heap.size wr [(false,w.heap.size,BE q (.slice sx ns.length cx) (.slice sd ns.length cd)),(false,w.heap.size+1,LN t),(true,bo,flN f1),(true,b2_2,LN (ahN q t ns k)),(true,b2_3,LN 1)]:=⟨.c lC0 C0<| .c lC1 C1<| .o lC2 (by omega) C2<| .o lC3 (K3.lo 3) C3<| .o lC4 (K3.lo 4) C4<|trivial,by simp<;>omega⟩
   go_upto_region 4 with fail
   refine Rn K3_1 HBr [(0,22,_)] (oc (g_bn (fun uZ=>Z6 _ _ (k:Int) (ns.length:Int) _ uZ hl)) on) fun u4 HB4 sz4 K4=>?_
   simp only[sQ] at K4⊢
   go_upto_region 9 with fail
   refine Rn K4 HB4 (cG 0 48 [_,_,_,_] []) (oc (g_fd (fdB1 _))<|oc (g_lc 0 4 lSN)<|oc (g_ln Tryz.underlying27)<|oc g_mv on) fun u5 HB5 sz5 K5=>?_
   simp only[sQ] at K5⊢
   clear hk
   go_wp2_with fail
   go_loopw [51] (fun s51 wr=> ∃(m:Nat),m<=ns.length/\s51=iI (m:Int)/\Bw w wr/\CV wr (w.heap.size) (BE q (.slice sx ns.length cx) (.slice sd ns.length cd))/\w.heap.size<wr.heap.size/\CV wr (w.heap.size+1) (LN t)/\w.heap.size+1<wr.heap.size/\CV wr bo (flN (rowM f1 f2 m))/\bo<wr.heap.size/\CV wr b2_3 (LN (bhN q t ns m))/\b2_3<wr.heap.size) (fun s51 _=>ns.length -(intOf s51).toNat)
   case atStart=>exact⟨0,by omega,rfl,HB5,(K5.cv 0),(K5.lt 0),(K5.cv 1),(K5.lt 1),by rw[rowM_0 hf2l.out];exact(K5.cv 2),(K5.lt 2),(K5.cv 4),(K5.lt 4)⟩
   case round=>
    obtain⟨m,hm,rfl,HBs,D0,lD0,D1,lD1,D2,lD2,D3,lD3⟩:=hrel
    have hnK:=K5.n
    simp at hnK
    have hoK2:=K5.lo 2
    have hoK3:=K5.lo 3
    have hoK4:=K5.lo 4
    by_cases hj:m<ns.length
    ·have hl2:decide ((m:Int)<(ns.length:Int))=true:=by simp;omega
     obtain⟨i,ei⟩: ∃i,ns.length -1 -m=i:=⟨_,rfl⟩
     have hji:i<ns.length:=by omega
     have hi2:f1.length -1 -m=i:=by rw[hf1l.out];exact ei
     have hX:=hix.out _ hji
     have hX:Hid _:=hX
     have hR:=hS.out.at _ hji
     have hR:Hid _:=hR
     have ix:=hn.out i hji
     have ib:=bhN_In (t:=t) (ns:=ns) hq hq0 m
     have hv:=hf2.out i hji
     have hy:In (f1.getD i 0):=by rw[hf1.out i hji];exact Zi hq hq0
     have hA:Hid (bhN q t ns (m+1)=(bhN q t ns m*((t -ns.getD i 0)%q))%q):=by rw[<-ei];rfl
     rw[show ns.length -1 -i=m by omega] at hv
     have hXL:(flN (f1.take i)).length=4*i:=by rw[Wb,List.length_take,hf1l.out];omega
     have hNx:=rowM_next (f:=f1) (g:=f2) hf2l.out (by rw[hf1l.out];exact hj) hi2
     rw[rowM_split hf2l.out (by rw[hf1l.out];exact hj) hi2] at D2
     have hjm:(ns.length:Int) -1 -m=(i:Int):=by omega
     clear hi2 ei
     obtain⟨X,eX⟩: ∃X,flN (f1.take i)=X:=⟨_,rfl⟩
     obtain⟨Z,eZ⟩: ∃Z,flN (f2.drop (i+1))=Z:=⟨_,rfl⟩
     rw[eX] at hXL hNx D2
     rw[eZ] at hNx D2
     rw[hv] at hNx
     clear eX eZ hv
     obtain⟨x,ex⟩: ∃x,ns.getD i 0=x:=⟨_,rfl⟩
     rw[ex] at hR ix hA
     clear ex
     obtain⟨y,ey⟩: ∃y,f1.getD i 0=y:=⟨_,rfl⟩
     rw[ey] at hNx hy D2
     clear ey
     obtain⟨b,eb⟩: ∃b,bhN q t ns m=b:=⟨_,rfl⟩
     rw[eb] at ib hA hNx D3
     clear eb
     have hXL:Hid _:=hXL
     have hNx:Hid _:=hNx
     have hjm:Hid _:=hjm
     have K5_2:Bk w.heap.size wr [(false,w.heap.size,BE q (.slice sx ns.length cx) (.slice sd ns.length cd)),(false,w.heap.size+1,LN t),(true,bo,X++LN y++Z),(true,b2_3,LN b)]:=⟨.c lD0 D0<| .c lD1 D1<| .o lD2 (K5.lo 2) D2<| .o lD3 (K5.lo 4) D3<|trivial,by simp<;>omega⟩
     go_upto_region 10 with fail
     refine Rn K5_2 HBs [(0,52,_)] (oc (g_bn (fun uZ=>Z6 _ _ (m:Int) (ns.length:Int) _ uZ hl2)) on) fun u6 HB6 sz6 K6=>?_
     simp only[sQ] at K6⊢
     go_upto_region 11 with fail
     refine Rn K6 HB6 [(0,53,_),(1,10,_)] (oc g_mv<|oc g_as on) fun u7 HB7 sz7 K7=>?_
     simp only[sQ] at K7⊢
     go_upto_region 12 with fail
     refine Rn K7 HB7 (cG 0 54 [_,_,_,_,_,_] [(6,11,_)]) (oc (g_fd (fdB1 _))<|oc (g_lc 0 4 lSN)<|oc (g_ln Tryz.underlying27)<|oc (g_bn (fun uZ=>X8 _ _ (ns.length:Int) 1 _ uZ rfl (by omega) (by omega)))<|oc g_mv<|oc (g_bn (fun uZ=>X8 _ _ ((ns.length:Int) -1) (m:Int) _ uZ hjm.out (by omega) (by omega)))<|oc g_as on) fun u8 HB8 sz8 K8=>?_
     simp only[sQ] at K8⊢
     go_upto_region 13 with fail
     refine Rd K8 HB8 [.no,.no,.all 11 (X++LN (y*b%q)++Z)] [] (cG 0 60 [_,_,_,_,_,_,_,_,_,_,_] []) [(11,7)] [] [] (oc g_mv<|oc g_mv<|oc (g_fd (fdB0 _))<|oc (g_lo 0 0 uN iN)<|oc g_mv<|oc g_mv<|oc (g_ix (ixZ _ _ _ i hji))<|oc (g_lR 2 (4*i) (cs:=LN y) (mid_at hXL.out) uN iN)<|oc (g_ld 3 uN iN)<|oc (g_cl Y8 (fun uZ=>pTimes q y b uZ hy ib hq hq0))<|oc (g_ix (ixZ _ _ _ i hji))<|oc (g_sm 2 (4*i) X (LN y) Z (post:=LN (y*b%q)) (hxc:=hXL.out) iN) on) fun u9 HB9 _ K9=>?_
     simp only[sQ] at K9⊢
     go_upto_region 14 with fail
     refine Rd K9 HB9 [.no,.no,.no,.all 13 (LN (b*((t -x)%q)%q))] [] (cG 0 71 [_,_,_,_,_,_,_,_,_,_,_,_,_] []) [(13,2)] [] [] (oc (g_fd (fdB0 _))<|oc (g_lo 0 0 uN iN)<|oc (g_ld 3 uN iN)<|oc (g_fd (fdB0 _))<|oc (g_lo 0 0 uN iN)<|oc (g_ld 1 uN iN)<|oc (g_fd (fdB1 _))<|oc (g_lc 0 4 lSN)<|oc g_mv<|oc (g_ix hX.out)<|oc (g_lf hR.out (hg.resolve_left (by omega)) uN iN)<|oc (g_cl Xw (fun uZ=>pMinus q t x uZ ht ix hq hq0))<|oc (g_cl Y8 (fun uZ=>pTimes q b ((t -x)%q) uZ ib (Zi hq hq0) hq hq0))<|oc (g_st 3 iN) on) fun u10 HB10 _ K10=>?_
     simp only[sQ] at K10⊢
     go_upto_region 15 with fail
     refine Rp K10 HB10 [] [] [(0,84,_),(1,51,_)] [(1,0)] [(1,51)] [] (oc (g_bn (fun uZ=>Zm _ _ (m:Int) 1 ((m+1:Nat):Int) uZ (by omega) (by omega) (by omega)))<|oc g_mv on) fun u11 HB11 _ K11=>?_
     simp only[sQ] at K11⊢
     go_wp2
     refine⟨⟨m+1,by omega,rfl,HB11,(K11.cv 0),(K11.lt 0),(K11.cv 1),(K11.lt 1),by rw[hNx.out];exact(K11.cv 2),(K11.lt 2),by rw[hA.out];exact(K11.cv 3),(K11.lt 3)⟩,?_⟩
     simp[intOf]<;>omega
    ·have hl2:decide ((m:Int)<(ns.length:Int))=false:=by simp;omega
     have hmn:m=f1.length:=by rw[hf1l.out];omega
     rw[hmn,rowM_end hf2l.out] at D2
     clear hmn
     have K5_2:Bk w.heap.size wr [(false,w.heap.size,BE q (.slice sx ns.length cx) (.slice sd ns.length cd)),(false,w.heap.size+1,LN t),(true,bo,flN f2),(true,b2_3,LN (bhN q t ns m))]:=⟨.c lD0 D0<| .c lD1 D1<| .o lD2 (K5.lo 2) D2<| .o lD3 (K5.lo 4) D3<|trivial,by simp<;>omega⟩
     go_upto_region 10 with fail
     refine Rn K5_2 HBs [(0,52,_)] (oc (g_bn (fun uZ=>Z6 _ _ (m:Int) (ns.length:Int) _ uZ hl2)) on) fun u6 HB6 sz6 K6=>?_
     simp only[sQ] at K6⊢
     go_upto_region 16 with fail
     refine Rn K6 HB6 [(0,85,_),(1,4,_)] (oc g_mv<|oc g_as on) fun u7 HB7 sz7 K7=>?_
     simp only[sQ] at K7⊢
     go_wp2
     exact bodyPost_ret (v:= .slice (some ⟨bo,0,none⟩) ns.length ns.length) (by simp[results,Tryz.results107,go_sem]) rfl ⟨_,rfl,⟨bo,by rw[hf2l.out,hf1l.out],hbo,(K7.lt 2),(K7.cv 2)⟩,HB7⟩
theorem PRw.lo{a b:Nat}{ns:List Int}{u:World}{v:Value}(h:PRw b ns u v)(hab:a<=b):PRw a ns u v:=by
 obtain⟨x,e,h1,h2,h3⟩:=h
 exact⟨x,e,Nat.le_trans hab h1,h2,h3⟩
theorem flN_in: ∀{ns:List Int} {k:Nat},k<ns.length-> ∀j v,(LN (ns.getD k 0))[j]?=some v->(flN ns)[4*k+j]?=some v
 | [],k,h=>by simp at h
 | n::r,0,h=>fun j v hj=>by
  have hl:j<4:=(List.getElem?_eq_some_iff.1 hj).1
  rw[Nat.mul_zero,Nat.zero_add,flN,List.getElem?_append_left (by exact hl)];exact hj
 | n::r,k+1,h=>fun j v hj=>by
  have:=flN_in (ns:=r) (k:=k) (by simpa using h) j v (by simpa using hj)
  rw[flN,List.getElem?_append_right (by show 4<=_;omega),show 4*(k+1)+j -(LN n).length=4*k+j by show _ -4=_;omega];exact this
def smN(q:Int)(fs:List Int)(ps:List (Int×Int)):Nat->Int
 | 0=>0
 | k+1=>(smN q fs ps k+(fs.getD k 0*(ps.getD k (0,0)).2)%q)%q
theorem smN_In{q:Int}{fs:List Int}{ps:List (Int×Int)}(hq:In q)(hq0:q≠0): ∀i,In (smN q fs ps i)
 | 0=>In_0
 | i+1=>Zi hq hq0
theorem sum_core(q t:Int)(sx sd sl:Option Addr)(cx cd gb go cap:Nat)(ns fs:List Int)(ps:List (Int×Int))(w:World)(hq:In q)(hq0:q≠0)(hix:Hid (∀j,j<ps.length-> ∀W,(Instr.indexAt 73 (.slice sl ps.length cap) (iI j)).run Tryz.prog W= .ok (.pointer (some ⟨gb,go+8*j,none⟩)) W))(hg:ps.length=0\/gb<w.heap.size)(hS:Hid (SN w gb go (flt ps)))(hns:ps.length<=1000)(hF:Hid (∀u,Bw w u->Calls Tryz.prog 107 #[BX q (.slice sx ns.length cx) (.slice sd ns.length cd),NV t] u fun e u'=> ∃y,e= .returned y/\PRw u.heap.size fs u' y/\Bw u u'))(hfl:Hid (fs.length=ps.length))(hnf:Hid (∀k,k<fs.length->In (fs.getD k 0)))(hnp:Hid (∀k,k<ps.length->In (ps.getD k (0,0)).2)):
 CC 79 #[BX q (.slice sx ns.length cx) (.slice sd ns.length cd),NV t,.slice sl ps.length cap] w (NV (smN q fs ps fs.length)):=by
 have hfl2:=hfl.out
 have hfk:fs.length<=1000:=by omega
 clear hfl2
 go_enter Tryz.func79,Tryz.ntmps79
 go_upto_region 1 with fail
 obtain⟨v0,hC,HB0,K0⟩:=bx3 w (BE q (.slice sx ns.length cx) (.slice sd ns.length cd)) 105 (LN t) 24 L0s 24
 rw[hC]
 clear hC
 refine Rp K0 HB0 [] [(1,7,L0s,some (2,[iU (0),iU (0),iU (0),iU (0)]))] [(0,10,_)] [(2,1)] [] [] (oc (g_bd zN)<|oc (g_al 0 aN)<|oc (g_sn 0 iN) on) fun u1 b1_1 HB1 _ K1=>?_
 simp only[sQ] at K1⊢
 go_upto_region 2 with fail
 refine Rf K1 HB1 [] [] [(0,11,_),(1,12,_),(3,14,_),(4,15,_)] [] [] [⟨2,13,none,PRw u1.heap.size fs⟩] [] (oc (g_ld 0 Tryz.underlying105 Yw)<|oc (g_ld 1 uN iN)<|oc (g_cE 0 (PRw u1.heap.size fs) Wh (fun u hB hs=>(hF.out u hB).mono fun e u2 ⟨v,e1,h1,h2⟩=>⟨v,e1,h1.lo hs,h2⟩))<|oc (g_lE 0 (PRw u1.heap.size fs) Tryz.underlying27 (fun u vs ⟨b,e,_⟩=>⟨_,_,e⟩))<|oc g_mv on) fun u2 v2_2 hv2_2 HB2 _ K2=>?_
 simp only[sQ] at K2⊢
 obtain⟨bf,rfl,o1,o2,o3⟩:=hv2_2 rfl
 have K2xf:=Bk.more3 K1 K2 o1 o2 o3 (by intro x hx;first | (simp at hx;done) | (simp at hx⊢;omega))
 simp only[aK] at K2xf
 go_wp2_with fail
 go_loopw [15] (fun s15 wr=> ∃(k:Nat),k<=fs.length/\s15=iI (k:Int)/\Bw w wr/\CV wr (w.heap.size) (BE q (.slice sx ns.length cx) (.slice sd ns.length cd))/\w.heap.size<wr.heap.size/\CV wr (w.heap.size+1+1) (L0s)/\w.heap.size+1+1<wr.heap.size/\CV wr b1_1 (LN (smN q fs ps k))/\b1_1<wr.heap.size/\CV wr bf (flN fs)/\bf<wr.heap.size) (fun s15 _=>fs.length -(intOf s15).toNat)
 case atStart=>exact⟨0,by omega,rfl,HB2,(K2xf.cv 0),(K2xf.lt 0),(K2xf.cv 2),(K2xf.lt 2),(K2xf.cv 3),(K2xf.lt 3),(K2xf.cv 4),(K2xf.lt 4)⟩
 case round=>
  obtain⟨k,hk,rfl,HBr,C0,lC0,C1,lC1,C2,lC2,C3,lC3⟩:=hrel
  have hnK:=K2xf.n
  simp at hnK
  have hoK3:=K2xf.lo 3
  by_cases hj:k<fs.length
  ·have hl:decide ((k:Int)<(fs.length:Int))=true:=by simp;omega
   have hjp:k<ps.length:=by rw[<-hfl.out];exact hj
   have hX:=hix.out _ hjp
   have hX:Hid _:=hX
   have hR:=hS.out.ptY _ hjp
   have hR:Hid _:=hR
   have iy:=hnp.out k hjp
   have ix:=hnf.out k hj
   have hf:=flN_in hj
   have iz:=smN_In (fs:=fs) (ps:=ps) hq hq0 k
   have hA:Hid (smN q fs ps (k+1)=(smN q fs ps k+(fs.getD k 0*(ps.getD k (0,0)).2)%q)%q):=rfl
   have hgb:=hg.resolve_left (by omega)
   have hkl:k<1000:=by omega
   obtain⟨y,ey⟩: ∃y,(ps.getD k (0,0)).2=y:=⟨_,rfl⟩
   rw[ey] at hR iy hA
   clear ey
   obtain⟨x,ex⟩: ∃x,fs.getD k 0=x:=⟨_,rfl⟩
   rw[ex] at ix hf hA
   clear ex
   obtain⟨z,ez⟩: ∃z,smN q fs ps k=z:=⟨_,rfl⟩
   rw[ez] at iz hA C2
   clear ez hjp
   have hf:Hid _:=hf
   have K2_1:Bk w.heap.size wr [(false,w.heap.size,BE q (.slice sx ns.length cx) (.slice sd ns.length cd)),(true,w.heap.size+1+1,L0s),(true,b1_1,LN z),(false,bf,flN fs)]:=⟨.c lC0 C0<| .o lC1 (K2xf.lo 2) C1<| .o lC2 (K2xf.lo 3) C2<| .c lC3 C3<|trivial,by simp<;>omega⟩
   go_upto_region 3 with fail
   refine Rn K2_1 HBr [(0,16,_)] (oc (g_bn (fun uZ=>Z6 _ _ (k:Int) (fs.length:Int) _ uZ hl)) on) fun u3 HB3 sz3 K3=>?_
   simp only[sQ] at K3⊢
   go_upto_region 4 with fail
   refine Rp K3 HB3 [] [(3,9,L0s,some (5,LN x))] (cG 0 17 [_,_,_] [(4,8,_)]) [(5,3)] [] [] (oc g_mv<|oc (g_ix (ixZ _ _ _ k hj))<|oc (g_lR 3 (4*k) (cs:=LN x) (hf.out) uN iN)<|oc (g_al 0 aN)<|oc g_as<|oc (g_sn 0 iN) on) fun u4 b4_3 HB4 sz4 K4=>?_
   simp only[sQ] at K4⊢
   go_upto_region 5 with fail
   refine Rd K4 HB4 [.no,.no,.all 16 (LN ((z+x*y%q)%q))] [] (cG 0 21 [_,_,_,_,_,_,_,_,_,_,_,_,_] [(13,20,_),(14,34,_),(15,35,_)]) [(16,0)] [] [true,true,true,true,false] (oc (g_ld 2 uN iN)<|oc (g_fd (fdB0 _))<|oc (g_lo 0 0 uN iN)<|oc (g_ld 4 uN iN)<|oc g_mv<|oc g_mv<|oc (g_ix hX.out)<|oc (g_fd (fdP1 _ _))<|oc (g_lf hR.out hgb uN iN)<|oc (g_cl Y8 (fun uZ=>pTimes q x y uZ ix iy hq hq0))<|oc (g_fd (fdB0 _))<|oc (g_lo 0 0 uN iN)<|oc (g_cl ent_mod_Add (fun uZ=>mAdd z (x*y%q) q uZ iz (Zi hq hq0) hq hq0))<|oc g_mv<|oc g_ex<|oc g_ex<|oc (g_st 2 iN) on) fun u5 HB5 _ K5=>?_
   simp only[sQ] at K5⊢
   go_upto_region 6 with fail
   refine Rp K5 HB5 [] [] [(0,36,_),(1,15,_)] [(1,0)] [(1,15)] [] (oc (g_bn (fun uZ=>Zm _ _ (k:Int) 1 ((k+1:Nat):Int) uZ (by omega) (by omega) (by omega)))<|oc g_mv on) fun u6 HB6 _ K6=>?_
   simp only[sQ] at K6⊢
   go_wp2
   refine⟨⟨k+1,by omega,rfl,HB6,(K6.cv 0),(K6.lt 0),(K6.cv 1),(K6.lt 1),by rw[hA.out];exact(K6.cv 2),(K6.lt 2),(K6.cv 3),(K6.lt 3)⟩,?_⟩
   simp[intOf]<;>omega
  ·have hl:decide ((k:Int)<(fs.length:Int))=false:=by simp;omega
   have hkn:k=fs.length:=by omega
   have K2_1:Bk w.heap.size wr [(false,w.heap.size,BE q (.slice sx ns.length cx) (.slice sd ns.length cd)),(true,w.heap.size+1+1,L0s),(true,b1_1,LN (smN q fs ps k)),(false,bf,flN fs)]:=⟨.c lC0 C0<| .o lC1 (K2xf.lo 2) C1<| .o lC2 (K2xf.lo 3) C2<| .c lC3 C3<|trivial,by simp<;>omega⟩
   go_upto_region 3 with fail
   refine Rn K2_1 HBr [(0,16,_)] (oc (g_bn (fun uZ=>Z6 _ _ (k:Int) (fs.length:Int) _ uZ hl)) on) fun u3 HB3 sz3 K3=>?_
   simp only[sQ] at K3⊢
   go_upto_region 7 with fail
   refine Rp K3 HB3 [.no,.all 1 (LN (smN q fs ps k))] [] [(0,37,_)] [] [] [] (oc (g_ld 2 uN iN)<|oc (g_st 1 iN) on) fun u4 HB4 sz4 K4=>?_
   simp only[sQ] at K4⊢
   have c6:=(K4.cv 1).n4
   go_wp2
   refine bodyPost_ret (v:=NV (smN q fs ps k)) (by simp[results,Tryz.results79,go_sem,c6]) rfl ⟨by rw[hkn],HB4⟩
end
section
open Go.RowKit Go.Extern.Stop Go.Stop Go.Extern
theorem cUnJ(b:Nat)(v:Value)(w:World)(h:w.cell? ⟨b,0,none⟩=some v):Calls Tryz.prog 204 #[.pointer (some ⟨b,0,none⟩)] w fun e w'=>e= .returned v/\w'=w:=by
 go_enter Tryz.func204,Tryz.ntmps204
 go_wp2
 exact bodyPost_ret (v:=v) (by simp[results,Tryz.results204,go_sem]) rfl ⟨rfl,rfl⟩
theorem Tryz.noUnJ(v:Value)(xT:TypeId)(w:World):(Instr.typeAssert (.iface 160 v) xT 191 true).run Tryz.prog w= .ok (.tuple #[.nilIface,.bool false]) w:=run_typeAssert_lacksB Tryz.underlying191 (by kernel_rfl) (by kernel_rfl) v xT w
theorem Tryz.usJ(v:Value)(xT:TypeId)(w:World):(Instr.typeAssert (.iface 160 v) xT 193 true).run Tryz.prog w= .ok (.tuple #[.iface 160 v,.bool true]) w:=run_typeAssert_hasB Tryz.underlying193 (by kernel_rfl) v xT w
theorem wrap1(i n:Nat)(h:i<n)(hn:n<=1000000):IntKind.i64.wrap ((i:Int)+1)=((i+1:Nat):Int):=by rw[IntKind.wrap_i64];omega
end
end Go.Proofs.YtmoimodkopjeeaaGreatDoor
