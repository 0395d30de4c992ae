import Derived.Test.YtmoimodkopjeeaaGreatDoorMQ
namespace Go.Proofs.YtmoimodkopjeeaaGreatDoor
set_option linter.unusedVariables false
set_option linter.unusedSimpArgs false
set_option maxRecDepth 100000
set_option maxHeartbeats 4000000
section
open Go.RowKit
def hoN(q x:Int)(ns:List Int):Nat->Int
 | 0=>0
 | i+1=>((hoN q x ns i*x)%q+ns.getD (ns.length -1 -i) 0)%q
theorem hoN_In{q x:Int}{ns:List Int}(hq:In q)(hq0:q≠0): ∀i,In (hoN q x ns i)
 | 0=>In_0
 | i+1=>Zi hq hq0
def dsN(q:Int)(ns:List Int)(i:Nat):Nat->Int
 | 0=>1
 | j+1=>if j=i then dsN q ns i j else (dsN q ns i j*((ns.getD i 0 -ns.getD j 0)%q))%q
theorem dsN_In{q:Int}{ns:List Int}{i:Nat}(hq:In q)(hq0:q≠0): ∀j,In (dsN q ns i j)
 | 0=>In_1
 | j+1=>by
  rw[dsN];split
  ·exact dsN_In hq hq0 j
  ·exact Zi hq hq0
theorem pTimes(q a b:Int)(w:World)(ha:In a)(hb:In b)(hq:In q)(hq0:q≠0):
 CC 108 #[NV q,NV a,NV b] w (NV ((a*b)%q)):=by
 go_enter Tryz.func108,Tryz.ntmps108
 go_upto_region 1 with fail
 obtain⟨v0,hC,HB0,K0⟩:=bx4 w (LN q) 24 (LN a) 24 (LN b) 24 L0s 24
 rw[hC]
 clear hC
 refine Rp K0 HB0 [] [(7,7,L0s,some (8,LN ((a*b)%q)))] (cG 0 10 [_,_,_,_] [(4,9,_),(5,14,_),(6,15,_),(9,8,_)]) [(8,7)] [] [false,false,false] (oc (g_ld 1 uN iN)<|oc (g_ld 2 uN iN)<|oc (g_ld 0 uN iN)<|oc (g_cl Vo (fun uZ=>mMul a b q uZ ha hb hq hq0))<|oc g_mv<|oc g_ex<|oc g_ex<|oc (g_al 0 aN)<|oc (g_sn 0 iN)<|oc g_as on) fun u1 b1_7 HB1 _ K1=>?_
 simp only[sQ] at K1⊢
 go_upto_region 2 with fail
 refine Rp K1 HB1 [.all 1 (LN ((a*b)%q))] [] [(0,16,_)] [] [] [true,false] (oc (g_ld 1 uN iN)<|oc (g_st 0 iN) on) fun u2 HB2 _ K2=>?_
 simp only[sQ] at K2⊢
 have c6:=(K2.cv 0).n4
 go_wp2
 refine bodyPost_ret (v:=NV ((a*b)%q)) (by simp[results,Tryz.results108,go_sem,c6]) rfl ⟨rfl,HB2⟩
theorem pMinus(q a b:Int)(w:World)(ha:In a)(hb:In b)(hq:In q)(hq0:q≠0):
 CC 137 #[NV q,NV a,NV b] w (NV ((a -b)%q)):=by
 go_enter Tryz.func137,Tryz.ntmps137
 go_upto_region 1 with fail
 obtain⟨v0,hC,HB0,K0⟩:=bx4 w (LN q) 24 (LN a) 24 (LN b) 24 L0s 24
 rw[hC]
 clear hC
 refine Rp K0 HB0 [] [(7,7,L0s,some (8,LN ((a -b)%q)))] (cG 0 10 [_,_,_,_] [(4,9,_),(5,14,_),(6,15,_),(9,8,_)]) [(8,7)] [] [false,false,false] (oc (g_ld 1 uN iN)<|oc (g_ld 2 uN iN)<|oc (g_ld 0 uN iN)<|oc (g_cl Vn (fun uZ=>mSub a b q uZ ha hb hq hq0))<|oc g_mv<|oc g_ex<|oc g_ex<|oc (g_al 0 aN)<|oc (g_sn 0 iN)<|oc g_as on) fun u1 b1_7 HB1 _ K1=>?_
 simp only[sQ] at K1⊢
 go_upto_region 2 with fail
 refine Rp K1 HB1 [.all 1 (LN ((a -b)%q))] [] [(0,16,_)] [] [] [true,false] (oc (g_ld 1 uN iN)<|oc (g_st 0 iN) on) fun u2 HB2 _ K2=>?_
 simp only[sQ] at K2⊢
 have c6:=(K2.cv 0).n4
 go_wp2
 refine bodyPost_ret (v:=NV ((a -b)%q)) (by simp[results,Tryz.results137,go_sem,c6]) rfl ⟨rfl,HB2⟩
theorem pValue_core(q x:Int)(sl:Option Addr)(gb go cap:Nat)(ns:List Int)(w:World)(hq:In q)(hq0:q≠0)(hx:In x)(hix:Hid (∀j,j<ns.length-> ∀W,(Instr.indexAt 27 (.slice sl ns.length cap) (iI j)).run Tryz.prog W= .ok (.pointer (some ⟨gb,go+4*j,none⟩)) W))(hg:ns.length=0\/gb<w.heap.size)(hS:Hid (SN w gb go ns))(hn:Hid (∀k,k<ns.length->In (ns.getD k 0)))(hns:ns.length<=1000):
 CC 69 #[NV q,.slice sl ns.length cap,NV x] w (NV (hoN q x ns ns.length)):=by
 go_enter Tryz.func69,Tryz.ntmps69
 go_upto_region 1 with fail
 obtain⟨v0,hC,HB0,K0⟩:=bx3 w (LN q) 24 (LN x) 24 L0s 24
 rw[hC]
 clear hC
 refine Rp K0 HB0 [] [(1,7,L0s,some (2,[iU (0),iU (0),iU (0),iU (0)]))] [(0,9,_)] [(2,1)] [] [] (oc (g_bd zN)<|oc (g_al 0 aN)<|oc (g_sn 0 iN) on) fun u1 b1_1 HB1 _ K1=>?_
 simp only[sQ] at K1⊢
 go_upto_region 2 with fail
 refine Rn K1 HB1 (cG 0 10 [_,_,_] []) (oc g_mv<|oc (g_ln Tryz.underlying27)<|oc g_mv on) fun u2 HB2 _ K2=>?_
 simp only[sQ] at K2⊢
 go_wp2_with fail
 go_loopw [12] (fun s12 wr=> ∃(k:Nat),k<=ns.length/\s12=iI (k:Int)/\Bw w wr/\CV wr (w.heap.size) (LN q)/\w.heap.size<wr.heap.size/\CV wr (w.heap.size+1) (LN x)/\w.heap.size+1<wr.heap.size/\CV wr (w.heap.size+1+1) (L0s)/\w.heap.size+1+1<wr.heap.size/\CV wr b1_1 (LN (hoN q x ns k))/\b1_1<wr.heap.size) (fun s12 _=>ns.length -(intOf s12).toNat)
 case atStart=>exact⟨0,by omega,rfl,HB2,(K2.cv 0),(K2.lt 0),(K2.cv 1),(K2.lt 1),(K2.cv 2),(K2.lt 2),(K2.cv 3),(K2.lt 3)⟩
 case round=>
  obtain⟨k,hk,rfl,HBr,C0,l0,C1,l1,C2,l2,C3,l3⟩:=hrel
  have hnK:=K2.n
  simp at hnK
  have hoK3:=K2.lo 3
  by_cases hj:k<ns.length
  ·have hl:decide ((k:Int)<(ns.length:Int))=true:=by simp;omega
   have ik:In (hoN q x ns k):=hoN_In hq hq0 k
   have hjn:ns.length -1 -k<ns.length:=by omega
   have iy:=hn.out _ hjn
   have hX:=hix.out _ hjn
   have hX:Hid _:=hX
   have hR:=hS.out.at _ hjn
   have hR:Hid _:=hR
   have hn2:Hid (hoN q x ns (k+1)=(hoN q x ns k*x%q+ns.getD (ns.length -1 -k) 0)%q):=rfl
   obtain⟨y,ey⟩: ∃y,ns.getD (ns.length -1 -k) 0=y:=⟨_,rfl⟩
   obtain⟨z,ez⟩: ∃z,hoN q x ns k=z:=⟨_,rfl⟩
   rw[ey] at iy hR hn2
   rw[ez] at ik C3 hn2
   clear ey ez
   obtain⟨j,ej⟩: ∃j,ns.length -1 -k=j:=⟨_,rfl⟩
   rw[ej] at hX hR hjn
   have hjk:(ns.length:Int) -1 -k=(j:Int):=by omega
   have EJ:Hid _:=ej
   have HJ:Hid _:=hjk
   clear ej hjk
   have K2_1:Bk w.heap.size wr [(false,w.heap.size,LN q),(false,w.heap.size+1,LN x),(true,w.heap.size+1+1,L0s),(true,b1_1,LN z)]:=⟨.c l0 C0<| .c l1 C1<| .o l2 (K2.lo 2) C2<| .o l3 (K2.lo 3) C3<|trivial,by simp<;>omega⟩
   go_upto_region 3 with fail
   refine Rn K2_1 HBr [(0,13,_)] (oc (g_bn (fun uZ=>Z6 _ _ (k:Int) (ns.length:Int) _ uZ hl)) on) fun u3 HB3 sz3 K3=>?_
   simp only[sQ] at K3⊢
   go_upto_region 4 with fail
   refine Rn K3 HB3 [(0,14,_),(1,8,_)] (oc g_mv<|oc g_as on) fun u4 HB4 sz4 K4=>?_
   simp only[sQ] at K4⊢
   go_upto_region 5 with fail
   refine Rp K4 HB4 [.no,.no,.no,.all 7 (LN (z*x%q))] [] (cG 0 16 [_,_,_,_] [(4,15,_),(5,20,_),(6,21,_)]) [(7,0)] [] [] (oc (g_ld 3 uN iN)<|oc (g_ld 1 uN iN)<|oc (g_ld 0 uN iN)<|oc (g_cl Vo (fun uZ=>mMul z x q uZ ik hx hq hq0))<|oc g_mv<|oc g_ex<|oc g_ex<|oc (g_st 3 iN) on) fun u5 HB5 _ K5=>?_
   simp only[sQ] at K5⊢
   go_upto_region 6 with fail
   refine Rd K5 HB5 [.no,.no,.no,.all 14 (LN ((z*x%q+y)%q))] [] (cG 0 23 [_,_,_,_,_,_,_,_,_,_,_] [(11,22,_),(12,34,_),(13,35,_)]) [(14,0)] [] [] (oc (g_ld 3 uN iN)<|oc g_mv<|oc g_mv<|oc (g_ln Tryz.underlying27)<|oc (g_bn (fun uZ=>X8 _ _ (ns.length:Int) 1 _ uZ rfl (by omega) (by omega)))<|oc g_mv<|oc (g_bn (fun uZ=>X8 _ _ ((ns.length:Int) -1) (k:Int) _ uZ HJ.out (by omega) (by omega)))<|oc (g_ix hX.out)<|oc (g_lf hR.out (hg.resolve_left (by omega)) uN iN)<|oc (g_ld 0 uN iN)<|oc (g_cl ent_mod_Add (fun uZ=>mAdd (z*x%q) y q uZ (Zi hq hq0) iy hq hq0))<|oc g_mv<|oc g_ex<|oc g_ex<|oc (g_st 3 iN) on) fun u6 HB6 _ K6=>?_
   simp only[sQ] at K6⊢
   go_upto_region 7 with fail
   refine Rp K6 HB6 [] [] [(0,36,_),(1,12,_)] [(1,0)] [(1,12)] [] (oc (g_bn (fun uZ=>Zm _ _ (k:Int) 1 ((k+1:Nat):Int) uZ (by omega) (by omega) (by omega)))<|oc g_mv on) fun u7 HB7 _ K7=>?_
   simp only[sQ] at K7⊢
   go_wp2
   refine⟨⟨k+1,by omega,rfl,HB7,(K7.cv 0),(K7.lt 0),(K7.cv 1),(K7.lt 1),(K7.cv 2),(K7.lt 2),by rw[hn2.out];exact(K7.cv 3),(K7.lt 3)⟩,?_⟩
   simp[intOf]<;>omega
  ·have hl:decide ((k:Int)<(ns.length:Int))=false:=by simp;omega
   have hkn:k=ns.length:=by omega
   have K2_1:Bk w.heap.size wr [(false,w.heap.size,LN q),(false,w.heap.size+1,LN x),(true,w.heap.size+1+1,L0s),(true,b1_1,LN (hoN q x ns k))]:=⟨.c l0 C0<| .c l1 C1<| .o l2 (K2.lo 2) C2<| .o l3 (K2.lo 3) C3<|trivial,by simp<;>omega⟩
   go_upto_region 3 with fail
   refine Rn K2_1 HBr [(0,13,_)] (oc (g_bn (fun uZ=>Z6 _ _ (k:Int) (ns.length:Int) _ uZ hl)) on) fun u3 HB3 sz3 K3=>?_
   simp only[sQ] at K3⊢
   go_upto_region 8 with fail
   refine Rp K3 HB3 [.no,.no,.all 1 (LN (hoN q x ns k))] [] [(0,37,_)] [] [] [] (oc (g_ld 3 uN iN)<|oc (g_st 2 iN) on) fun u4 HB4 sz4 K4=>?_
   simp only[sQ] at K4⊢
   have c6:=(K4.cv 2).n4
   go_wp2
   refine bodyPost_ret (v:=NV (hoN q x ns k)) (by simp[results,Tryz.results69,go_sem,c6]) rfl ⟨by rw[hkn],HB4⟩
theorem Xw:EnT 137:=fun _ _=>by kernel_rfl
theorem Y8:EnT 108:=fun _ _=>by kernel_rfl
theorem Va(q:Int)(i:Nat)(sl:Option Addr)(gb go cap:Nat)(ns:List Int)(w:World)(hq:In q)(hq0:q≠0)(hi:i<ns.length)(hix:Hid (∀j,j<ns.length-> ∀W,(Instr.indexAt 27 (.slice sl ns.length cap) (iI j)).run Tryz.prog W= .ok (.pointer (some ⟨gb,go+4*j,none⟩)) W))(hg:ns.length=0\/gb<w.heap.size)(hS:Hid (SN w gb go ns))(hn:Hid (∀k,k<ns.length->In (ns.getD k 0)))(hns:ns.length<=1000):
 CC 106 #[NV q,iI (i:Int),.slice sl ns.length cap] w (NV (dsN q ns i ns.length)):=by
 go_enter Tryz.func106,Tryz.ntmps106
 go_upto_region 1 with fail
 obtain⟨v0,hC,HB0,K0⟩:=bx2 w (LN q) 24 L0s 24
 rw[hC]
 clear hC
 refine Rp K0 HB0 [] [(1,7,L0s,some (2,LN 1))] [(0,10,_)] [(2,1)] [] [] (oc (g_cl Z7 (fun uZ=>nOf 1 uZ (by omega) (by omega)))<|oc (g_al 0 aN)<|oc (g_sn 0 iN) on) fun u1 b1_1 HB1 _ K1=>?_
 simp only[sQ] at K1⊢
 go_upto_region 2 with fail
 refine Rn K1 HB1 (cG 0 11 [_,_,_] []) (oc g_mv<|oc (g_ln Tryz.underlying27)<|oc g_mv on) fun u2 HB2 _ K2=>?_
 simp only[sQ] at K2⊢
 go_wp2_with fail
 go_loopw [13] (fun s13 wr=> ∃(k:Nat),k<=ns.length/\s13=iI (k:Int)/\Bw w wr/\CV wr (w.heap.size) (LN q)/\w.heap.size<wr.heap.size/\CV wr (w.heap.size+1) (L0s)/\w.heap.size+1<wr.heap.size/\CV wr b1_1 (LN (dsN q ns i k))/\b1_1<wr.heap.size) (fun s13 _=>ns.length -(intOf s13).toNat)
 case atStart=>exact⟨0,by omega,rfl,HB2,(K2.cv 0),(K2.lt 0),(K2.cv 1),(K2.lt 1),(K2.cv 2),(K2.lt 2)⟩
 case round=>
  obtain⟨k,hk,rfl,HBr,C0,l0,C1,l1,C2,l2⟩:=hrel
  have hnK:=K2.n
  simp at hnK
  have hoK2:=K2.lo 2
  by_cases hj:k<ns.length
  ·have hl:decide ((k:Int)<(ns.length:Int))=true:=by simp;omega
   have ik:In (dsN q ns i k):=dsN_In hq hq0 k
   have iy:=hn.out _ hj
   have hX:=hix.out _ hj
   have hX:Hid _:=hX
   have hR:=hS.out.at _ hj
   have hR:Hid _:=hR
   have hXi:=hix.out _ hi
   have hXi:Hid _:=hXi
   have hRi:=hS.out.at _ hi
   have hRi:Hid _:=hRi
   have iz:=hn.out _ hi
   have hn2:Hid (dsN q ns i (k+1)=if k=i then dsN q ns i k else (dsN q ns i k*((ns.getD i 0 -ns.getD k 0)%q))%q):=rfl
   obtain⟨y,ey⟩: ∃y,ns.getD k 0=y:=⟨_,rfl⟩
   obtain⟨x,ex⟩: ∃x,ns.getD i 0=x:=⟨_,rfl⟩
   obtain⟨z,ez⟩: ∃z,dsN q ns i k=z:=⟨_,rfl⟩
   rw[ey] at iy hR hn2
   rw[ex] at iz hRi hn2
   rw[ez] at ik C2 hn2
   clear ey ez ex
   by_cases hki:k=i
   ·have hne:((k:Int) !=(i:Int))=false:=by simp;omega
    have hn2:Hid _:=hn2.out.trans (if_pos hki)
    have HK:Hid _:=hki
    clear hki
    have K2_1:Bk w.heap.size wr [(false,w.heap.size,LN q),(true,w.heap.size+1,L0s),(true,b1_1,LN z)]:=⟨.c l0 C0<| .o l1 (K2.lo 1) C1<| .o l2 (K2.lo 2) C2<|trivial,by simp<;>omega⟩
    go_upto_region 3 with fail
    refine Rn K2_1 HBr [(0,14,_)] (oc (g_bn (fun uZ=>Z6 _ _ (k:Int) (ns.length:Int) _ uZ hl)) on) fun u3 HB3 sz3 K3=>?_
    simp only[sQ] at K3⊢
    go_upto_region 4 with fail
    refine Rp K3 HB3 [] [(3,9,L0s,some (5,LN y))] (cG 0 15 [_,_,_] [(4,8,_)]) [(5,3)] [] [true,true,true,false] (oc g_mv<|oc (g_ix hX.out)<|oc (g_lf hR.out (hg.resolve_left (by omega)) uN iN)<|oc (g_al 0 aN)<|oc g_as<|oc (g_sn 0 iN) on) fun u4 b4_3 HB4 sz4 K4=>?_
    simp only[sQ] at K4⊢
    go_upto_region 5 with fail
    refine Rn K4 HB4 (cG 0 18 [_,_,_] []) (oc g_mv<|oc g_mv<|oc (g_bn (fun uZ=>Zw _ _ _ (k:Int) (i:Int) _ uZ hne)) on) fun u5 HB5 sz5 K5=>?_
    simp only[sQ] at K5⊢
    go_upto_region 7 with fail
    refine Rp K5 HB5 [] [] [(0,31,_),(1,13,_)] [(1,0)] [(1,13)] [] (oc (g_bn (fun uZ=>Zm _ _ (k:Int) 1 ((k+1:Nat):Int) uZ (by omega) (by omega) (by omega)))<|oc g_mv on) fun u6 HB6 sz6 K6=>?_
    simp only[sQ] at K6⊢
    go_wp2
    refine⟨⟨k+1,by omega,rfl,HB6,(K6.cv 0),(K6.lt 0),(K6.cv 1),(K6.lt 1),by rw[hn2.out];exact(K6.cv 2),(K6.lt 2)⟩,?_⟩
    simp[intOf]<;>omega
   ·have hne:((k:Int) !=(i:Int))=true:=by simp;omega
    have hn2:Hid _:=hn2.out.trans (if_neg hki)
    have HK:Hid _:=hki
    clear hki
    have K2_1:Bk w.heap.size wr [(false,w.heap.size,LN q),(true,w.heap.size+1,L0s),(true,b1_1,LN z)]:=⟨.c l0 C0<| .o l1 (K2.lo 1) C1<| .o l2 (K2.lo 2) C2<|trivial,by simp<;>omega⟩
    go_upto_region 3 with fail
    refine Rn K2_1 HBr [(0,14,_)] (oc (g_bn (fun uZ=>Z6 _ _ (k:Int) (ns.length:Int) _ uZ hl)) on) fun u3 HB3 sz3 K3=>?_
    simp only[sQ] at K3⊢
    go_upto_region 4 with fail
    refine Rp K3 HB3 [] [(3,9,L0s,some (5,LN y))] (cG 0 15 [_,_,_] [(4,8,_)]) [(5,3)] [] [] (oc g_mv<|oc (g_ix hX.out)<|oc (g_lf hR.out (hg.resolve_left (by omega)) uN iN)<|oc (g_al 0 aN)<|oc g_as<|oc (g_sn 0 iN) on) fun u4 b4_3 HB4 sz4 K4=>?_
    simp only[sQ] at K4⊢
    go_upto_region 5 with fail
    refine Rn K4 HB4 (cG 0 18 [_,_,_] []) (oc g_mv<|oc g_mv<|oc (g_bn (fun uZ=>Zw _ _ _ (k:Int) (i:Int) _ uZ hne)) on) fun u5 HB5 sz5 K5=>?_
    simp only[sQ] at K5⊢
    go_upto_region 6 with fail
    refine Rd K5 HB5 [.no,.no,.all 10 (LN (z*((x -y)%q)%q))] [] (cG 0 21 [_,_,_,_,_,_,_,_,_,_] []) [(10,1)] [] [true,true,true,false] (oc (g_ld 0 uN iN)<|oc (g_ld 2 uN iN)<|oc (g_ld 0 uN iN)<|oc g_mv<|oc g_mv<|oc (g_ix hXi.out)<|oc (g_lf hRi.out (hg.resolve_left (by omega)) uN iN)<|oc (g_ld 3 uN iN)<|oc (g_cl Xw (fun uZ=>pMinus q x y uZ iz iy hq hq0))<|oc (g_cl Y8 (fun uZ=>pTimes q z ((x -y)%q) uZ ik (Zi hq hq0) hq hq0))<|oc (g_st 2 iN) on) fun u6 HB6 sz6 K6=>?_
    simp only[sQ] at K6⊢
    go_upto_region 7 with fail
    refine Rp K6 HB6 [] [] [(0,31,_),(1,13,_)] [(1,0)] [(1,13)] [] (oc (g_bn (fun uZ=>Zm _ _ (k:Int) 1 ((k+1:Nat):Int) uZ (by omega) (by omega) (by omega)))<|oc g_mv on) fun u7 HB7 _ K7=>?_
    simp only[sQ] at K7⊢
    go_wp2
    refine⟨⟨k+1,by omega,rfl,HB7,(K7.cv 0),(K7.lt 0),(K7.cv 1),(K7.lt 1),by rw[hn2.out];exact(K7.cv 2),(K7.lt 2)⟩,?_⟩
    simp[intOf]<;>omega
  ·have hl:decide ((k:Int)<(ns.length:Int))=false:=by simp;omega
   have hkn:k=ns.length:=by omega
   have K2_1:Bk w.heap.size wr [(false,w.heap.size,LN q),(true,w.heap.size+1,L0s),(true,b1_1,LN (dsN q ns i k))]:=⟨.c l0 C0<| .o l1 (K2.lo 1) C1<| .o l2 (K2.lo 2) C2<|trivial,by simp<;>omega⟩
   go_upto_region 3 with fail
   refine Rn K2_1 HBr [(0,14,_)] (oc (g_bn (fun uZ=>Z6 _ _ (k:Int) (ns.length:Int) _ uZ hl)) on) fun u3 HB3 sz3 K3=>?_
   simp only[sQ] at K3⊢
   go_upto_region 8 with fail
   refine Rp K3 HB3 [.no,.all 1 (LN (dsN q ns i k))] [] [(0,32,_)] [] [] [] (oc (g_ld 2 uN iN)<|oc (g_st 1 iN) on) fun u4 HB4 sz4 K4=>?_
   simp only[sQ] at K4⊢
   have c6:=(K4.cv 1).n4
   go_wp2
   refine bodyPost_ret (v:=NV (dsN q ns i k)) (by simp[results,Tryz.results106,go_sem,c6]) rfl ⟨by rw[hkn],HB4⟩
end
section
section
section ring
variable {R:Type} [Lean.Grind.CommRing R]
def pP(t:R):List (R×R)->R
 | []=>1
 | p::l=>(t -p.1)*pP t l
def evPR:List R->R->R
 | [],_=>0
 | c::l,x=>c+x*evPR l x
end ring
end
end
section
open Go.RowKit
abbrev PtE(x y:Int):List Value:=[iU (D0 x),iU (D1 x),iU (D2 x),iU (D3 x),iU (D0 y),iU (D1 y),iU (D2 y),iU (D3 y)]
abbrev PtX(x y:Int):Value:= .agg #[iU (D0 x),iU (D1 x),iU (D2 x),iU (D3 x),iU (D0 y),iU (D1 y),iU (D2 y),iU (D3 y)]
abbrev L0p:List Value:=[iU 0,iU 0,iU 0,iU 0,iU 0,iU 0,iU 0,iU 0]
abbrev BE(q:Int)(vx vd:Value):List Value:=[iU (D0 q),iU (D1 q),iU (D2 q),iU (D3 q),vx,vd]
abbrev BX(q:Int)(vx vd:Value):Value:= .agg #[iU (D0 q),iU (D1 q),iU (D2 q),iU (D3 q),vx,vd]
abbrev L0b:List Value:=[iU 0,iU 0,iU 0,iU 0,.slice none 0 0,.slice none 0 0]
theorem al_poly_Point(w:World):(Instr.alloc 102 true (.tuple #[])).run Tryz.prog w= .ok (.pointer (some ⟨w.heap.size,0,none⟩)) (w.alloc (.cells L0p.toArray 102)):=by kernel_rfl
theorem Wu:(Tryz.prog.info? 102).map (·.size)=some 8:=by kernel_rfl
theorem al_poly_base(w:World):(Instr.alloc 105 true (.tuple #[])).run Tryz.prog w= .ok (.pointer (some ⟨w.heap.size,0,none⟩)) (w.alloc (.cells L0b.toArray 105)):=by kernel_rfl
theorem Yw:(Tryz.prog.info? 105).map (·.size)=some 6:=by kernel_rfl
theorem fdP0(b o:Nat)(w:World):(Instr.fieldAt 102 (.pointer (some ⟨b,o,none⟩)) 0).run Tryz.prog w= .ok (.pointer (some ⟨b,o,none⟩)) w:=by go_simp
theorem fdP1(b o:Nat)(w:World):(Instr.fieldAt 102 (.pointer (some ⟨b,o,none⟩)) 1).run Tryz.prog w= .ok (.pointer (some ⟨b,o+4,none⟩)) w:=by go_simp
theorem fdB0(b:Nat)(w:World):(Instr.fieldAt 105 (.pointer (some ⟨b,0,none⟩)) 0).run Tryz.prog w= .ok (.pointer (some ⟨b,0,none⟩)) w:=by go_simp
theorem fdB1(b:Nat)(w:World):(Instr.fieldAt 105 (.pointer (some ⟨b,0,none⟩)) 1).run Tryz.prog w= .ok (.pointer (some ⟨b,4,none⟩)) w:=by go_simp
theorem fdB2(b:Nat)(w:World):(Instr.fieldAt 105 (.pointer (some ⟨b,0,none⟩)) 2).run Tryz.prog w= .ok (.pointer (some ⟨b,5,none⟩)) w:=by go_simp
theorem lSN{b c n cap:Nat}{sl:Option Addr}(w:World)(h:w.cell? ⟨b,c,none⟩=some (.slice sl n cap)):(Instr.loadAt 27 (.pointer (some ⟨b,c,none⟩))).run Tryz.prog w= .ok (.slice sl n cap) w:=by go_simp
theorem bdB(q:Int)(s1 s2:Option Addr)(n1 c1 n2 c2:Nat)(w:World):(Instr.build 105 [(0,NV q),(1,.slice s1 n1 c1),(2,.slice s2 n2 c2)].toArray).run Tryz.prog w= .ok (BX q (.slice s1 n1 c1) (.slice s2 n2 c2)) w:=by kernel_rfl
theorem ixZ(g n cap j:Nat)(h:j<n)(w:World):(Instr.indexAt 27 (.slice (some ⟨g,0,none⟩) n cap) (iI j)).run Tryz.prog w= .ok (.pointer (some ⟨g,4*j,none⟩)) w:=by
 have:=ixS g 0 n cap j h w
 rwa [Nat.zero_add] at this
theorem ixP(g o n cap j:Nat)(h:j<n)(w:World):(Instr.indexAt 73 (.slice (some ⟨g,o,none⟩) n cap) (iI j)).run Tryz.prog w= .ok (.pointer (some ⟨g,o+8*j,none⟩)) w:=by
 have hj:(j:Int)<n:=by omega
 go_simp
 all_goals first | omega | (simp[Addr.add];omega) | simp[Addr.add,Nat.mul_comm]
def rowN(vs:List Int)(k:Nat):List Int:=vs.take k++List.replicate (vs.length -k) 0
theorem rowN_0(vs:List Int):rowN vs 0=List.replicate vs.length 0:=by simp[rowN]
theorem Vw(vs:List Int):rowN vs vs.length=vs:=by simp[rowN]
theorem Xd{vs:List Int}{k:Nat}(h:k<vs.length):flN (rowN vs k)=flN (vs.take k)++LN 0++flN (List.replicate (vs.length -(k+1)) 0):=by
 rw[rowN,show vs.length -k=(vs.length -(k+1))+1 by omega,List.replicate_succ,Wc,flN,List.append_assoc]
theorem Xy{vs:List Int}{k:Nat}(h:k<vs.length):flN (rowN vs (k+1))=flN (vs.take k)++LN (vs.getD k 0)++flN (List.replicate (vs.length -(k+1)) 0):=by
 rw[rowN,Wc,List.take_add_one,List.getElem?_eq_getElem h,Wc]
 simp[flN,List.getElem?_eq_getElem h]
theorem V4{vs:List Int}{k:Nat}(h:k<vs.length):(flN (vs.take k)).length=4*k:=by
 rw[Wb,List.length_take];omega
theorem infoNt:(Tryz.prog.info? 24).map (fun i=>(i.zero,i.size,i.bytes))=some (some (A4 0 0 0 0),4,32):=by kernel_rfl
theorem infoPt:(Tryz.prog.info? 102).map (fun i=>(i.zero,i.size,i.bytes))=some (some (.agg #[iU 0,iU 0,iU 0,iU 0,iU 0,iU 0,iU 0,iU 0]),8,64):=by kernel_rfl
theorem flN_zero: ∀n,flN (List.replicate n 0)=List.replicate (4*n) (iU 0)
 | 0=>rfl
 | n+1=>by
  rw[List.replicate_succ,flN,flN_zero n,show 4*(n+1)=4*n+1+1+1+1 by omega,List.replicate_succ,List.replicate_succ,List.replicate_succ,List.replicate_succ]
  have h0:D0 0=0:=by simp[D0]
  have h1:D1 0=0:=by simp[D1]
  have h2:D2 0=0:=by simp[D2]
  have h3:D3 0=0:=by simp[D3]
  rw[LN,h0,h1,h2,h3];rfl
theorem mkNt(n:Nat)(hn:n<=1000)(w:World):(Instr.makeSlice 27 (iI (n:Int)) (iI (n:Int))).run Tryz.prog w= .ok (.slice (some ⟨w.heap.size,0,none⟩) n n) (w.alloc (.cells (flN (List.replicate n 0)).toArray 24)):=by
 obtain⟨i,hi,hi2⟩:=Option.map_eq_some_iff.1 infoNt
 simp only[Prod.mk.injEq] at hi2
 obtain⟨hz,hs,hb⟩:=hi2
 have:=run_makeSlice (P:=Tryz.prog) w 27 24 i (A4 0 0 0 0) Tryz.underlying27 hi hz .i64 .i64 n n (by omega) (by omega) (by rw[hs];omega) (by rw[hb];omega) (by omega)
 rw[this,hs,flN_zero]
 simp only[Int.toNat_natCast]
 congr 3
 apply Array.ext'
 simp[madeCells,Value.cells,A4]
 apply List.ext_getElem
 ·simp;omega
 ·intro j h1 h2
  simp
  have:j%4<4:=Nat.mod_lt _ (by omega)
  generalize j%4=m at *
  match m,this with
  | 0,_=>rfl
  | 1,_=>rfl
  | 2,_=>rfl
  | 3,_=>rfl
def PRw(lo:Nat)(ns:List Int)(u:World)(v:Value):Prop:= ∃b,v= .slice (some ⟨b,0,none⟩) ns.length ns.length/\lo<=b/\b<u.heap.size/\CV u b (flN ns)
theorem PRw.stab{lo:Nat}{ns:List Int}{u u2:World}{x:Value}(hB:Bw u u2)(h:PRw lo ns u x):PRw lo ns u2 x:=by
 obtain⟨b,e,h1,h2,h3⟩:=h
 exact⟨b,e,h1,Nat.lt_of_lt_of_le h2 hB.size,h3.below hB h2⟩
theorem PRw.nl{lo:Nat}{ns:List Int}{u:World}{v:Value}(h:PRw lo ns u v):NL u v ns:=by
 obtain⟨b,e,h1,h2,h3⟩:=h
 exact⟨_,b,0,_,e,Nat.le_refl _,(by simp),.inr rfl,.inr h2,fun j v hj=>by rw[Nat.zero_add];exact(h3 j v hj).1⟩
def flt:List (Int×Int)->List Int
 | []=>[]
 | p::l=>p.1::p.2::flt l
theorem Vl: ∀l,(flt l).length=2*l.length
 | []=>rfl
 | p::l=>by rw[flt,List.length_cons,List.length_cons,Vl l,List.length_cons];omega
def PtL(u:World)(v:Value)(ps:List (Int×Int)):Prop:= ∃sl gb go cap,v= .slice sl ps.length cap/\ps.length<=cap/\(sl=none->cap=0)/\(ps=[]\/sl=some ⟨gb,go,none⟩)/\(ps.length=0\/gb<u.heap.size)/\SN u gb go (flt ps)
theorem PtL.up{w u:World}{v:Value}{ps:List (Int×Int)}(h:PtL w v ps)(hB:Bw w u):PtL u v ps:=by
 obtain⟨sl,gb,go,cap,h1,h2,h3,h4,h5,h6⟩:=h
 refine⟨sl,gb,go,cap,h1,h2,h3,h4,h5.imp id fun e=>Nat.lt_of_lt_of_le e hB.size,?_⟩
 rcases h5 with h5 | h5
 ·exact SN.empty (by rw[Vl];omega)
 ·exact h6.below hB h5
def PRp(lo:Nat)(ps:List (Int×Int))(u:World)(v:Value):Prop:= ∃b,v= .slice (some ⟨b,0,none⟩) ps.length ps.length/\lo<=b/\b<u.heap.size/\CV u b (flN (flt ps))
theorem PRp.stab{lo:Nat}{ps:List (Int×Int)}{u u2:World}{x:Value}(hB:Bw u u2)(h:PRp lo ps u x):PRp lo ps u2 x:=by
 obtain⟨b,e,h1,h2,h3⟩:=h
 exact⟨b,e,h1,Nat.lt_of_lt_of_le h2 hB.size,h3.below hB h2⟩
theorem PRp.pl{lo:Nat}{ps:List (Int×Int)}{u:World}{v:Value}(h:PRp lo ps u v):PtL u v ps:=by
 obtain⟨b,e,h1,h2,h3⟩:=h
 exact⟨_,b,0,_,e,Nat.le_refl _,(by simp),.inr rfl,.inr h2,fun j v hj=>by rw[Nat.zero_add];exact(h3 j v hj).1⟩
theorem flt_at: ∀(ps:List (Int×Int)) (j:Nat),j<ps.length->flN (flt ps)=flN (flt (ps.take j))++PtE (ps.getD j (0,0)).1 (ps.getD j (0,0)).2++flN (flt (ps.drop (j+1)))
 | [],j,h=>by simp at h
 | p::l,0,h=>by simp[flt,flN]
 | p::l,j+1,h=>by
  have:=flt_at l j (by simpa using h)
  simp only[List.take_succ_cons,List.drop_succ_cons,List.getD_cons_succ,flt,flN,this,List.append_assoc]
theorem flt_pre{ps:List (Int×Int)}{j:Nat}(h:j<=ps.length):(flN (flt (ps.take j))).length=8*j:=by
 rw[Wb,Vl,List.length_take];omega
theorem mid_at{xs ys zs:List Value}{c:Nat}(h:xs.length=c): ∀j v,ys[j]?=some v->(xs++ys++zs)[c+j]?=some v:=fun j v hj=>by
 have hl:j<ys.length:=(List.getElem?_eq_some_iff.1 hj).1
 rw[List.append_assoc,List.getElem?_append_right (by omega),<-h,Nat.add_sub_cancel_left,List.getElem?_append_left hl];exact hj
theorem SN.pt{w:World}{g o:Nat}{ps:List (Int×Int)}(h:SN w g o (flt ps))(j:Nat)(hj:j<ps.length):w.rangeAt g (o+8*j) (PtE (ps.getD j (0,0)).1 (ps.getD j (0,0)).2):=fun c v hc=>by
 have:=h (8*j+c) v (by rw[flt_at ps j hj];exact mid_at (flt_pre (by omega)) c v hc)
 rwa [<-Nat.add_assoc] at this
theorem SN.ptY{w:World}{g o:Nat}{ps:List (Int×Int)}(h:SN w g o (flt ps))(j:Nat)(hj:j<ps.length):w.rangeAt g (o+8*j+4) (LN (ps.getD j (0,0)).2):=fun c v hc=>by
 have:=h.pt j hj (4+c) v (by
  match c,hc with
  | 0,hc=>exact hc
  | 1,hc=>exact hc
  | 2,hc=>exact hc
  | 3,hc=>exact hc)
 rwa [<-Nat.add_assoc] at this
theorem allX_core(sl:Option Addr)(gb go cap:Nat)(ps:List (Int×Int))(xs:List Int)(w:World)(hxl:Hid (xs.length=ps.length))(hxs:Hid (∀k,k<ps.length->xs.getD k 0=(ps.getD k (0,0)).1))(hix:Hid (∀j,j<ps.length-> ∀W,(Instr.indexAt 73 (.slice sl ps.length cap) (iI j)).run Tryz.prog W= .ok (.pointer (some ⟨gb,go+8*j,none⟩)) W))(hg:ps.length=0\/gb<w.heap.size)(hS:Hid (SN w gb go (flt ps)))(hns:ps.length<=1000):
 Calls Tryz.prog 78 #[.slice sl ps.length cap] w fun e' w'=> ∃y,e'= .returned y/\PRw w.heap.size xs w' y/\Bw w w':=by
 have hmk:=mkNt ps.length hns
 go_enter Tryz.func78,Tryz.ntmps78
 go_wp2_with fail
 go_loopw [11] (fun s11 wr=> ∃(k:Nat),k<=ps.length/\s11=iI (k:Int)/\Bw w wr/\CV wr (w.heap.size) (flN (rowN xs k))/\w.heap.size<wr.heap.size) (fun s11 _=>ps.length -(intOf s11).toNat)
 case atStart=>exact⟨0,by omega,rfl,Z1 (Z5 w) _,by rw[rowN_0,hxl.out];exact CV.new w _ _,by simp⟩
 case round=>
  obtain⟨k,hk,rfl,HBr,C0,lC0⟩:=hrel
  by_cases hj:k<ps.length
  ·have hl:decide ((k:Int)<(ps.length:Int))=true:=by simp;omega
   have hkx:k<xs.length:=by rw[hxl.out];exact hj
   have hX:=hix.out _ hj
   have hX:Hid _:=hX
   have hR:=hS.out.pt _ hj
   have hR:Hid _:=hR
   have hv:=hxs.out k hj
   obtain⟨y,ey⟩: ∃y,(ps.getD k (0,0)).2=y:=⟨_,rfl⟩
   obtain⟨x,ex⟩: ∃x,(ps.getD k (0,0)).1=x:=⟨_,rfl⟩
   rw[ey,ex] at hR
   rw[ex] at hv
   clear ey ex
   have hXL:=V4 (vs:=xs) (k:=k) (by omega)
   have hNx:=Xy (vs:=xs) (k:=k) (by omega)
   rw[Xd (vs:=xs) (k:=k) (by omega)] at C0
   obtain⟨X,eX⟩: ∃X,flN (List.take k xs)=X:=⟨_,rfl⟩
   obtain⟨Z,eZ⟩: ∃Z,flN (List.replicate (List.length xs -(k+1)) 0)=Z:=⟨_,rfl⟩
   rw[eX] at hXL hNx C0
   rw[eZ] at hNx C0
   clear eX eZ
   rw[hv] at hNx
   clear hv hkx
   have hXL:Hid _:=hXL
   have hNx:Hid _:=hNx
   have K0_1:Bk w.heap.size wr [(true,w.heap.size,X++LN 0++Z)]:=⟨.o lC0 (by omega) C0<|trivial,by simp⟩
   go_upto_region 3 with fail
   refine Rn K0_1 HBr [(0,12,_)] (oc (g_bn (fun uZ=>Z6 _ _ (k:Int) (ps.length:Int) _ uZ hl)) on) fun u1 HB1 sz1 K1=>?_
   simp only[sQ] at K1⊢
   go_upto_region 4 with fail
   refine Rp K1 HB1 [] [(3,5,L0p,some (5,PtE x y))] (cG 0 13 [_,_,_] [(4,4,_)]) [(5,3)] [] [] (oc g_mv<|oc (g_ix hX.out)<|oc (g_lf hR.out (hg.resolve_left (by omega)) Tryz.underlying102 Wu)<|oc (g_al 0 al_poly_Point)<|oc g_as<|oc (g_sn 0 Wu) on) fun u2 b2_3 HB2 sz2 K2=>?_
   simp only[sQ] at K2⊢
   go_upto_region 5 with fail
   refine Rp K2 HB2 [.all 5 (X++LN x++Z)] [] (cG 0 16 [_,_,_,_,_] []) [] [] [true,false] (oc g_mv<|oc g_mv<|oc (g_fd (fdP0 _ 0))<|oc (g_lo 1 0 uN iN)<|oc (g_ix (ixZ _ _ _ k hj))<|oc (g_sm 0 (4*k) X (LN 0) Z (post:=LN x) (hxc:=hXL.out) iN) on) fun u3 HB3 _ K3=>?_
   simp only[sQ] at K3⊢
   go_upto_region 6 with fail
   refine Rp K3 HB3 [] [] [(0,21,_),(1,11,_)] [(1,0)] [(1,11)] [] (oc (g_bn (fun uZ=>Zm _ _ (k:Int) 1 ((k+1:Nat):Int) uZ (by omega) (by omega) (by omega)))<|oc g_mv on) fun u4 HB4 _ K4=>?_
   simp only[sQ] at K4⊢
   go_wp2
   refine⟨⟨k+1,by omega,rfl,HB4,by rw[hNx.out];exact(K4.cv 0),(K4.lt 0)⟩,?_⟩
   simp[intOf]<;>omega
  ·have hl:decide ((k:Int)<(ps.length:Int))=false:=by simp;omega
   have hkn:k=ps.length:=by omega
   have K0_1:Bk w.heap.size wr [(true,w.heap.size,flN (rowN xs k))]:=⟨.o lC0 (by omega) C0<|trivial,by simp⟩
   go_upto_region 3 with fail
   refine Rn K0_1 HBr [(0,12,_)] (oc (g_bn (fun uZ=>Z6 _ _ (k:Int) (ps.length:Int) _ uZ hl)) on) fun u1 HB1 sz1 K1=>?_
   simp only[sQ] at K1⊢
   go_upto_region 7 with fail
   refine Rn K1 HB1 [(0,22,_),(1,2,_)] (oc g_mv<|oc g_as on) fun u2 HB2 sz2 K2=>?_
   simp only[sQ] at K2⊢
   go_wp2
   exact bodyPost_ret (v:= .slice (some ⟨w.heap.size,0,none⟩) ps.length ps.length) (by simp[results,Tryz.results78,go_sem]) rfl ⟨_,rfl,⟨w.heap.size,by rw[hxl.out],Nat.le_refl _,(K2.lt 0),by rw[<-Vw xs,hxl.out,<-hkn];exact(K2.cv 0)⟩,HB2⟩
section
section
variable {R:Rg} {P:Program} {Q:Exit->Act->World->Prop} {ops:Array Oper} {i:Nat} {o:Oper} {a:Act} {u:World}
theorem wp_mS{K:Act->World->Prop}{T:TypeId}{x y:Operand}{vx vy v:Value}{w':World}(ho:o.op= .makeSlice T x y)(hx:a.eval x=vx)(hy:a.eval y=vy)(hr:(Instr.makeSlice T vx vy).run P u= .ok v w')(hk:K (a.put o.dst v) w'):o.wp P a u K Q:=
 Yb (by
  unfold execOp;rw[ho]
  show Sem.run P (do pure (Next.value (<-Instr.makeSlice T (a.eval x) (a.eval y)))) u=_
  rw[hx,hy,Sem.run_bind,hr,Result.andThen_ok,Sem.run_pure]) hk
theorem g_mS(n:Nat)(p:World->Value->Prop)(m:Nat)(cs:List Value){T e:TypeId}{x y:Operand}{vx vy:Value}(hr: ∀w,(Instr.makeSlice T vx vy).run P w= .ok (.slice (some ⟨w.heap.size,0,none⟩) m m) (w.alloc (.cells cs.toArray e)))(hp: ∀u:World,R.base<=u.heap.size->p (u.alloc (.cells cs.toArray e)) (.slice (some ⟨u.heap.size,0,none⟩) m m))(hop:o.op= .makeSlice T x y:=by rfl)(hx:evR R i o x=some vx:=by rfl)(hy:evR R i o y=some vy:=by rfl)(hn:(R.E[n]?).map (·.p)=some p:=by rfl)(hc:R.chkE ops n i o=true:=by rfl):OG R P ops Q i o:=fun f t u a X=>by
 obtain⟨d,q,hd,hq,_,_,_,_,_,_,_,_,hw⟩:=Zo hc
 exact X.go hw fun K hK=>wp_mS hop (X.ev hx) (X.ev hy) (hr u) (hK _ _ (X.putE hc (fun q hq=>by rw[hq] at hn;cases hn;exact hp u X.I.1.sz) (Z1 (Z5 u) _)))
end
def PRz(lo n:Nat)(u:World)(v:Value):Prop:= ∃b,v= .slice (some ⟨b,0,none⟩) n n/\lo<=b/\b<u.heap.size/\CV u b (flN (List.replicate n 0))
theorem PRz.stab{lo n:Nat}{u u2:World}{x:Value}(hB:Bw u u2)(h:PRz lo n u x):PRz lo n u2 x:=by
 obtain⟨b,e,h1,h2,h3⟩:=h
 exact⟨b,e,h1,Nat.lt_of_lt_of_le h2 hB.size,h3.below hB h2⟩
theorem PRz.new{lo n:Nat}{T:TypeId}(u:World)(h:lo<=u.heap.size):PRz lo n (u.alloc (.cells (flN (List.replicate n 0)).toArray T)) (.slice (some ⟨u.heap.size,0,none⟩) n n):=
 ⟨_,rfl,h,by simp,CV.new u _ _⟩
theorem dvd_small{m g:Int}(h:g∣1)(hg:0<=g):g=1:=by
 have h1:=Int.le_of_dvd (by omega) h
 by_cases h0:g=0
 ·subst h0;obtain⟨k,hk⟩:=h;simp at hk
 ·omega
theorem inv_gcd{a m x:Int}(h:IsInv a m x)(ha:0<=a)(hm:0<m):gI m a=1:=by
 have hg0:0<=gI m a:=by unfold gI;omega
 have hdm:gI m a∣m:=by
  have:((Nat.gcd m.toNat a.toNat:Nat):Int)∣(m.toNat:Int):=Int.natCast_dvd_natCast.2 (Nat.gcd_dvd_left _ _)
  rw[Int.toNat_of_nonneg (by omega)] at this;exact this
 have hda:gI m a∣a:=by
  have:((Nat.gcd m.toNat a.toNat:Nat):Int)∣(a.toNat:Int):=Int.natCast_dvd_natCast.2 (Nat.gcd_dvd_right _ _)
  rw[Int.toNat_of_nonneg ha] at this;exact this
 refine dvd_small (m:=m) ?_ hg0
 have h1:gI m a∣x*a -1:=Int.dvd_trans hdm h.2.2
 have h2:gI m a∣x*a:=Int.dvd_mul_of_dvd_right hda
 have:=Int.dvd_sub h2 h1
 rwa [show x*a -(x*a -1)=1 by omega] at this
def Invs(q:Int)(ns vs:List Int):Prop:=vs.length=ns.length/\ ∀i,i<ns.length->IsInv (dsN q ns i ns.length%q) q (vs.getD i 0)
end
end
end Go.Proofs.YtmoimodkopjeeaaGreatDoor
