import Derived.Test.YtgieoghechekpaaGreatDoorRG
import Derived.Test.YtgieoghechekpaaGreatDoorMQ
namespace Go.Proofs.YtgieoghechekpaaGreatDoor
set_option linter.unusedVariables false
set_option linter.unusedSimpArgs false
set_option maxRecDepth 100000
set_option maxHeartbeats 4000000
section
open Go.RowKit
def hoN(q x:Int)(ns:List Int):Nat->Int
 | 0=>0
 | i+1=>((hoN q x ns i*x)%q+ns.getD (ns.length -1 -i) 0)%q
theorem hoN_In{q x:Int}{ns:List Int}(hq:In q)(hq0:q≠0): ∀i,In (hoN q x ns i)
 | 0=>In_0
 | i+1=>Zd hq hq0
def dsN(q:Int)(ns:List Int)(i:Nat):Nat->Int
 | 0=>1
 | j+1=>if j=i then dsN q ns i j else (dsN q ns i j*((ns.getD i 0 -ns.getD j 0)%q))%q
theorem dsN_In{q:Int}{ns:List Int}{i:Nat}(hq:In q)(hq0:q≠0): ∀j,In (dsN q ns i j)
 | 0=>In_1
 | j+1=>by
  rw[dsN];split
  ·exact dsN_In hq hq0 j
  ·exact Zd hq hq0
theorem pTimes(q a b:Int)(w:World)(ha:In a)(hb:In b)(hq:In q)(hq0:q≠0):
 CC 64 #[NV q,NV a,NV b] w (NV ((a*b)%q)):=by
 go_enter Tryz.func64,Tryz.ntmps64
 go_upto_region 1 with fail
 generalize hC:((((w.alloc (.cells (LN q:List Value).toArray 24)).alloc (.cells (LN a:List Value).toArray 24)).alloc (.cells (LN b:List Value).toArray 24)).alloc (.cells (L0s:List Value).toArray 24))=v0 at *
 have HB0:Bw w v0:=by rw[<-hC];exact Z0 (Z0 (Z0 (Z0 (Z2 w) _) _) _) _
 have K0:Bk w.heap.size v0 [(true,w.heap.size,LN q),(true,w.heap.size+1,LN a),(true,w.heap.size+1+1,LN b),(true,w.heap.size+1+1+1,L0s)]:=by rw[<-hC];exact(Bk.nil _ w).ad.ad.ad.ad
 clear hC
 refine rgP K0 HB0 HB0.size [] [(7,7,L0s,some (8,LN ((a*b)%q)))] [(0,10,NV a),(1,11,NV b),(2,12,NV q),(3,13,.tuple #[NV ((a*b)%q),.int .i64 0]),(4,9,.tuple #[NV ((a*b)%q),.int .i64 0]),(5,14,NV ((a*b)%q)),(6,15,.int .i64 0),(9,8,.int .i64 0)] [(8,7)] [] [false,false,false] ?_ ?_
 ·exact oc (g_ld 1 uN iN)<|oc (g_ld 2 uN iN)<|oc (g_ld 0 uN iN)<|oc (g_cl ent_mod_Mul (fun uZ=>mMul a b q uZ ha hb hq hq0))<|oc g_mv<|oc g_ex<|oc g_ex<|oc (g_al 0 aN)<|oc (g_sn 0 iN)<|oc g_as on
 intro u1 b1_7 HB1 sz1 K1
 simp only[sQ] at K1⊢
 clear K0 HB0
 go_upto_region 2 with fail
 refine rgP K1 HB1 HB1.size [.all 1 (LN ((a*b)%q))] [] [(0,16,NV ((a*b)%q))] [] [] [true,false] ?_ ?_
 ·exact oc (g_ld 1 uN iN)<|oc (g_st 0 iN) on
 intro u2 HB2 sz2 K2
 simp only[sQ] at K2⊢
 clear K1 HB1
 have c6:=(K2.cv 0).n4
 go_wp2
 refine bodyPost_ret (v:=NV ((a*b)%q)) (by simp[results,Tryz.results64,go_sem,c6]) rfl ⟨rfl,HB2⟩
theorem pMinus(q a b:Int)(w:World)(ha:In a)(hb:In b)(hq:In q)(hq0:q≠0):
 CC 65 #[NV q,NV a,NV b] w (NV ((a -b)%q)):=by
 go_enter Tryz.func65,Tryz.ntmps65
 go_upto_region 1 with fail
 generalize hC:((((w.alloc (.cells (LN q:List Value).toArray 24)).alloc (.cells (LN a:List Value).toArray 24)).alloc (.cells (LN b:List Value).toArray 24)).alloc (.cells (L0s:List Value).toArray 24))=v0 at *
 have HB0:Bw w v0:=by rw[<-hC];exact Z0 (Z0 (Z0 (Z0 (Z2 w) _) _) _) _
 have K0:Bk w.heap.size v0 [(true,w.heap.size,LN q),(true,w.heap.size+1,LN a),(true,w.heap.size+1+1,LN b),(true,w.heap.size+1+1+1,L0s)]:=by rw[<-hC];exact(Bk.nil _ w).ad.ad.ad.ad
 clear hC
 refine rgP K0 HB0 HB0.size [] [(7,7,L0s,some (8,LN ((a -b)%q)))] [(0,10,NV a),(1,11,NV b),(2,12,NV q),(3,13,.tuple #[NV ((a -b)%q),.int .i64 0]),(4,9,.tuple #[NV ((a -b)%q),.int .i64 0]),(5,14,NV ((a -b)%q)),(6,15,.int .i64 0),(9,8,.int .i64 0)] [(8,7)] [] [false,false,false] ?_ ?_
 ·exact oc (g_ld 1 uN iN)<|oc (g_ld 2 uN iN)<|oc (g_ld 0 uN iN)<|oc (g_cl ent_mod_Sub (fun uZ=>mSub a b q uZ ha hb hq hq0))<|oc g_mv<|oc g_ex<|oc g_ex<|oc (g_al 0 aN)<|oc (g_sn 0 iN)<|oc g_as on
 intro u1 b1_7 HB1 sz1 K1
 simp only[sQ] at K1⊢
 clear K0 HB0
 go_upto_region 2 with fail
 refine rgP K1 HB1 HB1.size [.all 1 (LN ((a -b)%q))] [] [(0,16,NV ((a -b)%q))] [] [] [true,false] ?_ ?_
 ·exact oc (g_ld 1 uN iN)<|oc (g_st 0 iN) on
 intro u2 HB2 sz2 K2
 simp only[sQ] at K2⊢
 clear K1 HB1
 have c6:=(K2.cv 0).n4
 go_wp2
 refine bodyPost_ret (v:=NV ((a -b)%q)) (by simp[results,Tryz.results65,go_sem,c6]) rfl ⟨rfl,HB2⟩
theorem pReduced(q a:Int)(w:World)(ha:In a)(hq:In q)(hq0:q≠0):
 CC 47 #[NV q,NV a] w (NV (a%q)):=by
 go_enter Tryz.func47,Tryz.ntmps47
 go_upto_region 1 with fail
 generalize hC:(((w.alloc (.cells (LN q:List Value).toArray 24)).alloc (.cells (LN a:List Value).toArray 24)).alloc (.cells (L0s:List Value).toArray 24))=v0 at *
 have HB0:Bw w v0:=by rw[<-hC];exact Z0 (Z0 (Z0 (Z2 w) _) _) _
 have K0:Bk w.heap.size v0 [(true,w.heap.size,LN q),(true,w.heap.size+1,LN a),(true,w.heap.size+1+1,L0s)]:=by rw[<-hC];exact(Bk.nil _ w).ad.ad.ad
 clear hC
 refine rgD K0 HB0 HB0.size [] [(7,5,L0s,some (8,LN (a%q)))] [(0,8,NV a),(1,9,WV a),(2,10,NV q),(3,11,.tuple #[NV (a%q),.int .i64 0]),(4,7,.tuple #[NV (a%q),.int .i64 0]),(5,12,NV (a%q)),(6,13,.int .i64 0),(9,6,.int .i64 0)] [(8,7)] [] [false,false] ?_ ?_
 ·exact oc (g_ld 1 uN iN)<|oc (g_cl Z7 (fun uZ=>X0 a uZ ha))<|oc (g_ld 0 uN iN)<|oc (g_cl Z6 (fun uZ=>Yd a q uZ ha.wide hq hq0))<|oc g_mv<|oc g_ex<|oc g_ex<|oc (g_al 0 aN)<|oc (g_sn 0 iN)<|oc g_as on
 intro u1 b1_7 HB1 sz1 K1
 simp only[sQ] at K1⊢
 clear K0 HB0
 go_upto_region 2 with fail
 refine rgP K1 HB1 HB1.size [.all 1 (LN (a%q))] [] [(0,14,NV (a%q))] [] [] [true,false] ?_ ?_
 ·exact oc (g_ld 1 uN iN)<|oc (g_st 0 iN) on
 intro u2 HB2 sz2 K2
 simp only[sQ] at K2⊢
 clear K1 HB1
 have c4:=(K2.cv 0).n4
 go_wp2
 refine bodyPost_ret (v:=NV (a%q)) (by simp[results,Tryz.results47,go_sem,c4]) rfl ⟨rfl,HB2⟩
theorem pValue_core(q x:Int)(sl:Option Addr)(gb go cap:Nat)(ns:List Int)(w:World)(hq:In q)(hq0:q≠0)(hx:In x)(hix:Hid (∀j,j<ns.length-> ∀W,(Instr.indexAt 25 (.slice sl ns.length cap) (.int .i64 j)).run Tryz.prog W= .ok (.pointer (some ⟨gb,go+4*j,none⟩)) W))(hg:ns.length=0\/gb<w.heap.size)(hS:Hid (SN w gb go ns))(hn:Hid (∀k,k<ns.length->In (ns.getD k 0)))(hns:ns.length<=1000):
 CC 29 #[NV q,.slice sl ns.length cap,NV x] w (NV (hoN q x ns ns.length)):=by
 go_enter Tryz.func29,Tryz.ntmps29
 go_upto_region 1 with fail
 generalize hC:(((w.alloc (.cells (LN q:List Value).toArray 24)).alloc (.cells (LN x:List Value).toArray 24)).alloc (.cells (L0s:List Value).toArray 24))=v0 at *
 have HB0:Bw w v0:=by rw[<-hC];exact Z0 (Z0 (Z0 (Z2 w) _) _) _
 have K0:Bk w.heap.size v0 [(true,w.heap.size,LN q),(true,w.heap.size+1,LN x),(true,w.heap.size+1+1,L0s)]:=by rw[<-hC];exact(Bk.nil _ w).ad.ad.ad
 clear hC
 refine rgP K0 HB0 HB0.size [] [(1,7,L0s,some (2,[.int .u64 (0),.int .u64 (0),.int .u64 (0),.int .u64 (0)]))] [(0,9,A4 (0) (0) (0) (0))] [(2,1)] [] [] ?_ ?_
 ·exact oc (g_bd zN)<|oc (g_al 0 aN)<|oc (g_sn 0 iN) on
 intro u1 b1_1 HB1 sz1 K1
 simp only[sQ] at K1⊢
 clear K0 HB0
 go_upto_region 2 with fail
 refine rgP K1 HB1 HB1.size [] [] [(0,10,.slice sl ns.length cap),(1,11,.int .i64 (ns.length:Int)),(2,12,(Go.Value.int Go.IntKind.i64 0))] [] [] [] ?_ ?_
 ·exact oc g_mv<|oc (g_ln Tryz.underlying25)<|oc g_mv on
 intro u2 HB2 sz2 K2
 simp only[sQ] at K2⊢
 clear K1 HB1
 go_wp2_with fail
 go_loopw [12] (fun s12 wr=> ∃(k:Nat),k<=ns.length/\s12= .int .i64 (k:Int)/\Bw w wr/\CV wr (w.heap.size) (LN q)/\w.heap.size<wr.heap.size/\CV wr (w.heap.size+1) (LN x)/\w.heap.size+1<wr.heap.size/\CV wr (w.heap.size+1+1) (L0s)/\w.heap.size+1+1<wr.heap.size/\CV wr b1_1 (LN (hoN q x ns k))/\b1_1<wr.heap.size) (fun s12 _=>ns.length -(intOf s12).toNat)
 case atStart=>exact⟨0,by omega,rfl,HB2,(K2.cv 0),(K2.lt 0),(K2.cv 1),(K2.lt 1),(K2.cv 2),(K2.lt 2),(K2.cv 3),(K2.lt 3)⟩
 case round=>
  obtain⟨k,hk,rfl,HBr,C0,l0,C1,l1,C2,l2,C3,l3⟩:=hrel
  clear HB2
  have hnK:=K2.n
  simp at hnK
  have hoK3:=K2.lo 3
  by_cases hj:k<ns.length
  ·have hl:decide ((k:Int)<(ns.length:Int))=true:=by simp;omega
   have ik:In (hoN q x ns k):=hoN_In hq hq0 k
   have hjn:ns.length -1 -k<ns.length:=by omega
   have iy:=hn.out _ hjn
   have hX:=hix.out _ hjn
   have hX:Hid _:=hX
   have hR:=hS.out.at _ hjn
   have hR:Hid _:=hR
   have hn2:Hid (hoN q x ns (k+1)=(hoN q x ns k*x%q+ns.getD (ns.length -1 -k) 0)%q):=rfl
   obtain⟨y,ey⟩: ∃y,ns.getD (ns.length -1 -k) 0=y:=⟨_,rfl⟩
   obtain⟨z,ez⟩: ∃z,hoN q x ns k=z:=⟨_,rfl⟩
   rw[ey] at iy hR hn2
   rw[ez] at ik C3 hn2
   clear ey ez
   obtain⟨j,ej⟩: ∃j,ns.length -1 -k=j:=⟨_,rfl⟩
   rw[ej] at hX hR hjn
   have hjk:(ns.length:Int) -1 -k=(j:Int):=by omega
   have EJ:Hid _:=ej
   have HJ:Hid _:=hjk
   clear ej hjk
   have K2_1:Bk w.heap.size wr [(false,w.heap.size,LN q),(false,w.heap.size+1,LN x),(true,w.heap.size+1+1,L0s),(true,b1_1,LN z)]:=⟨.c l0 C0<| .c l1 C1<| .o l2 (K2.lo 2) C2<| .o l3 (K2.lo 3) C3<|trivial,by simp<;>omega⟩
   go_upto_region 3 with fail
   refine rgP K2_1 HBr HBr.size [] [] [(0,13,.bool true)] [] [] [] ?_ ?_
   ·exact oc (g_bn (fun uZ=>Zv _ _ (k:Int) (ns.length:Int) _ uZ hl)) on
   intro u3 HB3 sz3 K3
   simp only[sQ] at K3⊢
   go_upto_region 4 with fail
   refine rgP K3 HB3 HB3.size [] [] [(0,14,.int .i64 (k:Int)),(1,8,.int .i64 (k:Int))] [] [] [] ?_ ?_
   ·exact oc g_mv<|oc g_as on
   intro u4 HB4 sz4 K4
   simp only[sQ] at K4⊢
   clear K3 HB3
   go_upto_region 5 with fail
   refine rgP K4 HB4 HB4.size [.no,.no,.no,.all 7 (LN (z*x%q))] [] [(0,16,NV z),(1,17,NV x),(2,18,NV q),(3,19,.tuple #[NV (z*x%q),.int .i64 0]),(4,15,.tuple #[NV (z*x%q),.int .i64 0]),(5,20,NV (z*x%q)),(6,21,.int .i64 0)] [(7,0)] [] [] ?_ ?_
   ·exact oc (g_ld 3 uN iN)<|oc (g_ld 1 uN iN)<|oc (g_ld 0 uN iN)<|oc (g_cl ent_mod_Mul (fun uZ=>mMul z x q uZ ik hx hq hq0))<|oc g_mv<|oc g_ex<|oc g_ex<|oc (g_st 3 iN) on
   intro u5 HB5 sz5 K5
   simp only[sQ] at K5⊢
   clear K4 HB4
   go_upto_region 6 with fail
   refine rgD K5 HB5 HB5.size [.no,.no,.no,.all 14 (LN ((z*x%q+y)%q))] [] [(0,23,NV (z*x%q)),(1,24,.slice sl ns.length cap),(2,25,.slice sl ns.length cap),(3,26,.int .i64 (ns.length:Int)),(4,27,.int .i64 ((ns.length:Int) -1)),(5,28,.int .i64 (k:Int)),(6,29,.int .i64 (j:Int)),(7,30,.pointer (some ⟨gb,go+4*j,none⟩)),(8,31,NV y),(9,32,NV q),(10,33,.tuple #[NV ((z*x%q+y)%q),.int .i64 0]),(11,22,.tuple #[NV ((z*x%q+y)%q),.int .i64 0]),(12,34,NV ((z*x%q+y)%q)),(13,35,.int .i64 0)] [(14,0)] [] [] ?_ ?_
   ·exact oc (g_ld 3 uN iN)<|oc g_mv<|oc g_mv<|oc (g_ln Tryz.underlying25)<|oc (g_bn (fun uZ=>sub_i _ _ (ns.length:Int) 1 _ uZ rfl (by omega) (by omega)))<|oc g_mv<|oc (g_bn (fun uZ=>sub_i _ _ ((ns.length:Int) -1) (k:Int) _ uZ HJ.out (by omega) (by omega)))<|oc (g_ix (fun uZ=>hX.out uZ))<|oc (g_lf hR.out (hg.resolve_left (by omega)) uN iN)<|oc (g_ld 0 uN iN)<|oc (g_cl ent_mod_Add (fun uZ=>mAdd (z*x%q) y q uZ (Zd hq hq0) iy hq hq0))<|oc g_mv<|oc g_ex<|oc g_ex<|oc (g_st 3 iN) on
   intro u6 HB6 sz6 K6
   simp only[sQ] at K6⊢
   clear K5 HB5
   go_upto_region 7 with fail
   refine rgP K6 HB6 HB6.size [] [] [(0,36,.int .i64 ((k+1:Nat):Int)),(1,12,.int .i64 ((k+1:Nat):Int))] [(1,0)] [(1,12)] [] ?_ ?_
   ·exact oc (g_bn (fun uZ=>Xh _ _ (k:Int) 1 ((k+1:Nat):Int) uZ (by omega) (by omega) (by omega)))<|oc g_mv on
   intro u7 HB7 sz7 K7
   simp only[sQ] at K7⊢
   clear K6 HB6
   go_wp2
   refine⟨⟨k+1,by omega,rfl,HB7,(K7.cv 0),(K7.lt 0),(K7.cv 1),(K7.lt 1),(K7.cv 2),(K7.lt 2),by rw[hn2.out];exact(K7.cv 3),(K7.lt 3)⟩,?_⟩
   simp[intOf]<;>omega
  ·have hl:decide ((k:Int)<(ns.length:Int))=false:=by simp;omega
   have hkn:k=ns.length:=by omega
   have K2_1:Bk w.heap.size wr [(false,w.heap.size,LN q),(false,w.heap.size+1,LN x),(true,w.heap.size+1+1,L0s),(true,b1_1,LN (hoN q x ns k))]:=⟨.c l0 C0<| .c l1 C1<| .o l2 (K2.lo 2) C2<| .o l3 (K2.lo 3) C3<|trivial,by simp<;>omega⟩
   go_upto_region 3 with fail
   refine rgP K2_1 HBr HBr.size [] [] [(0,13,.bool false)] [] [] [] ?_ ?_
   ·exact oc (g_bn (fun uZ=>Zv _ _ (k:Int) (ns.length:Int) _ uZ hl)) on
   intro u3 HB3 sz3 K3
   simp only[sQ] at K3⊢
   go_upto_region 8 with fail
   refine rgP K3 HB3 HB3.size [.no,.no,.all 1 (LN (hoN q x ns k))] [] [(0,37,NV (hoN q x ns k))] [] [] [] ?_ ?_
   ·exact oc (g_ld 3 uN iN)<|oc (g_st 2 iN) on
   intro u4 HB4 sz4 K4
   simp only[sQ] at K4⊢
   clear K3 HB3
   have c6:=(K4.cv 2).n4
   go_wp2
   refine bodyPost_ret (v:=NV (hoN q x ns k)) (by simp[results,Tryz.results29,go_sem,c6]) rfl ⟨by rw[hkn],HB4⟩
theorem Y4:EnT 65:=fun _ _=>by kernel_rfl
theorem Zg:EnT 64:=fun _ _=>by kernel_rfl
theorem pDistance_core(q:Int)(i:Nat)(sl:Option Addr)(gb go cap:Nat)(ns:List Int)(w:World)(hq:In q)(hq0:q≠0)(hi:i<ns.length)(hix:Hid (∀j,j<ns.length-> ∀W,(Instr.indexAt 25 (.slice sl ns.length cap) (.int .i64 j)).run Tryz.prog W= .ok (.pointer (some ⟨gb,go+4*j,none⟩)) W))(hg:ns.length=0\/gb<w.heap.size)(hS:Hid (SN w gb go ns))(hn:Hid (∀k,k<ns.length->In (ns.getD k 0)))(hns:ns.length<=1000):
 CC 62 #[NV q,.int .i64 (i:Int),.slice sl ns.length cap] w (NV (dsN q ns i ns.length)):=by
 go_enter Tryz.func62,Tryz.ntmps62
 go_upto_region 1 with fail
 generalize hC:((w.alloc (.cells (LN q:List Value).toArray 24)).alloc (.cells (L0s:List Value).toArray 24))=v0 at *
 have HB0:Bw w v0:=by rw[<-hC];exact Z0 (Z0 (Z2 w) _) _
 have K0:Bk w.heap.size v0 [(true,w.heap.size,LN q),(true,w.heap.size+1,L0s)]:=by rw[<-hC];exact(Bk.nil _ w).ad.ad
 clear hC
 refine rgP K0 HB0 HB0.size [] [(1,7,L0s,some (2,LN 1))] [(0,10,NV 1)] [(2,1)] [] [] ?_ ?_
 ·exact oc (g_cl Zf (fun uZ=>nOf 1 uZ (by omega) (by omega)))<|oc (g_al 0 aN)<|oc (g_sn 0 iN) on
 intro u1 b1_1 HB1 sz1 K1
 simp only[sQ] at K1⊢
 clear K0 HB0
 go_upto_region 2 with fail
 refine rgP K1 HB1 HB1.size [] [] [(0,11,.slice sl ns.length cap),(1,12,.int .i64 (ns.length:Int)),(2,13,(Go.Value.int Go.IntKind.i64 0))] [] [] [] ?_ ?_
 ·exact oc g_mv<|oc (g_ln Tryz.underlying25)<|oc g_mv on
 intro u2 HB2 sz2 K2
 simp only[sQ] at K2⊢
 clear K1 HB1
 go_wp2_with fail
 go_loopw [13] (fun s13 wr=> ∃(k:Nat),k<=ns.length/\s13= .int .i64 (k:Int)/\Bw w wr/\CV wr (w.heap.size) (LN q)/\w.heap.size<wr.heap.size/\CV wr (w.heap.size+1) (L0s)/\w.heap.size+1<wr.heap.size/\CV wr b1_1 (LN (dsN q ns i k))/\b1_1<wr.heap.size) (fun s13 _=>ns.length -(intOf s13).toNat)
 case atStart=>exact⟨0,by omega,rfl,HB2,(K2.cv 0),(K2.lt 0),(K2.cv 1),(K2.lt 1),(K2.cv 2),(K2.lt 2)⟩
 case round=>
  obtain⟨k,hk,rfl,HBr,C0,l0,C1,l1,C2,l2⟩:=hrel
  clear HB2
  have hnK:=K2.n
  simp at hnK
  have hoK2:=K2.lo 2
  by_cases hj:k<ns.length
  ·have hl:decide ((k:Int)<(ns.length:Int))=true:=by simp;omega
   have ik:In (dsN q ns i k):=dsN_In hq hq0 k
   have iy:=hn.out _ hj
   have hX:=hix.out _ hj
   have hX:Hid _:=hX
   have hR:=hS.out.at _ hj
   have hR:Hid _:=hR
   have hXi:=hix.out _ hi
   have hXi:Hid _:=hXi
   have hRi:=hS.out.at _ hi
   have hRi:Hid _:=hRi
   have iz:=hn.out _ hi
   have hn2:Hid (dsN q ns i (k+1)=if k=i then dsN q ns i k else (dsN q ns i k*((ns.getD i 0 -ns.getD k 0)%q))%q):=rfl
   obtain⟨y,ey⟩: ∃y,ns.getD k 0=y:=⟨_,rfl⟩
   obtain⟨x,ex⟩: ∃x,ns.getD i 0=x:=⟨_,rfl⟩
   obtain⟨z,ez⟩: ∃z,dsN q ns i k=z:=⟨_,rfl⟩
   rw[ey] at iy hR hn2
   rw[ex] at iz hRi hn2
   rw[ez] at ik C2 hn2
   clear ey ez ex
   by_cases hki:k=i
   ·have hne:((k:Int) !=(i:Int))=false:=by simp;omega
    have hn2:Hid _:=hn2.out.trans (if_pos hki)
    have HK:Hid _:=hki
    clear hki
    have K2_1:Bk w.heap.size wr [(false,w.heap.size,LN q),(true,w.heap.size+1,L0s),(true,b1_1,LN z)]:=⟨.c l0 C0<| .o l1 (K2.lo 1) C1<| .o l2 (K2.lo 2) C2<|trivial,by simp<;>omega⟩
    go_upto_region 3 with fail
    refine rgP K2_1 HBr HBr.size [] [] [(0,14,.bool true)] [] [] [] ?_ ?_
    ·exact oc (g_bn (fun uZ=>Zv _ _ (k:Int) (ns.length:Int) _ uZ hl)) on
    intro u3 HB3 sz3 K3
    simp only[sQ] at K3⊢
    go_upto_region 4 with fail
    refine rgP K3 HB3 HB3.size [] [(3,9,L0s,some (5,LN y))] [(0,15,.int .i64 (k:Int)),(1,16,.pointer (some ⟨gb,go+4*k,none⟩)),(2,17,NV y),(4,8,.int .i64 (k:Int))] [(5,3)] [] [true,true,true,false] ?_ ?_
    ·exact oc g_mv<|oc (g_ix (fun uZ=>hX.out uZ))<|oc (g_lf hR.out (hg.resolve_left (by omega)) uN iN)<|oc (g_al 0 aN)<|oc g_as<|oc (g_sn 0 iN) on
    intro u4 b4_3 HB4 sz4 K4
    simp only[sQ] at K4⊢
    clear K3 HB3
    go_upto_region 5 with fail
    refine rgP K4 HB4 HB4.size [] [] [(0,18,.int .i64 (k:Int)),(1,19,.int .i64 (i:Int)),(2,20,.bool false)] [] [] [] ?_ ?_
    ·exact oc g_mv<|oc g_mv<|oc (g_bn (fun uZ=>neq_i _ _ _ (k:Int) (i:Int) _ uZ hne)) on
    intro u5 HB5 sz5 K5
    simp only[sQ] at K5⊢
    clear K4 HB4
    go_upto_region 7 with fail
    refine rgP K5 HB5 HB5.size [] [] [(0,31,.int .i64 ((k+1:Nat):Int)),(1,13,.int .i64 ((k+1:Nat):Int))] [(1,0)] [(1,13)] [] ?_ ?_
    ·exact oc (g_bn (fun uZ=>Xh _ _ (k:Int) 1 ((k+1:Nat):Int) uZ (by omega) (by omega) (by omega)))<|oc g_mv on
    intro u6 HB6 sz6 K6
    simp only[sQ] at K6⊢
    clear K5 HB5
    go_wp2
    refine⟨⟨k+1,by omega,rfl,HB6,(K6.cv 0),(K6.lt 0),(K6.cv 1),(K6.lt 1),by rw[hn2.out];exact(K6.cv 2),(K6.lt 2)⟩,?_⟩
    simp[intOf]<;>omega
   ·have hne:((k:Int) !=(i:Int))=true:=by simp;omega
    have hn2:Hid _:=hn2.out.trans (if_neg hki)
    have HK:Hid _:=hki
    clear hki
    have K2_1:Bk w.heap.size wr [(false,w.heap.size,LN q),(true,w.heap.size+1,L0s),(true,b1_1,LN z)]:=⟨.c l0 C0<| .o l1 (K2.lo 1) C1<| .o l2 (K2.lo 2) C2<|trivial,by simp<;>omega⟩
    go_upto_region 3 with fail
    refine rgP K2_1 HBr HBr.size [] [] [(0,14,.bool true)] [] [] [] ?_ ?_
    ·exact oc (g_bn (fun uZ=>Zv _ _ (k:Int) (ns.length:Int) _ uZ hl)) on
    intro u3 HB3 sz3 K3
    simp only[sQ] at K3⊢
    go_upto_region 4 with fail
    refine rgP K3 HB3 HB3.size [] [(3,9,L0s,some (5,LN y))] [(0,15,.int .i64 (k:Int)),(1,16,.pointer (some ⟨gb,go+4*k,none⟩)),(2,17,NV y),(4,8,.int .i64 (k:Int))] [(5,3)] [] [] ?_ ?_
    ·exact oc g_mv<|oc (g_ix (fun uZ=>hX.out uZ))<|oc (g_lf hR.out (hg.resolve_left (by omega)) uN iN)<|oc (g_al 0 aN)<|oc g_as<|oc (g_sn 0 iN) on
    intro u4 b4_3 HB4 sz4 K4
    simp only[sQ] at K4⊢
    clear K3 HB3
    go_upto_region 5 with fail
    refine rgP K4 HB4 HB4.size [] [] [(0,18,.int .i64 (k:Int)),(1,19,.int .i64 (i:Int)),(2,20,.bool true)] [] [] [] ?_ ?_
    ·exact oc g_mv<|oc g_mv<|oc (g_bn (fun uZ=>neq_i _ _ _ (k:Int) (i:Int) _ uZ hne)) on
    intro u5 HB5 sz5 K5
    simp only[sQ] at K5⊢
    clear K4 HB4
    go_upto_region 6 with fail
    refine rgD K5 HB5 HB5.size [.no,.no,.all 10 (LN (z*((x -y)%q)%q))] [] [(0,21,NV q),(1,22,NV z),(2,23,NV q),(3,24,.slice sl ns.length cap),(4,25,.int .i64 (i:Int)),(5,26,.pointer (some ⟨gb,go+4*i,none⟩)),(6,27,NV x),(7,28,NV y),(8,29,NV ((x -y)%q)),(9,30,NV (z*((x -y)%q)%q))] [(10,1)] [] [true,true,true,false] ?_ ?_
    ·exact oc (g_ld 0 uN iN)<|oc (g_ld 2 uN iN)<|oc (g_ld 0 uN iN)<|oc g_mv<|oc g_mv<|oc (g_ix (fun uZ=>hXi.out uZ))<|oc (g_lf hRi.out (hg.resolve_left (by omega)) uN iN)<|oc (g_ld 3 uN iN)<|oc (g_cl Y4 (fun uZ=>pMinus q x y uZ iz iy hq hq0))<|oc (g_cl Zg (fun uZ=>pTimes q z ((x -y)%q) uZ ik (Zd hq hq0) hq hq0))<|oc (g_st 2 iN) on
    intro u6 HB6 sz6 K6
    simp only[sQ] at K6⊢
    clear K5 HB5
    go_upto_region 7 with fail
    refine rgP K6 HB6 HB6.size [] [] [(0,31,.int .i64 ((k+1:Nat):Int)),(1,13,.int .i64 ((k+1:Nat):Int))] [(1,0)] [(1,13)] [] ?_ ?_
    ·exact oc (g_bn (fun uZ=>Xh _ _ (k:Int) 1 ((k+1:Nat):Int) uZ (by omega) (by omega) (by omega)))<|oc g_mv on
    intro u7 HB7 sz7 K7
    simp only[sQ] at K7⊢
    clear K6 HB6
    go_wp2
    refine⟨⟨k+1,by omega,rfl,HB7,(K7.cv 0),(K7.lt 0),(K7.cv 1),(K7.lt 1),by rw[hn2.out];exact(K7.cv 2),(K7.lt 2)⟩,?_⟩
    simp[intOf]<;>omega
  ·have hl:decide ((k:Int)<(ns.length:Int))=false:=by simp;omega
   have hkn:k=ns.length:=by omega
   have K2_1:Bk w.heap.size wr [(false,w.heap.size,LN q),(true,w.heap.size+1,L0s),(true,b1_1,LN (dsN q ns i k))]:=⟨.c l0 C0<| .o l1 (K2.lo 1) C1<| .o l2 (K2.lo 2) C2<|trivial,by simp<;>omega⟩
   go_upto_region 3 with fail
   refine rgP K2_1 HBr HBr.size [] [] [(0,14,.bool false)] [] [] [] ?_ ?_
   ·exact oc (g_bn (fun uZ=>Zv _ _ (k:Int) (ns.length:Int) _ uZ hl)) on
   intro u3 HB3 sz3 K3
   simp only[sQ] at K3⊢
   go_upto_region 8 with fail
   refine rgP K3 HB3 HB3.size [.no,.all 1 (LN (dsN q ns i k))] [] [(0,32,NV (dsN q ns i k))] [] [] [] ?_ ?_
   ·exact oc (g_ld 2 uN iN)<|oc (g_st 1 iN) on
   intro u4 HB4 sz4 K4
   simp only[sQ] at K4⊢
   clear K3 HB3
   have c6:=(K4.cv 1).n4
   go_wp2
   refine bodyPost_ret (v:=NV (dsN q ns i k)) (by simp[results,Tryz.results62,go_sem,c6]) rfl ⟨by rw[hkn],HB4⟩
end
section
section
section ring
variable {R:Type} [Lean.Grind.CommRing R]
def pP(t:R):List (R×R)->R
 | []=>1
 | p::l=>(t -p.1)*pP t l
def smP(f p:R->R)(t:R):List (R×R)->R
 | []=>0
 | x::l=>f x.1*x.2*(p t*pP t l)+smP f (fun z=>p z*(z -x.1)) t l
def wtP(p:R->R):List (R×R)->Prop
 | []=>True
 | x::l=>x.2*(p x.1*pP x.1 l)=1/\wtP (fun z=>p z*(z -x.1)) l
def evPR:List R->R->R
 | [],_=>0
 | c::l,x=>c+x*evPR l x
def lsP(a:R)(l:List (R×R)):List (R×R):=l.map fun x=>(x.1,x.2*(x.1 -a))
theorem pP_ls(a t:R): ∀l:List (R×R),pP t (lsP a l)=pP t l
 | []=>rfl
 | x::l=>by simp only[lsP,List.map,pP];rw[<-pP_ls a t l];rfl
theorem Xc(f:R->R)(a t:R): ∀(l:List (R×R)) (p:R->R),smP f (fun z=>(z -a)*p z) t l=(t -a)*smP f p t l
 | [],p=>by simp only[smP];grind
 | x::l,p=>by
  simp only[smP]
  have h:=Xc f a t l (fun z=>p z*(z -x.1))
  rw[show (fun z=>(z -a)*p z*(z -x.1))=fun z=>(z -a)*(p z*(z -x.1)) from funext fun z=>by grind,h]
  grind
theorem smP_ls(f:R->R)(a t:R): ∀(l:List (R×R)) (p:R->R),smP f p t (lsP a l)=smP (fun x=>f x*(x -a)) p t l
 | [],p=>rfl
 | x::l,p=>by
  have h:=smP_ls f a t l (fun z=>p z*(z -x.1))
  have h2:=pP_ls a t l
  simp only[lsP,List.map,smP] at h h2⊢
  rw[h,h2]
  grind
theorem smP_add(f g:R->R)(c t:R): ∀(l:List (R×R)) (p:R->R),smP (fun x=>c*f x+g x) p t l=c*smP f p t l+smP g p t l
 | [],p=>by simp only[smP];grind
 | x::l,p=>by
  simp only[smP]
  rw[smP_add f g c t l]
  grind
theorem wtP_ls(a:R): ∀(l:List (R×R)) (p:R->R),wtP (fun z=>(z -a)*p z) l->wtP p (lsP a l)
 | [],p,_=>trivial
 | x::l,p,⟨h1,h2⟩=>by
  refine⟨?_,wtP_ls a l _ ?_⟩
  ·have:=pP_ls a x.1 l
   simp only[lsP] at this⊢
   rw[this]
   rw[<-h1];grind
  ·rw[show (fun z=>(z -a)*(p z*(z -x.1)))=fun z=>(z -a)*p z*(z -x.1) from funext fun z=>by grind];exact h2
theorem onP: ∀(n:Nat) (l:List (R×R)) (t:R),l.length=n->l≠[]->wtP (fun _=>1) l->smP (fun _=>1) (fun _=>1) t l=1
 | 0,l,t,h,h0,_=>absurd (List.eq_nil_of_length_eq_zero h) h0
 | 1,[x],t,_,_,⟨h,_⟩=>by simp only[smP,pP] at h⊢;grind
 | n+2,x::y::r,t,hl,_,⟨h1,h2,h3⟩=>by
  have e1:(fun z:R=>1*(z -x.1)*(z -y.1))=fun z=>(z -x.1)*(1*(z -y.1)):=funext fun z=>by grind
  have e2:(fun z:R=>1*(z -x.1)*(z -y.1))=fun z=>(z -y.1)*(1*(z -x.1)):=funext fun z=>by grind
  have e3:(fun z:R=>1*(z -y.1))=fun z=>(z -y.1)*1:=funext fun z=>by grind
  have e4:(fun z:R=>1*(z -x.1))=fun z=>(z -x.1)*1:=funext fun z=>by grind
  have hl2:r.length=n:=by simpa using hl
  have ll: ∀a:R,(lsP a r).length=n:=fun a=>by simp[lsP,hl2]
  have i1:=onP (n+1) ((y.1,y.2*(y.1 -x.1))::lsP x.1 r) t (by simp[ll]) (by simp) ⟨by
   have:=pP_ls x.1 y.1 r
   simp only[this]
   rw[<-h2];grind,wtP_ls x.1 r _ (by rw[<-e1];exact h3)⟩
  have i2:=onP (n+1) ((x.1,x.2*(x.1 -y.1))::lsP y.1 r) t (by simp[ll]) (by simp) ⟨by
   have:=pP_ls y.1 x.1 r
   simp only[this]
   simp only[pP] at h1
   rw[<-h1];grind,wtP_ls y.1 r _ (by rw[<-e2];exact h3)⟩
  have m1:=smP_ls (fun _=>1) x.1 t r (fun z=>1*(z -y.1))
  have m2:=smP_ls (fun _=>1) y.1 t r (fun z=>1*(z -x.1))
  have p1:=pP_ls x.1 t r
  have p2:=pP_ls y.1 t r
  simp only[smP] at i1 i2⊢
  rw[m1,p1] at i1
  rw[m2,p2] at i2
  rw[e3,Xc] at i1
  rw[e4,Xc] at i2
  rw[e1,Xc,e3,Xc]
  simp only[pP] at h1⊢
  have k1:=smP_add (fun _=>(1:R)) (fun x'=>1*(x' -x.1)) (y.1 -x.1) t r (fun _=>1)
  have k2:smP (fun x'=>(y.1 -x.1)*1+1*(x' -x.1)) (fun _=>1) t r=smP (fun x'=>1*(x' -x.1)) (fun _=>1) t r+(y.1 -x.1)*smP (fun _=>1) (fun _=>1) t r:=by rw[k1];grind
  have k3:=smP_add (fun _=>(1:R)) (fun x'=>1*(x' -y.1)) (y.1 -x.1) t r (fun _=>1)
  rw[show (fun x':R=>(y.1 -x.1)*1+1*(x' -y.1))=fun x'=>1*(x' -x.1) from funext fun z=>by grind] at k3
  grind
theorem divP(a:R): ∀cs:List R,∃(r:R) (d:List R),d.length=cs.length -1/\ ∀x,evPR cs x=r+(x -a)*evPR d x
 | []=>⟨0,[],rfl,fun x=>by simp only[evPR];grind⟩
 | [c]=>⟨c,[],rfl,fun x=>by simp only[evPR];grind⟩
 | c::c2::cs=>by
  obtain⟨r,d,h1,h2⟩:=divP a (c2::cs)
  refine⟨c+a*r,r::d,by simp at h1⊢;omega,fun x=>?_⟩
  rw[evPR,h2 x,evPR];grind
theorem lagP: ∀(n:Nat) (l:List (R×R)) (cs:List R) (t:R),l.length=n->cs.length<=n->wtP (fun _=>1) l->smP (evPR cs) (fun _=>1) t l=evPR cs t
 | 0,l,cs,t,hl,hc,_=>by
  rw[List.eq_nil_of_length_eq_zero hl,List.eq_nil_of_length_eq_zero (Nat.le_zero.1 hc)];rfl
 | n+1,[],cs,t,hl,hc,h=>by simp at hl
 | n+1,x::l,cs,t,hl,hc,h=>by
  obtain⟨r,d,h1,h2⟩:=divP x.1 cs
  have hl2:l.length=n:=by simpa using hl
  have i:=lagP n (lsP x.1 l) d t (by simp[lsP,hl2]) (by omega) (wtP_ls x.1 l _ (by rw[show (fun z:R=>(z -x.1)*1)=fun z=>1*(z -x.1) from funext fun z=>by grind];exact h.2))
  have o:=onP (n+1) (x::l) t hl (by simp) h
  have k1:=smP_add (fun _=>(1:R)) (fun z=>evPR d z*(z -x.1)) r t (x::l) (fun _=>1)
  rw[show (fun z:R=>r*1+evPR d z*(z -x.1))=evPR cs from funext fun z=>by rw[h2 z];grind,o] at k1
  rw[k1,h2 t]
  simp only[smP]
  rw[show (fun z:R=>1*(z -x.1))=fun z=>(z -x.1)*1 from funext fun z=>by grind,Xc,<-smP_ls (evPR d) x.1 t l,i]
  grind
end ring
end
end
end Go.Proofs.YtgieoghechekpaaGreatDoor
