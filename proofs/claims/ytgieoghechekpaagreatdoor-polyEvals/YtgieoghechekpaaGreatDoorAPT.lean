import Derived.Test.YtgieoghechekpaaGreatDoorAP9
namespace Go.Proofs.YtgieoghechekpaaGreatDoor
set_option linter.unusedVariables false
set_option linter.unusedSimpArgs false
set_option maxRecDepth 100000
set_option maxHeartbeats 4000000
open Go.RowKit
theorem nrCompareP(n m:Int)(w:World)(hn:In n)(hm:In m):CC 55 #[NV n,NV m] w (.int .i64 (cmpI n m)):=by
 have k:=Ys _ _ _ _ _ _ _ _ w (W_D0 n) (W_D1 n) (W_D2 n) (W_D3 n) (W_D0 m) (W_D1 m) (W_D2 m) (W_D3 m)
 simp only[V_In hn,V_In hm] at k
 exact k
theorem bdNk(k:Int)(h0:0<=k)(h1:k<18446744073709551616)(w:World):(Instr.build 24 [(0,.int .u64 k)].toArray).run Tryz.prog w= .ok (NV k) w:=by
 rw[NV_small h0 h1];kernel_rfl
theorem leq_p(p q:Operand)(x y:Int)(b:Bool)(w:World)(h:decide (x<=y)=b):(do eqGuard .leq 3 p q (.int .i64 x) (.int .i64 y);binOp .leq 3 (.int .i64 x) (.int .i64 y):Sem Value).run Tryz.prog w= .ok (.bool b) w:=by
 subst h;go_simp
def pwN(q x:Int):Nat->Int
 | 0=>1
 | k+1=>(pwN q x k*x)%q
def suN(q x:Int)(ns:List Int):Nat->Int
 | 0=>0
 | k+1=>(suN q x ns k+(ns.getD k 0*pwN q x k)%q)%q
theorem pwN_In{q x:Int}(hq:In q)(hq0:q≠0): ∀k,In (pwN q x k)
 | 0=>In_1
 | k+1=>Zl hq hq0
theorem suN_In{q x:Int}{ns:List Int}(hq:In q)(hq0:q≠0): ∀k,In (suN q x ns k)
 | 0=>In_0
 | k+1=>Zl hq hq0
section ring
variable {R:Type} [Lean.Grind.CommRing R] (p:Nat) [Lean.Grind.IsCharP R p]
theorem su_go(x:Int)(ns:List Int): ∀k,k<=ns.length->(cR (suN p x ns k):R)+cR (pwN p x k)*evPR ((ns.drop k).map cR) (cR x)=evPR (ns.map cR) (cR x)
 | 0,_=>by rw[suN,pwN,cR_0,cR_1,List.drop_zero];grind
 | k+1,h=>by
  have hk:k<ns.length:=by omega
  rw[<-su_go x ns k (by omega),suN,pwN,cR_mod,cR_add,cR_mod,cR_mul,cR_mod,cR_mul,List.drop_eq_getElem_cons hk,List.map_cons,evPR]
  rw[show ns.getD k 0=ns[k] by simp[List.getElem?_eq_getElem hk]]
  grind
end ring
theorem su_ho{q:Int}(hq:2<=q)(x:Int)(ns:List Int):suN q x ns ns.length=hoN q x ns ns.length:=by
 obtain⟨p,rfl⟩: ∃p:Nat,q=(p:Int):=⟨q.toNat,by omega⟩
 have:NeZero p:=⟨by omega⟩
 have e:=su_go (R:=Fin p) p x ns ns.length (Nat.le_refl _)
 rw[List.drop_length,List.map_nil,evPR,<-cR_hoN] at e
 have e2:(cR (suN p x ns ns.length):Fin p)=cR (hoN p x ns ns.length):=by rw[<-e];grind
 rw[cR_ext p] at e2
 have r1: ∀k,0<=suN p x ns k/\suN p x ns k<p:=fun k=>by
  cases k with
  | zero=>exact⟨Int.le_refl _,by show (0:Int)<p;omega⟩
  | succ k=>exact⟨Int.emod_nonneg _ (by omega),Int.emod_lt_of_pos _ (by omega)⟩
 have r2:=hoN_rng (q:=p) (by omega) (x:=x) (ns:=ns) ns.length
 rwa [Int.emod_eq_of_lt (r1 _).1 (r1 _).2,Int.emod_eq_of_lt r2.1 r2.2] at e2
theorem Y6:EnT 55:=fun _ _=>by kernel_rfl
theorem Z2:EnT 30:=fun _ _=>by kernel_rfl
theorem Z5:EnT 31:=fun _ _=>by kernel_rfl
theorem Zu:EnT 9:=fun _ _=>by kernel_rfl
theorem right_core(q:Int)(b:Bool)(w:World)(hq:In q)(hb:decide (0<=cmpI q 2)=b):
 CC 30 #[NV q] w (.bool b):=by
 go_enter Tryz.func30,Tryz.ntmps30
 go_upto_region 1 with fail
 generalize hC:(w.alloc (.cells (LN q:List Value).toArray 24))=v0 at *
 have HB0:Bw w v0:=by rw[<-hC];exact Z0 (Z1 w) _
 have K0:Bk w.heap.size v0 [(true,w.heap.size,LN q)]:=by rw[<-hC];exact(Bk.nil _ w).ad
 clear hC
 refine rgP K0 HB0 HB0.size [] [] [(0,3,NV q),(1,4,NV 2),(2,5,.int .i64 (cmpI q 2)),(3,6,.bool b),(4,2,.bool b)] [] [] [false] ?_ ?_
 ·exact oc (g_ld 0 uN iN)<|oc (g_bd (fun uZ=>bdNk 2 (by omega) (by omega) uZ))<|oc (g_cl Y6 (fun uZ=>nrCompareP q 2 uZ hq ⟨by decide,by decide⟩))<|oc (g_bn (fun uZ=>geq_i _ _ (cmpI q 2) 0 _ uZ hb))<|oc g_as on
 intro u1 HB1 sz1 K1
 simp only[sQ] at K1⊢
 clear K0 HB0
 go_wp2
 refine bodyPost_ret (v:= .bool b) (by simp[results,Tryz.results30,go_sem,]) rfl ⟨rfl,HB1⟩
theorem xRight(q:Int)(w:World)(hq:In q):CC 30 #[NV q] w (.bool (decide (2<=q))):=
 right_core q _ w hq (by unfold cmpI;by_cases h:2<=q<;>simp[h]<;>(repeat' split)<;>omega)
theorem many_t(n:Nat)(w:World)(hn:n<=256)(hc:decide ((1:Int)<=(n:Int))=true):
 CC 31 #[.int .i64 (n:Int)] w (.bool true):=by
 have hc2:decide ((n:Int)<=256)=true:=by simp;omega
 go_enter Tryz.func31,Tryz.ntmps31
 have HB0:Bw w w:=Below.refl _ _
 have K0_1:=Bk.nil (w.heap.size) w
 go_upto_region 1 with fail
 refine rgP K0_1 HB0 HB0.size [] [] [(0,3,.int .i64 (n:Int)),(1,4,.bool true),(2,5,.bool true),(3,6,.int .i64 (n:Int)),(4,7,.bool true),(5,8,.bool true),(6,2,.bool true)] [] [] [] ?_ ?_
 ·exact oc g_mv<|oc (g_bn (fun uZ=>geq_i _ _ (n:Int) 1 _ uZ hc))<|oc g_mv<|oc g_mv<|oc (g_bn (fun uZ=>leq_p _ _ (n:Int) 256 _ uZ hc2))<|oc g_pk<|oc g_as on
 intro u1 HB1 sz1 K1
 simp only[sQ] at K1⊢
 clear HB0
 go_wp2
 refine bodyPost_ret (v:= .bool true) (by simp[results,Tryz.results31,go_sem,]) rfl ⟨rfl,HB1⟩
theorem many_f(n:Nat)(w:World)(hn:n<=256)(hc:decide ((1:Int)<=(n:Int))=false):
 CC 31 #[.int .i64 (n:Int)] w (.bool false):=by
 have hc2:decide ((n:Int)<=256)=true:=by simp;omega
 go_enter Tryz.func31,Tryz.ntmps31
 have HB0:Bw w w:=Below.refl _ _
 have K0_1:=Bk.nil (w.heap.size) w
 go_upto_region 1 with fail
 refine rgP K0_1 HB0 HB0.size [] [] [(0,3,.int .i64 (n:Int)),(1,4,.bool false),(2,5,.bool false),(3,6,undef),(4,7,undef),(5,8,(Go.Value.bool Bool.false)),(6,2,(Go.Value.bool Bool.false))] [] [] [] ?_ ?_
 ·exact oc g_mv<|oc (g_bn (fun uZ=>geq_i _ _ (n:Int) 1 _ uZ hc))<|oc g_mv<|oc g_sk<|oc g_sk<|oc g_pk<|oc g_as on
 intro u1 HB1 sz1 K1
 simp only[sQ] at K1⊢
 clear HB0
 go_wp2
 refine bodyPost_ret (v:= .bool false) (by simp[results,Tryz.results31,go_sem,]) rfl ⟨rfl,HB1⟩
theorem xMany(n:Nat)(w:World)(hn:n<=256):CC 31 #[.int .i64 (n:Int)] w (.bool (decide (1<=n))):=by
 by_cases h:1<=n
 ·rw[decide_eq_true h];exact many_t n w hn (by simp;omega)
 ·rw[decide_eq_false h];exact many_f n w hn (by simp;omega)
theorem xEval_q(q x:Int)(sl:Option Addr)(n cap:Nat)(w:World)(hR:Hid (∀u,CC 30 #[NV q] u (.bool false))):
 CC 9 #[NV q,.slice sl n cap,NV x] w (.tuple #[A4 0 0 0 0,.int .i64 2]):=by
 go_enter Tryz.func9,Tryz.ntmps9
 go_upto_region 1 with fail
 generalize hC:(((w.alloc (.cells (LN q:List Value).toArray 24)).alloc (.cells (LN x:List Value).toArray 24)).alloc (.cells (L0s:List Value).toArray 24))=v0 at *
 have HB0:Bw w v0:=by rw[<-hC];exact Z0 (Z0 (Z0 (Z1 w) _) _) _
 have K0:Bk w.heap.size v0 [(true,w.heap.size,LN q),(true,w.heap.size+1,LN x),(true,w.heap.size+1+1,L0s)]:=by rw[<-hC];exact(Bk.nil _ w).ad.ad.ad
 clear hC
 refine rgP K0 HB0 HB0.size [] [] [(0,13,NV q),(1,14,.bool false),(2,15,.bool true),(3,16,.bool true),(4,17,undef),(5,18,undef),(6,19,undef),(7,20,undef),(8,21,(Go.Value.bool Bool.true))] [] [] [false,false] ?_ ?_
 ·exact oc (g_ld 0 uN iN)<|oc (g_cl Z2 (fun uZ=>hR.out uZ))<|oc (g_un (fun uZ=>not_f uZ))<|oc g_mv<|oc g_sk<|oc g_sk<|oc g_sk<|oc g_sk<|oc g_pk on
 intro u1 HB1 sz1 K1
 simp only[sQ] at K1⊢
 clear K0 HB0
 go_upto_region 2 with fail
 refine rgP K1 HB1 HB1.size [.all 1 ([.int .u64 (0),.int .u64 (0),.int .u64 (0),.int .u64 (0)])] [] [(0,22,A4 (0) (0) (0) (0)),(2,7,(Go.Value.int Go.IntKind.i64 2))] [] [] [] ?_ ?_
 ·exact oc (g_bd zN)<|oc (g_st 0 iN)<|oc g_as on
 intro u2 HB2 sz2 K2
 simp only[sQ] at K2⊢
 clear K1 HB1
 have c6:=(K2.cv 0).n4
 go_wp2
 refine bodyPost_ret (v:= .tuple #[A4 0 0 0 0,.int .i64 2]) (by simp[results,Tryz.results9,go_sem,c6]) rfl ⟨rfl,HB2⟩
theorem xEval_n(q x:Int)(sl:Option Addr)(n cap:Nat)(w:World)(hR:Hid (∀u,CC 30 #[NV q] u (.bool true)))(hM:Hid (∀u,CC 31 #[.int .i64 (n:Int)] u (.bool false))):
 CC 9 #[NV q,.slice sl n cap,NV x] w (.tuple #[A4 0 0 0 0,.int .i64 2]):=by
 go_enter Tryz.func9,Tryz.ntmps9
 go_upto_region 1 with fail
 generalize hC:(((w.alloc (.cells (LN q:List Value).toArray 24)).alloc (.cells (LN x:List Value).toArray 24)).alloc (.cells (L0s:List Value).toArray 24))=v0 at *
 have HB0:Bw w v0:=by rw[<-hC];exact Z0 (Z0 (Z0 (Z1 w) _) _) _
 have K0:Bk w.heap.size v0 [(true,w.heap.size,LN q),(true,w.heap.size+1,LN x),(true,w.heap.size+1+1,L0s)]:=by rw[<-hC];exact(Bk.nil _ w).ad.ad.ad
 clear hC
 refine rgP K0 HB0 HB0.size [] [] [(0,13,NV q),(1,14,.bool true),(2,15,.bool false),(3,16,.bool false),(4,17,.slice sl n cap),(5,18,.int .i64 (n:Int)),(6,19,.bool false),(7,20,.bool true),(8,21,.bool true)] [] [] [false,false] ?_ ?_
 ·exact oc (g_ld 0 uN iN)<|oc (g_cl Z2 (fun uZ=>hR.out uZ))<|oc (g_un (fun uZ=>Xt uZ))<|oc g_mv<|oc g_mv<|oc (g_ln Tryz.underlying25)<|oc (g_cl Z5 (fun uZ=>hM.out uZ))<|oc (g_un (fun uZ=>not_f uZ))<|oc g_pk on
 intro u1 HB1 sz1 K1
 simp only[sQ] at K1⊢
 clear K0 HB0
 go_upto_region 2 with fail
 refine rgP K1 HB1 HB1.size [.all 1 ([.int .u64 (0),.int .u64 (0),.int .u64 (0),.int .u64 (0)])] [] [(0,22,A4 (0) (0) (0) (0)),(2,7,(Go.Value.int Go.IntKind.i64 2))] [] [] [] ?_ ?_
 ·exact oc (g_bd zN)<|oc (g_st 0 iN)<|oc g_as on
 intro u2 HB2 sz2 K2
 simp only[sQ] at K2⊢
 clear K1 HB1
 have c6:=(K2.cv 0).n4
 go_wp2
 refine bodyPost_ret (v:= .tuple #[A4 0 0 0 0,.int .i64 2]) (by simp[results,Tryz.results9,go_sem,c6]) rfl ⟨rfl,HB2⟩
theorem xEval_ok(q x:Int)(sl:Option Addr)(gb go cap:Nat)(ns:List Int)(w:World)(hq:In q)(hq0:q≠0)(hx:In x)(hix:Hid (∀j,j<ns.length-> ∀W,(Instr.indexAt 25 (.slice sl ns.length cap) (.int .i64 j)).run Tryz.prog W= .ok (.pointer (some ⟨gb,go+4*j,none⟩)) W))(hg:ns.length=0\/gb<w.heap.size)(hS:Hid (SN w gb go ns))(hn:Hid (∀k,k<ns.length->In (ns.getD k 0)))(hns:ns.length<=1000)(hR:Hid (∀u,CC 30 #[NV q] u (.bool true)))(hM:Hid (∀u,CC 31 #[.int .i64 (ns.length:Int)] u (.bool true))):
 CC 9 #[NV q,.slice sl ns.length cap,NV x] w (.tuple #[NV (suN q x ns ns.length),.int .i64 0]):=by
 go_enter Tryz.func9,Tryz.ntmps9
 go_upto_region 1 with fail
 generalize hC:(((w.alloc (.cells (LN q:List Value).toArray 24)).alloc (.cells (LN x:List Value).toArray 24)).alloc (.cells (L0s:List Value).toArray 24))=v0 at *
 have HB0:Bw w v0:=by rw[<-hC];exact Z0 (Z0 (Z0 (Z1 w) _) _) _
 have K0:Bk w.heap.size v0 [(true,w.heap.size,LN q),(true,w.heap.size+1,LN x),(true,w.heap.size+1+1,L0s)]:=by rw[<-hC];exact(Bk.nil _ w).ad.ad.ad
 clear hC
 refine rgP K0 HB0 HB0.size [] [] [(0,13,NV q),(1,14,.bool true),(2,15,.bool false),(3,16,.bool false),(4,17,.slice sl ns.length cap),(5,18,.int .i64 (ns.length:Int)),(6,19,.bool true),(7,20,.bool false),(8,21,.bool false)] [] [] [] ?_ ?_
 ·exact oc (g_ld 0 uN iN)<|oc (g_cl Z2 (fun uZ=>hR.out uZ))<|oc (g_un (fun uZ=>Xt uZ))<|oc g_mv<|oc g_mv<|oc (g_ln Tryz.underlying25)<|oc (g_cl Z5 (fun uZ=>hM.out uZ))<|oc (g_un (fun uZ=>Xt uZ))<|oc g_pk on
 intro u1 HB1 sz1 K1
 simp only[sQ] at K1⊢
 clear K0 HB0
 go_upto_region 3 with fail
 refine rgP K1 HB1 HB1.size [] [(2,8,L0s,some (4,[.int .u64 (0),.int .u64 (0),.int .u64 (0),.int .u64 (0)])),(3,9,L0s,some (5,LN 1))] [(0,23,A4 (0) (0) (0) (0)),(1,24,NV 1)] [(4,2),(5,3)] [] [] ?_ ?_
 ·exact oc (g_bd zN)<|oc (g_bd (fun uZ=>bdNk 1 (by omega) (by omega) uZ))<|oc (g_al 0 aN)<|oc (g_al 1 aN)<|oc (g_sn 0 iN)<|oc (g_sn 1 iN) on
 intro u2 b2_2 b2_3 HB2 sz2 K2
 simp only[sQ] at K2⊢
 clear K1 HB1
 go_upto_region 4 with fail
 refine rgP K2 HB2 HB2.size [] [] [(0,10,(Go.Value.int Go.IntKind.i64 0))] [] [] [] ?_ ?_
 ·exact oc g_as on
 intro u3 HB3 sz3 K3
 simp only[sQ] at K3⊢
 clear K2 HB2
 have hz0:NV 0=A4 0 0 0 0:=NV_0
 go_wp2_with fail
 go_loopw [10] (fun s10 wr=> ∃(k:Nat),k<=ns.length/\s10= .int .i64 (k:Int)/\Bw w wr/\CV wr (w.heap.size) (LN q)/\w.heap.size<wr.heap.size/\CV wr (w.heap.size+1) (LN x)/\w.heap.size+1<wr.heap.size/\CV wr (w.heap.size+1+1) (L0s)/\w.heap.size+1+1<wr.heap.size/\CV wr b2_2 (LN (suN q x ns k))/\b2_2<wr.heap.size/\CV wr b2_3 (LN (pwN q x k))/\b2_3<wr.heap.size) (fun s10 _=>ns.length -(intOf s10).toNat)
 case atStart=>exact⟨0,by omega,rfl,HB3,(K3.cv 0),(K3.lt 0),(K3.cv 1),(K3.lt 1),(K3.cv 2),(K3.lt 2),by rw[suN];rw[LN_0];exact(K3.cv 3),(K3.lt 3),(K3.cv 4),(K3.lt 4)⟩
 case round=>
  obtain⟨k,hk,rfl,HBr,C0,lC0,C1,lC1,C2,lC2,C3,lC3,C4,lC4⟩:=hrel
  clear HB3
  have hnK:=K3.n
  simp at hnK
  have hoK3:=K3.lo 3
  have hoK4:=K3.lo 4
  by_cases hj:k<ns.length
  ·have hl:decide ((k:Int)<(ns.length:Int))=true:=by simp;omega
   have iy:=hn.out _ hj
   have hX:=hix.out _ hj
   have hX:Hid _:=hX
   have hRr:=hS.out.at _ hj
   have hRr:Hid _:=hRr
   have is:=suN_In (x:=x) (ns:=ns) hq hq0 k
   have ip:=pwN_In (x:=x) hq hq0 k
   have e1:Hid (suN q x ns (k+1)=(suN q x ns k+(ns.getD k 0*pwN q x k)%q)%q):=rfl
   have e2:Hid (pwN q x (k+1)=(pwN q x k*x)%q):=rfl
   obtain⟨y,ey⟩: ∃y,ns.getD k 0=y:=⟨_,rfl⟩
   rw[ey] at iy hRr e1
   clear ey
   obtain⟨s,es⟩: ∃s,suN q x ns k=s:=⟨_,rfl⟩
   rw[es] at is e1 C3
   clear es
   obtain⟨z,ez⟩: ∃z,pwN q x k=z:=⟨_,rfl⟩
   rw[ez] at ip e1 e2 C4
   clear ez
   have K3_1:Bk w.heap.size wr [(false,w.heap.size,LN q),(false,w.heap.size+1,LN x),(true,w.heap.size+1+1,L0s),(true,b2_2,LN s),(true,b2_3,LN z)]:=⟨.c lC0 C0<| .c lC1 C1<| .o lC2 (K3.lo 2) C2<| .o lC3 (K3.lo 3) C3<| .o lC4 (K3.lo 4) C4<|trivial,by simp<;>omega⟩
   go_upto_region 5 with fail
   refine rgP K3_1 HBr HBr.size [] [] [(0,25,.int .i64 (k:Int)),(1,26,.slice sl ns.length cap),(2,27,.int .i64 (ns.length:Int)),(3,28,.bool true)] [] [] [] ?_ ?_
   ·exact oc g_mv<|oc g_mv<|oc (g_ln Tryz.underlying25)<|oc (g_bn (fun uZ=>Z7 _ _ (k:Int) (ns.length:Int) _ uZ hl)) on
   intro u4 HB4 sz4 K4
   simp only[sQ] at K4⊢
   go_upto_region 7 with fail
   refine rgD K4 HB4 HB4.size [] [(10,11,L0s,some (11,LN (y*z%q)))] [(0,32,.slice sl ns.length cap),(1,33,.int .i64 (k:Int)),(2,34,.pointer (some ⟨gb,go+4*k,none⟩)),(3,35,NV y),(4,36,NV z),(5,37,NV q),(6,38,.tuple #[NV (y*z%q),.int .i64 0]),(7,31,.tuple #[NV (y*z%q),.int .i64 0]),(8,39,NV (y*z%q)),(9,40,.int .i64 0),(12,12,.int .i64 0)] [(11,10)] [] [] ?_ ?_
   ·exact oc g_mv<|oc g_mv<|oc (g_ix (fun uZ=>hX.out uZ))<|oc (g_lf hRr.out (hg.resolve_left (by omega)) uN iN)<|oc (g_ld 4 uN iN)<|oc (g_ld 0 uN iN)<|oc (g_cl Zw (fun uZ=>xMul y z q uZ iy ip hq hq0))<|oc g_mv<|oc g_ex<|oc g_ex<|oc (g_al 0 aN)<|oc (g_sn 0 iN)<|oc g_as on
   intro u5 b5_10 HB5 sz5 K5
   simp only[sQ] at K5⊢
   clear K4 HB4
   go_upto_region 8 with fail
   refine rgP K5 HB5 HB5.size [.no,.no,.no,.all 7 (LN ((s+y*z%q)%q))] [] [(0,42,NV s),(1,43,NV (y*z%q)),(2,44,NV q),(3,45,.tuple #[NV ((s+y*z%q)%q),.int .i64 0]),(4,41,.tuple #[NV ((s+y*z%q)%q),.int .i64 0]),(5,46,NV ((s+y*z%q)%q)),(6,47,.int .i64 0)] [(7,0)] [] [true,true,true,true,true,false] ?_ ?_
   ·exact oc (g_ld 3 uN iN)<|oc (g_ld 5 uN iN)<|oc (g_ld 0 uN iN)<|oc (g_cl Zb (fun uZ=>xAdd s (y*z%q) q uZ is (Zl hq hq0) hq hq0))<|oc g_mv<|oc g_ex<|oc g_ex<|oc (g_st 3 iN) on
   intro u6 HB6 sz6 K6
   simp only[sQ] at K6⊢
   clear K5 HB5
   go_upto_region 9 with fail
   refine rgP K6 HB6 HB6.size [.no,.no,.no,.no,.all 7 (LN (z*x%q))] [] [(0,49,NV z),(1,50,NV x),(2,51,NV q),(3,52,.tuple #[NV (z*x%q),.int .i64 0]),(4,48,.tuple #[NV (z*x%q),.int .i64 0]),(5,53,NV (z*x%q)),(6,54,.int .i64 0)] [(7,0)] [] [] ?_ ?_
   ·exact oc (g_ld 4 uN iN)<|oc (g_ld 1 uN iN)<|oc (g_ld 0 uN iN)<|oc (g_cl Zw (fun uZ=>xMul z x q uZ ip hx hq hq0))<|oc g_mv<|oc g_ex<|oc g_ex<|oc (g_st 4 iN) on
   intro u7 HB7 sz7 K7
   simp only[sQ] at K7⊢
   clear K6 HB6
   go_upto_region 6 with fail
   refine rgP K7 HB7 HB7.size [] [] [(0,29,.int .i64 (k:Int)),(1,30,.int .i64 ((k+1:Nat):Int)),(2,10,.int .i64 ((k+1:Nat):Int))] [(2,0)] [(2,10)] [] ?_ ?_
   ·exact oc g_mv<|oc (g_bn (fun uZ=>Yy _ _ (k:Int) 1 ((k+1:Nat):Int) uZ (by omega) (by omega) (by omega)))<|oc g_as on
   intro u8 HB8 sz8 K8
   simp only[sQ] at K8⊢
   clear K7 HB7
   go_wp2
   refine⟨⟨k+1,by omega,rfl,HB8,(K8.cv 0),(K8.lt 0),(K8.cv 1),(K8.lt 1),(K8.cv 2),(K8.lt 2),by rw[e1.out];exact(K8.cv 3),(K8.lt 3),by rw[e2.out];exact(K8.cv 4),(K8.lt 4)⟩,?_⟩
   simp[intOf]<;>omega
  ·have hl:decide ((k:Int)<(ns.length:Int))=false:=by simp;omega
   have hkn:k=ns.length:=by omega
   have K3_1:Bk w.heap.size wr [(false,w.heap.size,LN q),(false,w.heap.size+1,LN x),(true,w.heap.size+1+1,L0s),(true,b2_2,LN (suN q x ns k)),(true,b2_3,LN (pwN q x k))]:=⟨.c lC0 C0<| .c lC1 C1<| .o lC2 (K3.lo 2) C2<| .o lC3 (K3.lo 3) C3<| .o lC4 (K3.lo 4) C4<|trivial,by simp<;>omega⟩
   go_upto_region 5 with fail
   refine rgP K3_1 HBr HBr.size [] [] [(0,25,.int .i64 (k:Int)),(1,26,.slice sl ns.length cap),(2,27,.int .i64 (ns.length:Int)),(3,28,.bool false)] [] [] [] ?_ ?_
   ·exact oc g_mv<|oc g_mv<|oc (g_ln Tryz.underlying25)<|oc (g_bn (fun uZ=>Z7 _ _ (k:Int) (ns.length:Int) _ uZ hl)) on
   intro u4 HB4 sz4 K4
   simp only[sQ] at K4⊢
   go_upto_region 10 with fail
   refine rgP K4 HB4 HB4.size [.no,.no,.all 1 (LN (suN q x ns k))] [] [(0,55,NV (suN q x ns k)),(2,7,(Go.Value.int Go.IntKind.i64 0))] [] [] [] ?_ ?_
   ·exact oc (g_ld 3 uN iN)<|oc (g_st 2 iN)<|oc g_as on
   intro u5 HB5 sz5 K5
   simp only[sQ] at K5⊢
   clear K4 HB4
   have c6:=(K5.cv 2).n4
   go_wp2
   refine bodyPost_ret (v:= .tuple #[NV (suN q x ns k),.int .i64 0]) (by simp[results,Tryz.results9,go_sem,c6]) rfl ⟨by rw[hkn],HB5⟩
def evX(q:Int)(ns:List Int)(x:Int):Int:=if 2<=q/\1<=ns.length then hoN q x ns ns.length else 0
def evE(q:Int)(ns:List Int):Int:=if 2<=q/\1<=ns.length then 0 else 2
theorem xEvalR(q x:Int)(ns:List Int)(v:Value)(w:World)(hq:In q)(hx:In x)(hv:NL w v ns)(hns: ∀z∈ns,In z)(hl:ns.length<=256):
 CC 9 #[NV q,v,NV x] w (.tuple #[NV (evX q ns x),.int .i64 (evE q ns)]):=by
 obtain⟨sl,gb,go,cap,rfl,h2,h3,h4,h5,h6⟩:=hv
 unfold evX evE
 by_cases hq2:2<=q
 ·have hR:=fun u=>xRight q u hq
  rw[decide_eq_true hq2] at hR
  have hM:=fun u=>xMany ns.length u hl
  by_cases h1:1<=ns.length
  ·rw[decide_eq_true h1] at hM
   have h:=xEval_ok q x sl gb go cap ns w hq (by omega) hx (NL.ix (u:=w) h4) h5 h6 (Zt hns) (by omega) hR hM
   rw[su_ho hq2] at h
   rw[if_pos ⟨hq2,h1⟩,if_pos ⟨hq2,h1⟩];exact h
  ·rw[decide_eq_false h1] at hM
   rw[if_neg (by omega),if_neg (by omega),NV_0];exact xEval_n q x sl _ cap w hR hM
 ·have hR:=fun u=>xRight q u hq
  rw[decide_eq_false hq2] at hR
  rw[if_neg (by omega),if_neg (by omega),NV_0];exact xEval_q q x sl _ cap w hR
end Go.Proofs.YtgieoghechekpaaGreatDoor
