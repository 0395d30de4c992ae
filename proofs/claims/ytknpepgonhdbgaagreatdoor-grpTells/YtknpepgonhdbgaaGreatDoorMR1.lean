import Derived.Test.YtknpepgonhdbgaaGreatDoorB45
import Derived.Test.YtknpepgonhdbgaaGreatDoorEE
namespace Go.Proofs.YtknpepgonhdbgaaGreatDoor
set_option linter.unusedVariables false
set_option linter.unusedSimpArgs false
set_option maxRecDepth 100000
set_option maxHeartbeats 4000000
open Go.RowKit
theorem nrLen (e:Int) (w:World):CC 67 #[NV e] w (.int .i64 (lenI e)):=
 rLength_any _ _ _ _ w (W_D0 e) (W_D1 e) (W_D2 e) (W_D3 e)
theorem nrBit (e i:Int) (w:World) (h0:0<=i) (h1:i<256):CC 68 #[NV e,.int .i64 i] w (.bool (bitI e i)):=by
 rw[<-bitv_I h0 h1];exact rBit_any _ _ _ _ i w (W_D0 e) (W_D1 e) (W_D2 e) (W_D3 e)
theorem bdw1 (w:World):(Instr.build 64 [(0,.int .u64 1)].toArray).run Tryz.prog w= .ok (WV 1) w:=by
 have e:WV 1=A8 1 0 0 0 0 0 0 0:=WV_of 1 1 0 0 0 0 0 0 0 ⟨by omega,by omega⟩ W_0 W_0 W_0 W_0 W_0 W_0 W_0 (by simp[V])
 have k:(Instr.build 64 [(0,.int .u64 1)].toArray).run Tryz.prog w= .ok (A8 1 0 0 0 0 0 0 0) w:=by kernel_rfl
 rw[e];exact k
theorem xExpP (P:Nat->Int) (a e m:Int) (w:World) (ha:In a) (he:In e) (hm:In m) (h:m≠0) (hP0:P 0=1%m)
 (hQ:Hid (∀i j u,CC 51 #[NV (P i),NV (P j),NV m] u (.tuple #[NV (P (i+j)),.int .i64 0])))
 (hU:Hid (∀i u,CC 51 #[NV (P i),NV a,NV m] u (.tuple #[NV (P (i+1)),.int .i64 0]))):
 CC 40 #[NV a,NV e,NV m] w (.tuple #[NV (P e.toNat),.int .i64 0]):=by
 have hb:=lenI_bd e
 obtain⟨L,hLe⟩: ∃L:Nat,lenI e=(L:Int):=⟨(lenI e).toNat,by omega⟩
 have hL:Hid (∀u,CC 67 #[NV e] u (.int .i64 (L:Int))):=fun u=>by rw[<-hLe];exact nrLen e u
 have hlt:=lenI_lt he
 rw[hLe] at hlt hb
 have h0:Hid (P (e/2^L).toNat=1%m):=by
  show P (e/2^L).toNat=1%m
  rw[Int.ediv_eq_zero_of_lt he.1 (by simpa using hlt),<-hP0];rfl
 have hL256:L<=256:=by omega
 clear hLe hlt hb hP0
 go_enter Tryz.func40,Tryz.ntmps40
 go_upto_region 1 with fail
 generalize hC:((((w.alloc (.cells (LN a:List Value).toArray 24)).alloc (.cells (LN e:List Value).toArray 24)).alloc (.cells (LN m:List Value).toArray 24)).alloc (.cells (L0s:List Value).toArray 24))=v0 at *
 have HB0:Bw w v0:=by rw[<-hC];exact Z1 (Z1 (Z1 (Z1 (Z6 w) _) _) _) _
 have K0:Bk w.heap.size v0 [(true,w.heap.size,LN a),(true,w.heap.size+1,LN e),(true,w.heap.size+1+1,LN m),(true,w.heap.size+1+1+1,L0s)]:=by rw[<-hC];exact(Bk.nil _ w).ad.ad.ad.ad
 clear hC
 refine rgP K0 HB0 HB0.size [] [(6,8,L0s,some (7,LN (1%m)))] [(0,12,WV 1),(1,13,NV m),(2,14,.tuple #[NV (1%m),.int .i64 0]),(3,11,.tuple #[NV (1%m),.int .i64 0]),(4,15,NV (1%m)),(5,16,.int .i64 0),(8,9,.int .i64 0)] [(7,6)] [] [] ?_ ?_
 ·exact oc (g_bd (fun uZ=>bdw1 uZ))<|oc (g_ld 2 uN iN)<|oc (g_cl Z7 (fun uZ=>W5 1 m uZ In_1.wide hm h))<|oc g_mv<|oc g_ex<|oc g_ex<|oc (g_al 0 aN)<|oc (g_sn 0 iN)<|oc g_as on
 intro u1 b1_6 HB1 sz1 K1
 simp only[sQ] at K1⊢
 clear K0 HB0
 go_upto_region 4 with fail
 refine rgP K1 HB1 HB1.size [] [] [(0,21,NV e),(1,22,.int .i64 (L:Int)),(2,23,.int .i64 ((L:Int) -1)),(3,10,.int .i64 ((L:Int) -1))] [] [] [] ?_ ?_
 ·exact oc (g_ld 1 uN iN)<|oc (g_cl Wx (fun uZ=>hL.out uZ))<|oc (g_bn (fun uZ=>Xm _ _ (L:Int) 1 ((L:Int) -1) uZ rfl (by omega) (by omega)))<|oc g_as on
 intro u2 HB2 sz2 K2
 simp only[sQ] at K2⊢
 clear K1 HB1
 go_wp2_with fail
 go_loopw [10] (fun s10 wr=> ∃(j:Nat),j<=L/\s10= .int .i64 ((j:Int) -1)/\Bw w wr/\CV wr (w.heap.size) (LN a)/\CV wr (w.heap.size+1) (LN e)/\CV wr (w.heap.size+1+1) (LN m)/\CV wr (w.heap.size+1+1+1) L0s/\CV wr b1_6 (LN (P (e/2^j).toNat))/\b1_6<wr.heap.size) (fun s10 _=>(intOf s10+1).toNat)
 case atStart=>exact⟨L,by omega,rfl,HB2,(K2.cv 0),(K2.cv 1),(K2.cv 2),(K2.cv 3),by rw[h0.out];exact(K2.cv 4),(K2.lt 4)⟩
 case round=>
  obtain⟨j,hj,rfl,HBr,Ka,Ke,Km,Kr,Kp,lp⟩:=hrel
  clear HB2
  have hn:=K2.n
  simp at hn
  have ho4:=K2.lo 4
  by_cases hj0:j=0
  ·have hb:decide (0<=(j:Int) -1)=false:=by simp;omega
   have hend:(e/2^j).toNat=e.toNat:=by rw[hj0];simp
   have Kp:CV wr b1_6 (LN (P e.toNat)):=by rw[<-hend];exact Kp
   clear hend
   have K2_1:Bk w.heap.size wr [(false,w.heap.size,LN a),(false,w.heap.size+1,LN e),(false,w.heap.size+1+1,LN m),(true,w.heap.size+1+1+1,L0s),(false,b1_6,LN (P e.toNat))]:=⟨.c (by omega) Ka<| .c (by omega) Ke<| .c (by omega) Km<| .o (by omega) (K2.lo 3) Kr<| .c lp Kp<|trivial,by simp;omega⟩
   go_upto_region 5 with fail
   refine rgP K2_1 HBr HBr.size [] [] [(0,24,.int .i64 ((j:Int) -1)),(1,25,.bool false)] [] [] [false,false,false] ?_ ?_
   ·exact oc g_mv<|oc (g_bn (fun uZ=>geq_i _ _ ((j:Int) -1) 0 _ uZ hb)) on
   intro u3 HB3 sz3 K3
   simp only[sQ] at K3⊢
   go_upto_region 10 with fail
   refine rgP K3 HB3 HB3.size [.all 1 (LN (P e.toNat))] [] [(0,45,NV (P e.toNat)),(2,7,(Go.Value.int Go.IntKind.i64 0))] [] [] [true,false] ?_ ?_
   ·exact oc (g_ld 1 uN iN)<|oc (g_st 0 iN)<|oc g_as on
   intro u4 HB4 sz4 K4
   simp only[sQ] at K4⊢
   clear K3 HB3
   have c6:=(K4.cv 0).n4
   go_wp2
   refine bodyPost_ret (v:= .tuple #[NV (P e.toNat),.int .i64 0]) (by simp[results,Tryz.results40,go_sem,c6]) rfl ⟨rfl,HB4⟩
  ·obtain⟨k,rfl⟩: ∃k,j=k+1:=⟨j -1,by omega⟩
   have hb:decide (0<=((k+1:Nat):Int) -1)=true:=by simp
   obtain⟨n,hn⟩: ∃n:Nat,(e/2^(k+1)).toNat=n:=⟨_,rfl⟩
   have hts:=top_step e he.1 k
   have hnn:0<=e/2^(k+1):=Int.ediv_nonneg he.1 (Int.le_of_lt (Int.pow_pos (by decide)))
   have Kp:CV wr b1_6 (LN (P n)):=by rw[<-hn];exact Kp
   have hnx:Hid ((e/2^k).toNat=n+n+(if bitI e k then 1 else 0)):=by
    show (e/2^k).toNat=_
    rw[hts]
    split<;>omega
   clear hts hn hnn hj0
   have K2_1:Bk w.heap.size wr [(false,w.heap.size,LN a),(false,w.heap.size+1,LN e),(false,w.heap.size+1+1,LN m),(false,w.heap.size+1+1+1,L0s),(true,b1_6,LN (P n))]:=⟨.c (by omega) Ka<| .c (by omega) Ke<| .c (by omega) Km<| .c (by omega) Kr<| .o lp (K2.lo 4) Kp<|trivial,by simp;omega⟩
   go_upto_region 5 with fail
   refine rgP K2_1 HBr HBr.size [] [] [(0,24,.int .i64 (((k+1:Nat):Int) -1)),(1,25,.bool true)] [] [] [] ?_ ?_
   ·exact oc g_mv<|oc (g_bn (fun uZ=>geq_i _ _ (((k+1:Nat):Int) -1) 0 _ uZ hb)) on
   intro u3 HB3 sz3 K3
   simp only[sQ] at K3⊢
   go_upto_region 7 with fail
   refine rgP K3 HB3 HB3.size [.no,.no,.no,.no,.all 7 (LN (P (n+n)))] [] [(0,29,NV (P n)),(1,30,NV (P n)),(2,31,NV m),(3,32,.tuple #[NV (P (n+n)),.int .i64 0]),(4,28,.tuple #[NV (P (n+n)),.int .i64 0]),(5,33,NV (P (n+n))),(6,34,.int .i64 0)] [(7,0),(7,1)] [] [] ?_ ?_
   ·exact oc (g_ld 4 uN iN)<|oc (g_ld 4 uN iN)<|oc (g_ld 2 uN iN)<|oc (g_cl Zn (fun uZ=>hQ.out n n uZ))<|oc g_mv<|oc g_ex<|oc g_ex<|oc (g_st 4 iN) on
   intro u4 HB4 sz4 K4
   simp only[sQ] at K4⊢
   clear K3 HB3
   cases hbit:bitI e k
   ·have Hb:Hid (bitI e k=false):=hbit
    clear hbit
    go_upto_region 8 with fail
    refine rgP K4 HB4 HB4.size [] [] [(0,35,NV e),(1,36,.int .i64 (((k+1:Nat):Int) -1)),(2,37,.bool false)] [] [] [] ?_ ?_
    ·exact oc (g_ld 1 uN iN)<|oc g_mv<|oc (g_cl Xp (fun uZ=>by have h1:=nrBit e k uZ (by omega) (by omega);rw[Hb.out,show (k:Int)=((k+1:Nat):Int) -1 by omega] at h1;exact h1)) on
    intro u5 HB5 sz5 K5
    simp only[sQ] at K5⊢
    clear K4 HB4
    go_upto_region 6 with fail
    refine rgP K5 HB5 HB5.size [] [] [(0,26,.int .i64 (((k+1:Nat):Int) -1)),(1,27,.int .i64 ((k:Int) -1)),(2,10,.int .i64 ((k:Int) -1))] [(2,0)] [(2,10)] [] ?_ ?_
    ·exact oc g_mv<|oc (g_bn (fun uZ=>Xm _ _ (((k+1:Nat):Int) -1) 1 ((k:Int) -1) uZ (by omega) (by omega) (by omega)))<|oc g_as on
    intro u6 HB6 sz6 K6
    simp only[sQ] at K6⊢
    clear K5 HB5
    go_wp2
    refine⟨⟨k,by omega,rfl,HB6,(K6.cv 0),(K6.cv 1),(K6.cv 2),(K6.cv 3),by rw[hnx.out];simp only[Hb.out];exact(K6.cv 4),(K6.lt 4)⟩,?_⟩
    simp[intOf]<;>omega
   ·have Hb:Hid (bitI e k=true):=hbit
    clear hbit
    go_upto_region 8 with fail
    refine rgP K4 HB4 HB4.size [] [] [(0,35,NV e),(1,36,.int .i64 (((k+1:Nat):Int) -1)),(2,37,.bool true)] [] [] [] ?_ ?_
    ·exact oc (g_ld 1 uN iN)<|oc g_mv<|oc (g_cl Xp (fun uZ=>by have h1:=nrBit e k uZ (by omega) (by omega);rw[Hb.out,show (k:Int)=((k+1:Nat):Int) -1 by omega] at h1;exact h1)) on
    intro u5 HB5 sz5 K5
    simp only[sQ] at K5⊢
    clear K4 HB4
    go_upto_region 9 with fail
    refine rgP K5 HB5 HB5.size [.no,.no,.no,.no,.all 7 (LN (P (n+n+1)))] [] [(0,39,NV (P (n+n))),(1,40,NV a),(2,41,NV m),(3,42,.tuple #[NV (P (n+n+1)),.int .i64 0]),(4,38,.tuple #[NV (P (n+n+1)),.int .i64 0]),(5,43,NV (P (n+n+1))),(6,44,.int .i64 0)] [(7,0)] [] [] ?_ ?_
    ·exact oc (g_ld 4 uN iN)<|oc (g_ld 0 uN iN)<|oc (g_ld 2 uN iN)<|oc (g_cl Zn (fun uZ=>hU.out (n+n) uZ))<|oc g_mv<|oc g_ex<|oc g_ex<|oc (g_st 4 iN) on
    intro u6 HB6 sz6 K6
    simp only[sQ] at K6⊢
    clear K5 HB5
    go_upto_region 6 with fail
    refine rgP K6 HB6 HB6.size [] [] [(0,26,.int .i64 (((k+1:Nat):Int) -1)),(1,27,.int .i64 ((k:Int) -1)),(2,10,.int .i64 ((k:Int) -1))] [(2,0)] [(2,10)] [] ?_ ?_
    ·exact oc g_mv<|oc (g_bn (fun uZ=>Xm _ _ (((k+1:Nat):Int) -1) 1 ((k:Int) -1) uZ (by omega) (by omega) (by omega)))<|oc g_as on
    intro u7 HB7 sz7 K7
    simp only[sQ] at K7⊢
    clear K6 HB6
    go_wp2
    refine⟨⟨k,by omega,rfl,HB7,(K7.cv 0),(K7.cv 1),(K7.cv 2),(K7.cv 3),by rw[hnx.out];simp only[Hb.out];exact(K7.cv 4),(K7.lt 4)⟩,?_⟩
    simp[intOf]<;>omega
theorem xExp (a e m:Int) (w:World) (ha:In a) (he:In e) (hm:In m) (h:m≠0):
 CC 40 #[NV a,NV e,NV m] w (.tuple #[NV (a^e.toNat%m),.int .i64 0]):=by
 refine xExpP (fun k=>a^k%m) a e m w ha he hm h (by simp only[Int.pow_zero]) (fun i j u=>?_) (fun i u=>?_)
 ·have k:=xMul (a^i%m) (a^j%m) m u (Zw hm h) (Zw hm h) hm h
  rw[<-Int.mul_emod,<-Int.pow_add] at k
  exact k
 ·have k:=xMul (a^i%m) a m u (Zw hm h) ha hm h
  rw[Int.mul_emod,Int.emod_emod,<-Int.mul_emod,<-Int.pow_succ] at k
  exact k
theorem Vc (a b:Int) (w:World) (ha:In a) (hb:In b) (h:a+b<115792089237316195423570985008687907853269984665640564039457584007913129639936):CC 44 #[NV a,NV b] w (.tuple #[NV (a+b),.bool false]):=by
 have e:ovB a b=false:=by unfold ovB;simp;omega
 have k:=nrAdd a b w ha hb
 rw[e] at k;exact k
theorem nrAdd_ge (a b:Int) (w:World) (ha:In a) (hb:In b) (h:115792089237316195423570985008687907853269984665640564039457584007913129639936<=a+b):CC 44 #[NV a,NV b] w (.tuple #[NV (a+b -115792089237316195423570985008687907853269984665640564039457584007913129639936),.bool true]):=by
 have e:ovB a b=true:=by unfold ovB;simp;omega
 have k:=nrAdd a b w ha hb
 rw[e] at k;rw[NV_less];exact k
theorem nrSub_ge (a b:Int) (w:World) (ha:In a) (hb:In b) (h:b<=a):CC 45 #[NV a,NV b] w (.tuple #[NV (a -b),.bool false]):=by
 have e:ltB a b=false:=by unfold ltB;simp;omega
 have k:=nrSub a b w ha hb
 rw[e] at k;exact k
theorem nrSub_lt (a b:Int) (w:World) (ha:In a) (hb:In b) (h:a<b):CC 45 #[NV a,NV b] w (.tuple #[NV (a -b+115792089237316195423570985008687907853269984665640564039457584007913129639936),.bool true]):=by
 have e:ltB a b=true:=by unfold ltB;simp;omega
 have k:=nrSub a b w ha hb
 rw[e] at k;rw[NV_more];exact k
theorem xSub (a b m:Int) (w:World) (ha:In a) (hb:In b) (hm:In m) (h:m≠0):CC 71 #[NV a,NV b,NV m] w (.tuple #[NV ((a -b)%m),.int .i64 0]):=by
 have hm0:=hm.1;have hm2:=hm.2
 obtain⟨x,hx⟩: ∃x,a%m=x:=⟨_,rfl⟩
 obtain⟨y,hy⟩: ∃y,b%m=y:=⟨_,rfl⟩
 obtain⟨r,hr0⟩: ∃r,(a -b)%m=r:=⟨_,rfl⟩
 have x0:=Int.emod_nonneg a h;have x1:=Int.emod_lt_of_pos a (show 0<m by omega)
 have y0:=Int.emod_nonneg b h;have y1:=Int.emod_lt_of_pos b (show 0<m by omega)
 rw[hx] at x0 x1;rw[hy] at y0 y1
 have ix:In x:=⟨by omega,by omega⟩
 have iy:In y:=⟨by omega,by omega⟩
 have hX:Hid (∀u,CC 38 #[WV a,NV m] u (.tuple #[NV x,.int .i64 0])):=fun u=>by rw[<-hx];exact W5 a m u ha.wide hm h
 have hY:Hid (∀u,CC 38 #[WV b,NV m] u (.tuple #[NV y,.int .i64 0])):=fun u=>by rw[<-hy];exact W5 b m u hb.wide hm h
 have hr:Hid (r=if x<y then x -y+m else x -y):=by
  show r=_
  rw[<-hr0,Int.sub_emod,hx,hy]
  split
  ·rw[<-Int.add_emod_right (x -y) m,Int.emod_eq_of_lt (by omega) (by omega)]
  ·exact Int.emod_eq_of_lt (by omega) (by omega)
 rw[hr0]
 clear hx hy hr0
 go_enter Tryz.func71,Tryz.ntmps71
 go_upto_region 1 with fail
 generalize hC:((((w.alloc (.cells (LN a:List Value).toArray 24)).alloc (.cells (LN b:List Value).toArray 24)).alloc (.cells (LN m:List Value).toArray 24)).alloc (.cells (L0s:List Value).toArray 24))=v0 at *
 have HB0:Bw w v0:=by rw[<-hC];exact Z1 (Z1 (Z1 (Z1 (Z6 w) _) _) _) _
 have K0:Bk w.heap.size v0 [(true,w.heap.size,LN a),(true,w.heap.size+1,LN b),(true,w.heap.size+1+1,LN m),(true,w.heap.size+1+1+1,L0s)]:=by rw[<-hC];exact(Bk.nil _ w).ad.ad.ad.ad
 clear hC
 refine rgD K0 HB0 HB0.size [] [(7,8,L0s,some (8,LN x))] [(0,15,NV a),(1,16,WV a),(2,17,NV m),(3,18,.tuple #[NV x,.int .i64 0]),(4,14,.tuple #[NV x,.int .i64 0]),(5,19,NV x),(6,20,.int .i64 0),(9,9,.int .i64 0)] [(8,7)] [] [false] ?_ ?_
 ·exact oc (g_ld 0 uN iN)<|oc (g_cl Zd (fun uZ=>Vv a uZ ha))<|oc (g_ld 2 uN iN)<|oc (g_cl Z7 (fun uZ=>hX.out uZ))<|oc g_mv<|oc g_ex<|oc g_ex<|oc (g_al 0 aN)<|oc (g_sn 0 iN)<|oc g_as on
 intro u1 b1_7 HB1 sz1 K1
 simp only[sQ] at K1⊢
 clear K0 HB0
 go_upto_region 4 with fail
 refine rgD K1 HB1 HB1.size [] [(7,10,L0s,some (8,LN y))] [(0,26,NV b),(1,27,WV b),(2,28,NV m),(3,29,.tuple #[NV y,.int .i64 0]),(4,25,.tuple #[NV y,.int .i64 0]),(5,30,NV y),(6,31,.int .i64 0),(9,11,.int .i64 0)] [(8,7)] [] [false] ?_ ?_
 ·exact oc (g_ld 0 uN iN)<|oc (g_cl Zd (fun uZ=>Vv b uZ hb))<|oc (g_ld 1 uN iN)<|oc (g_cl Z7 (fun uZ=>hY.out uZ))<|oc g_mv<|oc g_ex<|oc g_ex<|oc (g_al 0 aN)<|oc (g_sn 0 iN)<|oc g_as on
 intro u2 b2_7 HB2 sz2 K2
 simp only[sQ] at K2⊢
 clear K1 HB1
 by_cases hc:x<y
 ·have hi:In (x -y+115792089237316195423570985008687907853269984665640564039457584007913129639936):=⟨by omega,by omega⟩
  obtain⟨z,hz1⟩: ∃z,x -y+115792089237316195423570985008687907853269984665640564039457584007913129639936=z:=⟨_,rfl⟩
  have h1:Hid (∀u,CC 45 #[NV x,NV y] u (.tuple #[NV z,.bool true])):=fun u=>by rw[<-hz1];exact nrSub_lt x y u ix iy hc
  have h2:Hid (∀u,CC 44 #[NV z,NV m] u (.tuple #[NV r,.bool true])):=fun u=>by
   have k:=nrAdd_ge z m u (by rw[<-hz1];exact hi) hm (by omega)
   rw[hr.out,if_pos hc,show x -y+m=z+m -115792089237316195423570985008687907853269984665640564039457584007913129639936 by omega];exact k
  clear hi hz1 hc hr
  go_upto_region 5 with fail
  refine rgP K2 HB2 HB2.size [] [(6,12,L0s,some (7,LN z))] [(0,33,NV x),(1,34,NV y),(2,35,.tuple #[NV z,.bool true]),(3,32,.tuple #[NV z,.bool true]),(4,36,NV z),(5,37,.bool true),(8,13,.bool true)] [(7,6)] [] [true,true,false,false] ?_ ?_
  ·exact oc (g_ld 2 uN iN)<|oc (g_ld 3 uN iN)<|oc (g_cl Yq (fun uZ=>h1.out uZ))<|oc g_mv<|oc g_ex<|oc g_ex<|oc (g_al 0 aN)<|oc (g_sn 0 iN)<|oc g_as on
  intro u3 b3_6 HB3 sz3 K3
  simp only[sQ] at K3⊢
  clear K2 HB2
  go_upto_region 7 with fail
  refine rgP K3 HB3 HB3.size [.no,.no,.all 6 (LN r)] [] [(0,40,NV z),(1,41,NV m),(2,42,.tuple #[NV r,.bool true]),(3,39,.tuple #[NV r,.bool true]),(4,43,NV r),(5,44,.bool true)] [(6,0)] [] [false] ?_ ?_
  ·exact oc (g_ld 2 uN iN)<|oc (g_ld 0 uN iN)<|oc (g_cl Z9 (fun uZ=>h2.out uZ))<|oc g_mv<|oc g_ex<|oc g_ex<|oc (g_st 2 iN) on
  intro u4 HB4 sz4 K4
  simp only[sQ] at K4⊢
  clear K3 HB3
  go_upto_region 8 with fail
  refine rgP K4 HB4 HB4.size [.all 1 (LN r)] [] [(0,45,NV r),(2,7,(Go.Value.int Go.IntKind.i64 0))] [] [] [true,false] ?_ ?_
  ·exact oc (g_ld 1 uN iN)<|oc (g_st 0 iN)<|oc g_as on
  intro u5 HB5 sz5 K5
  simp only[sQ] at K5⊢
  clear K4 HB4
  have c6:=(K5.cv 0).n4
  go_wp2
  refine bodyPost_ret (v:= .tuple #[NV r,.int .i64 0]) (by simp[results,Tryz.results71,go_sem,c6]) rfl ⟨rfl,HB5⟩
 ·have h1:Hid (∀u,CC 45 #[NV x,NV y] u (.tuple #[NV r,.bool false])):=fun u=>by rw[hr.out,if_neg hc];exact nrSub_ge x y u ix iy (by omega)
  clear hr hc
  go_upto_region 5 with fail
  refine rgP K2 HB2 HB2.size [] [(6,12,L0s,some (7,LN r))] [(0,33,NV x),(1,34,NV y),(2,35,.tuple #[NV r,.bool false]),(3,32,.tuple #[NV r,.bool false]),(4,36,NV r),(5,37,.bool false),(8,13,.bool false)] [(7,6)] [] [false,true,false,false] ?_ ?_
  ·exact oc (g_ld 2 uN iN)<|oc (g_ld 3 uN iN)<|oc (g_cl Yq (fun uZ=>h1.out uZ))<|oc g_mv<|oc g_ex<|oc g_ex<|oc (g_al 0 aN)<|oc (g_sn 0 iN)<|oc g_as on
  intro u3 b3_6 HB3 sz3 K3
  simp only[sQ] at K3⊢
  clear K2 HB2
  go_upto_region 8 with fail
  refine rgP K3 HB3 HB3.size [.all 1 (LN r)] [] [(0,45,NV r),(2,7,(Go.Value.int Go.IntKind.i64 0))] [] [] [true,false] ?_ ?_
  ·exact oc (g_ld 1 uN iN)<|oc (g_st 0 iN)<|oc g_as on
  intro u4 HB4 sz4 K4
  simp only[sQ] at K4⊢
  clear K3 HB3
  have c6:=(K4.cv 0).n4
  go_wp2
  refine bodyPost_ret (v:= .tuple #[NV r,.int .i64 0]) (by simp[results,Tryz.results71,go_sem,c6]) rfl ⟨rfl,HB4⟩
def P512:Int:=115792089237316195423570985008687907853269984665640564039457584007913129639936*115792089237316195423570985008687907853269984665640564039457584007913129639936
theorem half {x y:Int} (hx:0<=x) (hy:0<y) (h:y<=x):2*(x%y)<=x:=by
 have e:=Int.mul_ediv_add_emod x y
 have l:=Int.emod_lt_of_pos x hy
 have n:=Int.emod_nonneg x (show y≠0 by omega)
 have q:1<=x/y:=by
  by_cases h1:x/y<1
  ·have hq:0<=x/y:=Int.ediv_nonneg hx (by omega)
   have:x/y=0:=by omega
   rw[this] at e;simp at e;omega
  ·omega
 have m:=Int.mul_le_mul_of_nonneg_left q (show 0<=y by omega)
 omega
def PBk (k:Nat) (x y:Int):Prop:=y=0\/k=0\/(y<=x/\x*y*2^(k -1)<P512)
theorem P512_e:P512=115792089237316195423570985008687907853269984665640564039457584007913129639936*115792089237316195423570985008687907853269984665640564039457584007913129639936:=rfl
theorem P_le (k:Nat):P512<=2^(512+k):=by
 rw[show 512+k=256+(256+k) by omega,Int.pow_add,Int.pow_add,show (2:Int)^256=115792089237316195423570985008687907853269984665640564039457584007913129639936 by decide]
 have p:(0:Int)<2^k:=Int.pow_pos (by omega)
 unfold P512
 omega
theorem prod_lt {x y:Int} (hx:In x) (hy:In y):x*y<P512:=by
 rw[P512_e]
 have h1:=Int.mul_le_mul_of_nonneg_right (show x<=115792089237316195423570985008687907853269984665640564039457584007913129639935 by have:=hx.2;omega) hy.1
 have h2:=hy.2
 omega
theorem PBk.step {k:Nat} {x y:Int} (hx:In x) (hy:In y) (h:y≠0) (hP:PBk k x y):PBk (k+1) y (x%y):=by
 have y1:0<y:=by have:=hy.1;omega
 have l:=Int.emod_lt_of_pos x y1
 have n:=Int.emod_nonneg x h
 have ir:In (x%y):=Zw hy h
 have base:y*(x%y)<P512:=prod_lt hy ir
 refine .inr (.inr ⟨by omega,?_⟩)
 rcases hP with h0 | h0 | ⟨h1,h2⟩
 ·exact absurd h0 h
 ·subst h0;simpa using base
 ·by_cases hk:k=0
  ·subst hk;simpa using base
  ·obtain⟨j,rfl⟩: ∃j,k=j+1:=⟨k -1,by omega⟩
   simp only[Nat.add_sub_cancel] at h2⊢
   have hh:=half hx.1 y1 h1
   have p:(0:Int)<2^j:=Int.pow_pos (by omega)
   have m1:y*(2*(x%y))<=y*x:=Int.mul_le_mul_of_nonneg_left hh (by omega)
   have m2:=Int.mul_le_mul_of_nonneg_right m1 (Int.le_of_lt p)
   have e:y*(x%y)*2^(j+1)=y*(2*(x%y))*2^j:=by rw[Int.pow_succ];grind
   have e2:y*x=x*y:=Int.mul_comm _ _
   rw[e];rw[e2] at m2;omega
theorem PBk.fin {x y:Int} (hy:In y) (hP:PBk 600 x y):y=0:=by
 rcases hP with h | h | ⟨h1,h2⟩
 ·exact h
 ·omega
 ·by_cases h:y<1
  ·have:=hy.1;omega
  ·exfalso
   have m0:1*1<=x*y:=Int.mul_le_mul (by omega) (by omega) (by omega) (by omega)
   have p:(0:Int)<=2^(512+87):=Int.le_of_lt (Int.pow_pos (by omega))
   have m:=Int.mul_le_mul_of_nonneg_right m0 p
   have c:=P_le 87
   have h2':x*y*2^(512+87)<P512:=h2
   generalize (2:Int)^(512+87)=z at *
   omega
structure RV (m a x y fx fy:Int) (k:Nat):Prop where
 x0:0<=x
 xy:x<y
 ym:y<=m
 g:gI y x=gI m a
 dx:m∣fx*a -x
 dy:m∣fy*a -y
 fx0:0<=fx/\fx<m
 fy0:0<=fy/\fy<m
 b:y*x*2^k<P512
theorem RV.start {m a:Int} (hm:In m) (h1:1<m) (h0:0<=a) (ha:a<m):RV m a a m 1 0 0 where
 x0:=h0
 xy:=ha
 ym:=Int.le_refl _
 g:=rfl
 dx:=⟨0,by omega⟩
 dy:=⟨-1,by omega⟩
 fx0:=⟨by omega,h1⟩
 fy0:=⟨by omega,by omega⟩
 b:=by
  have:=prod_lt hm (show In a from ⟨h0,by have:=hm.2;omega⟩)
  simpa using this
theorem RV.step {m a x y fx fy:Int} {k:Nat} (h:RV m a x y fx fy k) (hx:x≠0):RV m a (y%x) x ((fy -y/x*fx%m)%m) fx (k+1) where
 x0:=Int.emod_nonneg _ hx
 xy:=Int.emod_lt_of_pos _ (by have:=h.x0;omega)
 ym:=by have:=h.xy;have:=h.ym;omega
 g:=by rw[gI_step y x (by have:=h.x0;have:=h.xy;omega) h.x0 hx];exact h.g
 dx:=by
  obtain⟨p,hp⟩:=h.dx
  obtain⟨q,hq⟩:=h.dy
  have e1:=Int.mul_ediv_add_emod (y/x*fx) m
  have e2:=Int.mul_ediv_add_emod (fy -y/x*fx%m) m
  have e3:=Int.mul_ediv_add_emod y x
  generalize (fy -y/x*fx%m)%m=u at *
  generalize (fy -y/x*fx%m)/m=u1 at *
  generalize y/x*fx%m=v at *
  generalize y/x*fx/m=v1 at *
  generalize y%x=r at *
  generalize y/x=s at *
  exact⟨q -s*p+v1*a -u1*a,by grind⟩
 dy:=h.dx
 fx0:=by
  have m0:0<m:=by have:=h.x0;have:=h.xy;have:=h.ym;omega
  exact⟨Int.emod_nonneg _ (by omega),Int.emod_lt_of_pos _ m0⟩
 fy0:=h.fx0
 b:=by
  have x1:0<x:=by have:=h.x0;omega
  have hh:=half (show 0<=y by have:=h.xy;omega) x1 (by have:=h.xy;omega)
  have p:(0:Int)<2^k:=Int.pow_pos (by omega)
  have m1:x*(2*(y%x))<=x*y:=Int.mul_le_mul_of_nonneg_left hh (by omega)
  have m2:=Int.mul_le_mul_of_nonneg_right m1 (Int.le_of_lt p)
  have e:x*(y%x)*2^(k+1)=x*(2*(y%x))*2^k:=by rw[Int.pow_succ];grind
  have hb:=h.b
  have e2:x*y=y*x:=Int.mul_comm _ _
  rw[e];rw[e2] at m2;omega
theorem RV.fin {m a x y fx fy:Int} (h:RV m a x y fx fy 600):x=0:=by
 by_cases h1:x<1
 ·have:=h.x0;omega
 ·exfalso
  have hb:=h.b
  have m0:1*1<=y*x:=Int.mul_le_mul (by have:=h.xy;omega) (by omega) (by omega) (by have:=h.xy;omega)
  have p:(0:Int)<=2^(512+88):=Int.le_of_lt (Int.pow_pos (by omega))
  have m:=Int.mul_le_mul_of_nonneg_right m0 p
  have c:=P_le 88
  have hb:y*x*2^(512+88)<P512:=hb
  generalize (2:Int)^(512+88)=z at *
  omega
theorem bd1 (w:World):(Instr.build 24 [(0,.int .u64 1)].toArray).run Tryz.prog w= .ok (NV 1) w:=by
 have k:(Instr.build 24 [(0,.int .u64 1)].toArray).run Tryz.prog w= .ok (A4 1 0 0 0) w:=by kernel_rfl
 rw[Vj (show (0:Int)<=1 by omega) (by omega)];exact k
theorem bd4 (x y z t:Int) (w:World):(Instr.build 24 [(0,.int .u64 x),(1,.int .u64 y),(2,.int .u64 z),(3,.int .u64 t)].toArray).run Tryz.prog w= .ok (A4 x y z t) w:=by kernel_rfl
theorem xInverse1 (a m:Int) (w:World) (ha:In a) (hm:In m) (h:m≠0) (h1:decide (m=1)=true):
 CC 42 #[NV a,NV m] w (.tuple #[A4 0 0 0 0,.int .i64 0]):=by
 go_enter Tryz.func42,Tryz.ntmps42
 go_upto_region 1 with fail
 generalize hC:(((w.alloc (.cells (LN a:List Value).toArray 24)).alloc (.cells (LN m:List Value).toArray 24)).alloc (.cells (L0s:List Value).toArray 24))=v0 at *
 have HB0:Bw w v0:=by rw[<-hC];exact Z1 (Z1 (Z1 (Z6 w) _) _) _
 have K0:Bk w.heap.size v0 [(true,w.heap.size,LN a),(true,w.heap.size+1,LN m),(true,w.heap.size+1+1,L0s)]:=by rw[<-hC];exact(Bk.nil _ w).ad.ad.ad
 clear hC
 refine rgD K0 HB0 HB0.size [] [(7,6,L0s,some (8,LN (a%m)))] [(0,21,NV a),(1,22,WV a),(2,23,NV m),(3,24,.tuple #[NV (a%m),.int .i64 0]),(4,20,.tuple #[NV (a%m),.int .i64 0]),(5,25,NV (a%m)),(6,26,.int .i64 0),(9,7,.int .i64 0)] [(8,7)] [] [false,true,true,false] ?_ ?_
 ·exact oc (g_ld 0 uN iN)<|oc (g_cl Zd (fun uZ=>Vv a uZ ha))<|oc (g_ld 1 uN iN)<|oc (g_cl Z7 (fun uZ=>W5 a m uZ ha.wide hm h))<|oc g_mv<|oc g_ex<|oc g_ex<|oc (g_al 0 aN)<|oc (g_sn 0 iN)<|oc g_as on
 intro u1 b1_7 HB1 sz1 K1
 simp only[sQ] at K1⊢
 clear K0 HB0
 go_upto_region 2 with fail
 refine rgP K1 HB1 HB1.size [] [] [(0,27,.int .i64 0),(1,28,.bool false)] [] [] [] ?_ ?_
 ·exact oc g_mv<|oc (g_bn (fun uZ=>Tu _ _ _ 0 0 _ uZ rfl)) on
 intro u2 HB2 sz2 K2
 simp only[sQ] at K2⊢
 clear K1 HB1
 go_upto_region 4 with fail
 refine rgP K2 HB2 HB2.size [] [] [(0,31,NV m),(1,32,NV 1),(2,33,.bool true)] [] [] [false] ?_ ?_
 ·exact oc (g_ld 0 uN iN)<|oc (g_bd (fun uZ=>bd1 uZ))<|oc (g_bn (fun uZ=>eql_n _ _ hm In_1 _ h1 uZ)) on
 intro u3 HB3 sz3 K3
 simp only[sQ] at K3⊢
 clear K2 HB2
 go_upto_region 5 with fail
 refine rgP K3 HB3 HB3.size [.all 1 ([.int .u64 (0),.int .u64 (0),.int .u64 (0),.int .u64 (0)])] [] [(0,34,A4 (0) (0) (0) (0)),(2,5,(Go.Value.int Go.IntKind.i64 0))] [] [] [] ?_ ?_
 ·exact oc (g_bd zN)<|oc (g_st 0 iN)<|oc g_as on
 intro u4 HB4 sz4 K4
 simp only[sQ] at K4⊢
 clear K3 HB3
 have c4:=(K4.cv 0).n4
 go_wp2
 refine bodyPost_ret (v:= .tuple #[A4 0 0 0 0,.int .i64 0]) (by simp[results,Tryz.results42,go_sem,c4]) rfl ⟨rfl,HB4⟩
theorem xInverseG (a m:Int) (R:Value) (w:World) (ha:In a) (hm:In m) (h:m≠0) (hm1:1<m) (h1:decide (m=1)=false) (hno:gI m (a%m)≠1->R= .tuple #[A4 0 0 0 0,.int .i64 20]) (hyes:gI m (a%m)=1-> ∀x,IsInv (a%m) m x->R= .tuple #[NV x,.int .i64 0]):
 CC 42 #[NV a,NV m] w R:=by
 go_enter Tryz.func42,Tryz.ntmps42
 go_upto_region 1 with fail
 generalize hC:(((w.alloc (.cells (LN a:List Value).toArray 24)).alloc (.cells (LN m:List Value).toArray 24)).alloc (.cells (L0s:List Value).toArray 24))=v0 at *
 have HB0:Bw w v0:=by rw[<-hC];exact Z1 (Z1 (Z1 (Z6 w) _) _) _
 have K0:Bk w.heap.size v0 [(true,w.heap.size,LN a),(true,w.heap.size+1,LN m),(true,w.heap.size+1+1,L0s)]:=by rw[<-hC];exact(Bk.nil _ w).ad.ad.ad
 clear hC
 refine rgD K0 HB0 HB0.size [] [(7,6,L0s,some (8,LN (a%m)))] [(0,21,NV a),(1,22,WV a),(2,23,NV m),(3,24,.tuple #[NV (a%m),.int .i64 0]),(4,20,.tuple #[NV (a%m),.int .i64 0]),(5,25,NV (a%m)),(6,26,.int .i64 0),(9,7,.int .i64 0)] [(8,7)] [] [false] ?_ ?_
 ·exact oc (g_ld 0 uN iN)<|oc (g_cl Zd (fun uZ=>Vv a uZ ha))<|oc (g_ld 1 uN iN)<|oc (g_cl Z7 (fun uZ=>W5 a m uZ ha.wide hm h))<|oc g_mv<|oc g_ex<|oc g_ex<|oc (g_al 0 aN)<|oc (g_sn 0 iN)<|oc g_as on
 intro u1 b1_7 HB1 sz1 K1
 simp only[sQ] at K1⊢
 clear K0 HB0
 go_upto_region 2 with fail
 refine rgP K1 HB1 HB1.size [] [] [(0,27,.int .i64 0),(1,28,.bool false)] [] [] [] ?_ ?_
 ·exact oc g_mv<|oc (g_bn (fun uZ=>Tu _ _ _ 0 0 _ uZ rfl)) on
 intro u2 HB2 sz2 K2
 simp only[sQ] at K2⊢
 clear K1 HB1
 go_upto_region 4 with fail
 refine rgP K2 HB2 HB2.size [] [] [(0,31,NV m),(1,32,NV 1),(2,33,.bool false)] [] [] [] ?_ ?_
 ·exact oc (g_ld 0 uN iN)<|oc (g_bd (fun uZ=>bd1 uZ))<|oc (g_bn (fun uZ=>eql_n _ _ hm In_1 _ h1 uZ)) on
 intro u3 HB3 sz3 K3
 simp only[sQ] at K3⊢
 clear K2 HB2
 go_upto_region 6 with fail
 refine rgP K3 HB3 HB3.size [] [(3,8,L0s,some (6,LN m)),(4,9,L0s,some (7,LN 1)),(5,10,L0s,some (8,[.int .u64 (0),.int .u64 (0),.int .u64 (0),.int .u64 (0)]))] [(0,35,NV m),(1,36,NV 1),(2,37,A4 (0) (0) (0) (0))] [(6,3),(7,4),(8,5)] [] [] ?_ ?_
 ·exact oc (g_ld 0 uN iN)<|oc (g_bd (fun uZ=>bd1 uZ))<|oc (g_bd zN)<|oc (g_al 0 aN)<|oc (g_al 1 aN)<|oc (g_al 2 aN)<|oc (g_sn 0 iN)<|oc (g_sn 1 iN)<|oc (g_sn 2 iN) on
 intro u4 b4_3 b4_4 b4_5 HB4 sz4 K4
 simp only[sQ] at K4⊢
 clear K3 HB3
 go_upto_region 7 with fail
 refine rgP K4 HB4 HB4.size [] [] [(0,11,(Go.Value.int Go.IntKind.i64 0))] [] [] [] ?_ ?_
 ·exact oc g_as on
 intro u5 HB5 sz5 K5
 simp only[sQ] at K5⊢
 clear K4 HB4
 go_wp2_with fail
 go_loopw [11] (fun s11 wr=> ∃(k:Nat) (x y fx fy:Int),s11= .int .i64 (k:Int)/\k<=600/\RV m (a%m) x y fx fy k/\Bw w wr/\CV wr (w.heap.size+1) (LN m)/\CV wr (w.heap.size+1+1) L0s/\CV wr b1_7 (LN x)/\CV wr b4_3 (LN y)/\CV wr b4_4 (LN fx)/\CV wr b4_5 (LN fy)/\w.heap.size+1+1<wr.heap.size/\b1_7<wr.heap.size/\b4_3<wr.heap.size/\b4_4<wr.heap.size/\b4_5<wr.heap.size) (fun s11 _=>600 -(intOf s11).toNat)
 case atStart=>exact⟨0,a%m,m,1,0,rfl,by omega,RV.start hm hm1 (Int.emod_nonneg _ h) (Int.emod_lt_of_pos _ (by omega)),HB5,(K5.cv 0),(K5.cv 1),(K5.cv 2),(K5.cv 3),(K5.cv 4),by rw[LN_0];exact(K5.cv 5),(K5.lt 1),(K5.lt 2),(K5.lt 3),(K5.lt 4),(K5.lt 5)⟩
 case round=>
  obtain⟨k,x,y,fx,fy,rfl,hk,hR,HBr,Km,Kr,Kx,Ky,Kf,Kh,lr,lx,ly,lf,lh⟩:=hrel
  clear HB5
  have hn:=K5.n
  simp at hn
  have ho2:=K5.lo 2
  have ho3:=K5.lo 3
  have ho4:=K5.lo 4
  have ho5:=K5.lo 5
  have ix:In x:=S4 hm hR.x0 (by have:=hR.xy;have:=hR.ym;omega)
  have iy:In y:=S4 hm (by have:=hR.x0;have:=hR.xy;omega) hR.ym
  have ifx:In fx:=S4 hm hR.fx0.1 (by have:=hR.fx0.2;omega)
  have ify:In fy:=S4 hm hR.fy0.1 (by have:=hR.fy0.2;omega)
  by_cases h2:x=0
  ·have hz:decide (x=0)=!false:=by simp[h2]
   have hy:gI m (a%m)=y:=by rw[<-hR.g,h2,gI_0 y iy.1]
   have hI:y=1->IsInv (a%m) m fy:=fun e=>⟨hR.fy0.1,hR.fy0.2,by have:=hR.dy;rw[e] at this;exact this⟩
   have HI:Hid _:=hI
   have HY:Hid _:=hy
   clear hI hy hR
   by_cases h6:k<600
   ·have hl:decide ((k:Int)<600)=true:=by simp;omega
    have K5_1:Bk w.heap.size wr [(false,w.heap.size+1,LN m),(true,w.heap.size+1+1,L0s),(false,b1_7,LN x),(false,b4_3,LN y),(false,b4_4,LN fx),(false,b4_5,LN fy)]:=⟨.c (by omega) Km<| .o lr (K5.lo 1) Kr<| .c lx Kx<| .c ly Ky<| .c lf Kf<| .c lh Kh<|trivial,by simp;omega⟩
    go_upto_region 8 with fail
    refine rgP K5_1 HBr HBr.size [] [] [(0,38,.int .i64 (k:Int)),(1,39,.bool true),(2,40,.bool true),(3,41,NV x),(4,42,A4 (0) (0) (0) (0)),(5,43,.bool false),(6,44,.bool false)] [] [] [false,true,false,true,false] ?_ ?_
    ·exact oc g_mv<|oc (g_bn (fun uZ=>Zr _ _ (k:Int) 600 _ uZ hl))<|oc g_mv<|oc (g_ld 2 uN iN)<|oc (g_bd zN)<|oc (g_bn (fun uZ=>neq_0 _ _ ix _ hz uZ))<|oc g_pk on
    intro u6 HB6 sz6 K6
    simp only[sQ] at K6⊢
    by_cases h7:y=1
    ·have h8:decide (y=1)=!false:=by simp[h7]
     go_upto_region 16 with fail
     refine rgP K6 HB6 HB6.size [] [] [(0,82,NV y),(1,83,NV 1),(2,84,.bool false)] [] [] [true,false] ?_ ?_
     ·exact oc (g_ld 1 uN iN)<|oc (g_bd (fun uZ=>bd1 uZ))<|oc (g_bn (fun uZ=>neq_n _ _ iy In_1 _ h8 uZ)) on
     intro u7 HB7 sz7 K7
     simp only[sQ] at K7⊢
     clear K6 HB6
     go_upto_region 18 with fail
     refine rgP K7 HB7 HB7.size [.all 1 (LN fy)] [] [(0,86,NV fy),(2,5,(Go.Value.int Go.IntKind.i64 0))] [] [] [true,false] ?_ ?_
     ·exact oc (g_ld 1 uN iN)<|oc (g_st 0 iN)<|oc g_as on
     intro u8 HB8 sz8 K8
     simp only[sQ] at K8⊢
     clear K7 HB7
     have c4:=(K8.cv 0).n4
     go_wp2
     refine bodyPost_ret (v:= .tuple #[NV fy,.int .i64 0]) (by simp[results,Tryz.results42,go_sem,c4]) rfl ⟨by rw[hyes (by rw[HY.out];exact h7) _ (HI.out h7)],HB8⟩
    ·have h8:decide (y=1)=!true:=by simp[h7]
     go_upto_region 16 with fail
     refine rgP K6 HB6 HB6.size [] [] [(0,82,NV y),(1,83,NV 1),(2,84,.bool true)] [] [] [true,false,false] ?_ ?_
     ·exact oc (g_ld 1 uN iN)<|oc (g_bd (fun uZ=>bd1 uZ))<|oc (g_bn (fun uZ=>neq_n _ _ iy In_1 _ h8 uZ)) on
     intro u7 HB7 sz7 K7
     simp only[sQ] at K7⊢
     clear K6 HB6
     go_upto_region 17 with fail
     refine rgP K7 HB7 HB7.size [.all 1 ([.int .u64 (0),.int .u64 (0),.int .u64 (0),.int .u64 (0)])] [] [(0,85,A4 (0) (0) (0) (0)),(2,5,(Go.Value.int Go.IntKind.i64 20))] [] [] [] ?_ ?_
     ·exact oc (g_bd zN)<|oc (g_st 0 iN)<|oc g_as on
     intro u8 HB8 sz8 K8
     simp only[sQ] at K8⊢
     clear K7 HB7
     have c4:=(K8.cv 0).n4
     go_wp2
     refine bodyPost_ret (v:= .tuple #[A4 0 0 0 0,.int .i64 20]) (by simp[results,Tryz.results42,go_sem,c4]) rfl ⟨by rw[hno (by rw[HY.out];exact h7)],HB8⟩
   ·have hl:decide ((k:Int)<600)=false:=by simp;omega
    have K5_1:Bk w.heap.size wr [(false,w.heap.size+1,LN m),(true,w.heap.size+1+1,L0s),(false,b1_7,LN x),(false,b4_3,LN y),(false,b4_4,LN fx),(false,b4_5,LN fy)]:=⟨.c (by omega) Km<| .o lr (K5.lo 1) Kr<| .c lx Kx<| .c ly Ky<| .c lf Kf<| .c lh Kh<|trivial,by simp;omega⟩
    go_upto_region 8 with fail
    refine rgP K5_1 HBr HBr.size [] [] [(0,38,.int .i64 (k:Int)),(1,39,.bool false),(2,40,.bool false),(3,41,undef),(4,42,undef),(5,43,undef),(6,44,(Go.Value.bool Bool.false))] [] [] [false,true,false,true,false] ?_ ?_
    ·exact oc g_mv<|oc (g_bn (fun uZ=>Zr _ _ (k:Int) 600 _ uZ hl))<|oc g_mv<|oc g_sk<|oc g_sk<|oc g_sk<|oc g_pk on
    intro u6 HB6 sz6 K6
    simp only[sQ] at K6⊢
    by_cases h7:y=1
    ·have h8:decide (y=1)=!false:=by simp[h7]
     go_upto_region 16 with fail
     refine rgP K6 HB6 HB6.size [] [] [(0,82,NV y),(1,83,NV 1),(2,84,.bool false)] [] [] [true,false] ?_ ?_
     ·exact oc (g_ld 1 uN iN)<|oc (g_bd (fun uZ=>bd1 uZ))<|oc (g_bn (fun uZ=>neq_n _ _ iy In_1 _ h8 uZ)) on
     intro u7 HB7 sz7 K7
     simp only[sQ] at K7⊢
     clear K6 HB6
     go_upto_region 18 with fail
     refine rgP K7 HB7 HB7.size [.all 1 (LN fy)] [] [(0,86,NV fy),(2,5,(Go.Value.int Go.IntKind.i64 0))] [] [] [true,false] ?_ ?_
     ·exact oc (g_ld 1 uN iN)<|oc (g_st 0 iN)<|oc g_as on
     intro u8 HB8 sz8 K8
     simp only[sQ] at K8⊢
     clear K7 HB7
     have c4:=(K8.cv 0).n4
     go_wp2
     refine bodyPost_ret (v:= .tuple #[NV fy,.int .i64 0]) (by simp[results,Tryz.results42,go_sem,c4]) rfl ⟨by rw[hyes (by rw[HY.out];exact h7) _ (HI.out h7)],HB8⟩
    ·have h8:decide (y=1)=!true:=by simp[h7]
     go_upto_region 16 with fail
     refine rgP K6 HB6 HB6.size [] [] [(0,82,NV y),(1,83,NV 1),(2,84,.bool true)] [] [] [true,false,false] ?_ ?_
     ·exact oc (g_ld 1 uN iN)<|oc (g_bd (fun uZ=>bd1 uZ))<|oc (g_bn (fun uZ=>neq_n _ _ iy In_1 _ h8 uZ)) on
     intro u7 HB7 sz7 K7
     simp only[sQ] at K7⊢
     clear K6 HB6
     go_upto_region 17 with fail
     refine rgP K7 HB7 HB7.size [.all 1 ([.int .u64 (0),.int .u64 (0),.int .u64 (0),.int .u64 (0)])] [] [(0,85,A4 (0) (0) (0) (0)),(2,5,(Go.Value.int Go.IntKind.i64 20))] [] [] [] ?_ ?_
     ·exact oc (g_bd zN)<|oc (g_st 0 iN)<|oc g_as on
     intro u8 HB8 sz8 K8
     simp only[sQ] at K8⊢
     clear K7 HB7
     have c4:=(K8.cv 0).n4
     go_wp2
     refine bodyPost_ret (v:= .tuple #[A4 0 0 0 0,.int .i64 20]) (by simp[results,Tryz.results42,go_sem,c4]) rfl ⟨by rw[hno (by rw[HY.out];exact h7)],HB8⟩
  ·have h6:k<600:=by
    rcases Nat.lt_or_ge k 600 with h | h
    ·exact h
    ·have:k=600:=by omega
     subst this;exact absurd hR.fin h2
   have hl:decide ((k:Int)<600)=true:=by simp;omega
   have hz:decide (x=0)=!true:=by simp[h2]
   have hS:=hR.step h2
   have i1:In (y%x):=Zw ix h2
   have i2:In (y/x):=In_div iy ix h2
   have i3:In (y/x*fx%m):=Zw hm h
   clear hR
   have K5_1:Bk w.heap.size wr [(false,w.heap.size+1,LN m),(false,w.heap.size+1+1,L0s),(true,b1_7,LN x),(true,b4_3,LN y),(true,b4_4,LN fx),(true,b4_5,LN fy)]:=⟨.c (by omega) Km<| .c lr Kr<| .o lx (K5.lo 2) Kx<| .o ly (K5.lo 3) Ky<| .o lf (K5.lo 4) Kf<| .o lh (K5.lo 5) Kh<|trivial,by simp;omega⟩
   go_upto_region 8 with fail
   refine rgP K5_1 HBr HBr.size [] [] [(0,38,.int .i64 (k:Int)),(1,39,.bool true),(2,40,.bool true),(3,41,NV x),(4,42,A4 (0) (0) (0) (0)),(5,43,.bool true),(6,44,.bool true)] [] [] [] ?_ ?_
   ·exact oc g_mv<|oc (g_bn (fun uZ=>Zr _ _ (k:Int) 600 _ uZ hl))<|oc g_mv<|oc (g_ld 2 uN iN)<|oc (g_bd zN)<|oc (g_bn (fun uZ=>neq_0 _ _ ix _ hz uZ))<|oc g_pk on
   intro u6 HB6 sz6 K6
   simp only[sQ] at K6⊢
   go_upto_region 10 with fail
   refine rgD K6 HB6 HB6.size [] [(8,12,L0w,some (10,LW (y/x))),(9,13,L0s,some (11,LN (y%x)))] [(0,48,NV y),(1,49,WV y),(2,50,NV x),(3,51,.tuple #[WV (y/x),NV (y%x),.int .i64 0]),(4,47,.tuple #[WV (y/x),NV (y%x),.int .i64 0]),(5,52,WV (y/x)),(6,53,NV (y%x)),(7,54,.int .i64 0),(12,14,.int .i64 0)] [(10,8),(11,9)] [] [] ?_ ?_
   ·exact oc (g_ld 3 uN iN)<|oc (g_cl Zd (fun uZ=>Vv y uZ iy))<|oc (g_ld 2 uN iN)<|oc (g_cl X7 (fun uZ=>nrDivide y x uZ iy.wide ix h2))<|oc g_mv<|oc g_ex<|oc g_ex<|oc g_ex<|oc (g_al 0 aW)<|oc (g_al 1 aN)<|oc (g_sn 0 iW)<|oc (g_sn 1 iN)<|oc g_as on
   intro u7 b7_8 b7_9 HB7 sz7 K7
   simp only[sQ] at K7⊢
   clear K6 HB6
   go_upto_region 11 with fail
   refine rgP K7 HB7 HB7.size [] [(9,15,L0s,some (10,LN (y/x)))] [(0,55,.pointer (some ⟨b7_8,0,none⟩)),(1,56,.int .u64 (D0 (y/x))),(2,57,.pointer (some ⟨b7_8,1,none⟩)),(3,58,.int .u64 (D1 (y/x))),(4,59,.pointer (some ⟨b7_8,2,none⟩)),(5,60,.int .u64 (D2 (y/x))),(6,61,.pointer (some ⟨b7_8,3,none⟩)),(7,62,.int .u64 (D3 (y/x))),(8,63,NV (y/x))] [(10,9)] [] [true,true,true,true,true,true,false] ?_ ?_
   ·exact oc (g_ix (jW 0))<|oc (g_lc 6 0 lU)<|oc (g_ix (jW 1))<|oc (g_lc 6 1 lU)<|oc (g_ix (jW 2))<|oc (g_lc 6 2 lU)<|oc (g_ix (jW 3))<|oc (g_lc 6 3 lU)<|oc (g_bd (fun uZ=>bd4 _ _ _ _ uZ))<|oc (g_al 0 aN)<|oc (g_sn 0 iN) on
   intro u8 b8_9 HB8 sz8 K8
   simp only[sQ] at K8⊢
   clear K7 HB7
   go_upto_region 12 with fail
   refine rgP K8 HB8 HB8.size [] [(7,16,L0s,some (8,LN (y/x*fx%m)))] [(0,65,NV (y/x)),(1,66,NV fx),(2,67,NV m),(3,68,.tuple #[NV (y/x*fx%m),.int .i64 0]),(4,64,.tuple #[NV (y/x*fx%m),.int .i64 0]),(5,69,NV (y/x*fx%m)),(6,70,.int .i64 0),(9,17,.int .i64 0)] [(8,7)] [] [true,true,true,true,true,true,true,false] ?_ ?_
   ·exact oc (g_ld 7 uN iN)<|oc (g_ld 4 uN iN)<|oc (g_ld 0 uN iN)<|oc (g_cl Zn (fun uZ=>xMul (y/x) fx m uZ i2 ifx hm h))<|oc g_mv<|oc g_ex<|oc g_ex<|oc (g_al 0 aN)<|oc (g_sn 0 iN)<|oc g_as on
   intro u9 b9_7 HB9 sz9 K9
   simp only[sQ] at K9⊢
   clear K8 HB8
   go_upto_region 13 with fail
   refine rgP K9 HB9 HB9.size [] [(7,18,L0s,some (8,LN ((fy -y/x*fx%m)%m)))] [(0,72,NV fy),(1,73,NV (y/x*fx%m)),(2,74,NV m),(3,75,.tuple #[NV ((fy -y/x*fx%m)%m),.int .i64 0]),(4,71,.tuple #[NV ((fy -y/x*fx%m)%m),.int .i64 0]),(5,76,NV ((fy -y/x*fx%m)%m)),(6,77,.int .i64 0),(9,19,.int .i64 0)] [(8,7)] [] [true,true,true,true,true,true,true,false] ?_ ?_
   ·exact oc (g_ld 5 uN iN)<|oc (g_ld 7 uN iN)<|oc (g_ld 0 uN iN)<|oc (g_cl Vp (fun uZ=>xSub fy (y/x*fx%m) m uZ ify i3 hm h))<|oc g_mv<|oc g_ex<|oc g_ex<|oc (g_al 0 aN)<|oc (g_sn 0 iN)<|oc g_as on
   intro u10 b10_7 HB10 sz10 K10
   simp only[sQ] at K10⊢
   clear K9 HB9
   go_upto_region 14 with fail
   refine rgD K10 HB10 HB10.size [.no,.no,.no,.all 2 (LN x),.no,.all 3 (LN fx)] [] [(0,78,NV x),(1,79,NV fx)] [] [] [] ?_ ?_
   ·exact oc (g_ld 2 uN iN)<|oc (g_ld 4 uN iN)<|oc (g_st 3 iN)<|oc (g_st 5 iN) on
   intro u11 HB11 sz11 K11
   simp only[sQ] at K11⊢
   clear K10 HB10
   go_upto_region 15 with fail
   refine rgD K11 HB11 HB11.size [.no,.no,.all 2 (LN (y%x)),.no,.all 3 (LN ((fy -y/x*fx%m)%m))] [] [(0,80,NV (y%x)),(1,81,NV ((fy -y/x*fx%m)%m))] [] [] [true,true,true,true,true,true,false,false] ?_ ?_
   ·exact oc (g_ld 6 uN iN)<|oc (g_ld 7 uN iN)<|oc (g_st 2 iN)<|oc (g_st 4 iN) on
   intro u12 HB12 sz12 K12
   simp only[sQ] at K12⊢
   clear K11 HB11
   go_upto_region 9 with fail
   refine rgP K12 HB12 HB12.size [] [] [(0,45,.int .i64 (k:Int)),(1,46,.int .i64 ((k:Int)+1)),(2,11,.int .i64 ((k:Int)+1))] [(2,0)] [(2,11)] [] ?_ ?_
   ·exact oc g_mv<|oc (g_bn (fun uZ=>Ys _ _ (k:Int) 1 ((k:Int)+1) uZ rfl (by omega) (by omega)))<|oc g_as on
   intro u13 HB13 sz13 K13
   simp only[sQ] at K13⊢
   clear K12 HB12
   go_wp2
   refine⟨⟨k+1,y%x,x,(fy -y/x*fx%m)%m,fx,by simp,by omega,hS,HB13,(K13.cv 0),(K13.cv 1),(K13.cv 2),(K13.cv 3),(K13.cv 4),(K13.cv 5),(K13.lt 1),(K13.lt 2),(K13.lt 3),(K13.lt 4),(K13.lt 5)⟩,?_⟩
   simp[intOf]<;>omega
theorem xInverse (a m x:Int) (w:World) (ha:In a) (hm:In m) (h:m≠0) (hg:gI m (a%m)=1) (hx:IsInv (a%m) m x):
 CC 42 #[NV a,NV m] w (.tuple #[NV x,.int .i64 0]):=by
 by_cases h1:m=1
 ·have e:x=0:=by have:=hx.1;have:=hx.2.1;omega
  rw[e,NV_0];exact xInverse1 a m w ha hm h (by simp[h1])
 ·exact xInverseG a m _ w ha hm h (by have:=hm.1;omega) (by simp[h1]) (fun e=>absurd hg e) (fun _ y hy=>by rw[hx.uniq hy])
end Go.Proofs.YtknpepgonhdbgaaGreatDoor
