import Derived.Test.YtoffgfhilkpdpaaGreatDoorAPA
namespace Go.Proofs.YtoffgfhilkpdpaaGreatDoor
set_option linter.unusedVariables false
set_option linter.unusedSimpArgs false
set_option maxRecDepth 100000
set_option maxHeartbeats 4000000
open Go.RowKit
theorem nrLen(e:Int)(w:World):CC 91 #[NV e] w (iI (lenI e)):=
 rLength_any _ _ _ _ w (W_D0 e) (W_D1 e) (W_D2 e) (W_D3 e)
theorem nrBit(e i:Int)(w:World)(h0:0<=i)(h1:i<256):CC 92 #[NV e,iI i] w (.bool (bitI e i)):=by
 rw[<-bitv_I h0 h1];exact rBit_any _ _ _ _ i w (W_D0 e) (W_D1 e) (W_D2 e) (W_D3 e)
theorem bdw1(w:World):(Instr.build 91 [(0,iU 1)].toArray).run Tryz.prog w= .ok (WV 1) w:=by
 have e:WV 1=A8 1 0 0 0 0 0 0 0:=WV_of 1 1 0 0 0 0 0 0 0 ⟨Z1,Z1⟩ W_0 W_0 W_0 W_0 W_0 W_0 W_0 (by simp[V])
 have k:(Instr.build 91 [(0,iU 1)].toArray).run Tryz.prog w= .ok (A8 1 0 0 0 0 0 0 0) w:=by kernel_rfl
 rw[e];exact k
theorem xExpP(P:Nat->Int)(a e m:Int)(w:World)(ha:In a)(he:In e)(hm:In m)(h:m≠0)(hP0:P 0=1%m)
 (hQ:Hid (∀i j u,CC 19 #[NV (P i),NV (P j),NV m] u (.tuple #[NV (P (i+j)),iI 0])))
 (hU:Hid (∀i u,CC 19 #[NV (P i),NV a,NV m] u (.tuple #[NV (P (i+1)),iI 0]))):
 CC 69 #[NV a,NV e,NV m] w (.tuple #[NV (P e.toNat),iI 0]):=by
 have hb:=lenI_bd e
 obtain⟨L,hLe⟩: ∃L:Nat,lenI e=(L:Int):=⟨(lenI e).toNat,Z1⟩
 have hL:Hid (∀u,CC 91 #[NV e] u (iI (L:Int))):=fun u=>by rw[<-hLe];exact nrLen e u
 have hlt:=lenI_lt he
 rw[hLe] at hlt hb
 have h0:Hid (P (e/2^L).toNat=1%m):=by
  show P (e/2^L).toNat=1%m
  rw[Int.ediv_eq_zero_of_lt he.1 (by simpa using hlt),<-hP0];rfl
 have hL256:L<=256:=Z1
 clear hLe hlt hb hP0
 go_enter Tryz.func69,Tryz.ntmps69
 go_upto_region 1 with fail
 obtain⟨v0,hC,HB0,K0⟩:=bx4 w (LN a) 24 (LN e) 24 (LN m) 24 L0s 24
 rw[hC]
 clear hC
 refine Rp K0 HB0 [] [(6,8,L0s,some (7,LN (1%m)))] (cG 0 12 [_,_,_] [(3,11,_),(4,15,_),(5,16,_),(8,9,_)]) [(7,6)] [] [] (Oc9 (g_bd bdw1) (g_ld 2 uN iN) (g_cl Ze (fun uZ=>Wf 1 m uZ In_1.wide hm h)) g_mv g_ex g_ex (g_al 0 aN) (g_sn 0 iN) g_as) fun u1 b1_6 HB1 _ K1=>?_
 simp only[sQ] at K1⊢
 go_upto_region 4 with fail
 refine Rn K1 HB1 (cG 0 21 [_,_,_] [(3,10,_)]) (Oc4 (g_ld 1 uN iN) (g_cl W3 hL.out) (g_bn (fun uZ=>Xi _ _ (L:Int) 1 ((L:Int) -1) uZ rfl Z1 Z1)) g_as) fun u2 HB2 _ K2=>?_
 simp only[sQ] at K2⊢
 go_wp2_with fail
 go_loopw [10] (fun s10 wr=> ∃(j:Nat),j<=L/\s10=iI ((j:Int) -1)/\Bw w wr/\CV wr (w.heap.size) (LN a)/\CV wr (w.heap.size+1) (LN e)/\CV wr (w.heap.size+1+1) (LN m)/\CV wr (w.heap.size+1+1+1) L0s/\CV wr b1_6 (LN (P (e/2^j).toNat))/\b1_6<wr.heap.size) (fun s10 _=>(intOf s10+1).toNat)
 case atStart=>exact⟨L,Z1,rfl,HB2,(K2.cv 0),(K2.cv 1),(K2.cv 2),(K2.cv 3),by rw[h0.out];exact(K2.cv 4),(K2.lt 4)⟩
 case round=>
  obtain⟨j,hj,rfl,HBr,Ka,Ke,Km,Kr,Kp,lp⟩:=hrel
  have hn:=K2.n
  simp at hn
  have ho4:=K2.lo 4
  by_cases hj0:j=0
  ·have hb:decide (0<=(j:Int) -1)=false:=by simp;omega
   have hend:(e/2^j).toNat=e.toNat:=by rw[hj0];simp
   have Kp:CV wr b1_6 (LN (P e.toNat)):=by rw[<-hend];exact Kp
   clear hend
   have K2_1:Bk w.heap.size wr [(false,w.heap.size,LN a),(false,w.heap.size+1,LN e),(false,w.heap.size+1+1,LN m),(true,w.heap.size+1+1+1,L0s),(false,b1_6,LN (P e.toNat))]:=⟨.c Z1 Ka<| .c Z1 Ke<| .c Z1 Km<| .o Z1 (K2.lo 3) Kr<| .c lp Kp<|trivial,by simp;omega⟩
   go_upto_region 5 with fail
   refine Rp K2_1 HBr [] [] [(0,24,_),(1,25,_)] [] [] [false,false,false] (Oc2 g_mv (g_bn (fun uZ=>Xm _ _ ((j:Int) -1) 0 _ uZ hb))) fun u3 HB3 sz3 K3=>?_
   simp only[sQ] at K3⊢
   go_upto_region 10 with fail
   refine Rp K3 HB3 [.all 1 (LN (P e.toNat))] [] [(0,45,_),(2,7,_)] [] [] [true,false] (Oc3 (g_ld 1 uN iN) (g_st 0 iN) g_as) fun u4 HB4 sz4 K4=>?_
   simp only[sQ] at K4⊢
   have c6:=(K4.cv 0).n4
   go_wp2
   refine bodyPost_ret (v:= .tuple #[NV (P e.toNat),iI 0]) (by simp[results,Tryz.results69,go_sem,c6]) rfl ⟨rfl,HB4⟩
  ·obtain⟨k,rfl⟩: ∃k,j=k+1:=⟨j -1,Z1⟩
   have hb:decide (0<=((k+1:Nat):Int) -1)=true:=by simp
   obtain⟨n,hn⟩:=Z3 ((e/2^(k+1)).toNat:Nat)
   have hts:=top_step e he.1 k
   have hnn:0<=e/2^(k+1):=Int.ediv_nonneg he.1 (Int.le_of_lt (Int.pow_pos Z2))
   have Kp:CV wr b1_6 (LN (P n)):=by rw[<-hn];exact Kp
   have hnx:Hid ((e/2^k).toNat=n+n+(if bitI e k then 1 else 0)):=by
    show (e/2^k).toNat=_
    rw[hts]
    split<;>omega
   clear hts hn hnn hj0
   have K2_1:Bk w.heap.size wr [(false,w.heap.size,LN a),(false,w.heap.size+1,LN e),(false,w.heap.size+1+1,LN m),(false,w.heap.size+1+1+1,L0s),(true,b1_6,LN (P n))]:=⟨.c Z1 Ka<| .c Z1 Ke<| .c Z1 Km<| .c Z1 Kr<| .o lp (K2.lo 4) Kp<|trivial,by simp;omega⟩
   go_upto_region 5 with fail
   refine Rn K2_1 HBr [(0,24,_),(1,25,_)] (Oc2 g_mv (g_bn (fun uZ=>Xm _ _ (((k+1:Nat):Int) -1) 0 _ uZ hb))) fun u3 HB3 sz3 K3=>?_
   simp only[sQ] at K3⊢
   go_upto_region 7 with fail
   refine Rp K3 HB3 [.no,.no,.no,.no,.all 7 (LN (P (n+n)))] [] (cG 0 29 [_,_,_,_] [(4,28,_),(5,33,_),(6,34,_)]) [(7,0),(7,1)] [] [] (Oc8 (g_ld 4 uN iN) (g_ld 4 uN iN) (g_ld 2 uN iN) (g_cl Zh (hQ.out n n)) g_mv g_ex g_ex (g_st 4 iN)) fun u4 HB4 sz4 K4=>?_
   simp only[sQ] at K4⊢
   cases hbit:bitI e k
   ·have Hb:Hid (bitI e k=false):=hbit
    clear hbit
    go_upto_region 8 with fail
    refine Rn K4 HB4 (cG 0 35 [_,_,_] []) (Oc3 (g_ld 1 uN iN) g_mv (g_cl X9 (fun uZ=>by have h1:=nrBit e k uZ Z1 Z1;rw[Hb.out,show (k:Int)=((k+1:Nat):Int) -1 by omega] at h1;exact h1))) fun u5 HB5 sz5 K5=>?_
    simp only[sQ] at K5⊢
    go_upto_region 6 with fail
    refine Rp K5 HB5 [] [] [(0,26,_),(1,27,_),(2,10,_)] [(2,0)] [(2,10)] [] (Oc3 g_mv (g_bn (fun uZ=>Xi _ _ (((k+1:Nat):Int) -1) 1 ((k:Int) -1) uZ Z1 Z1 Z1)) g_as) fun u6 HB6 sz6 K6=>?_
    simp only[sQ] at K6⊢
    go_wp2
    refine⟨⟨k,Z1,rfl,HB6,(K6.cv 0),(K6.cv 1),(K6.cv 2),(K6.cv 3),by rw[hnx.out];simp only[Hb.out];exact(K6.cv 4),(K6.lt 4)⟩,?_⟩
    simp[intOf]<;>omega
   ·have Hb:Hid (bitI e k=true):=hbit
    clear hbit
    go_upto_region 8 with fail
    refine Rn K4 HB4 (cG 0 35 [_,_,_] []) (Oc3 (g_ld 1 uN iN) g_mv (g_cl X9 (fun uZ=>by have h1:=nrBit e k uZ Z1 Z1;rw[Hb.out,show (k:Int)=((k+1:Nat):Int) -1 by omega] at h1;exact h1))) fun u5 HB5 sz5 K5=>?_
    simp only[sQ] at K5⊢
    go_upto_region 9 with fail
    refine Rp K5 HB5 [.no,.no,.no,.no,.all 7 (LN (P (n+n+1)))] [] (cG 0 39 [_,_,_,_] [(4,38,_),(5,43,_),(6,44,_)]) [(7,0)] [] [] (Oc8 (g_ld 4 uN iN) (g_ld 0 uN iN) (g_ld 2 uN iN) (g_cl Zh (hU.out (n+n))) g_mv g_ex g_ex (g_st 4 iN)) fun u6 HB6 sz6 K6=>?_
    simp only[sQ] at K6⊢
    go_upto_region 6 with fail
    refine Rp K6 HB6 [] [] [(0,26,_),(1,27,_),(2,10,_)] [(2,0)] [(2,10)] [] (Oc3 g_mv (g_bn (fun uZ=>Xi _ _ (((k+1:Nat):Int) -1) 1 ((k:Int) -1) uZ Z1 Z1 Z1)) g_as) fun u7 HB7 _ K7=>?_
    simp only[sQ] at K7⊢
    go_wp2
    refine⟨⟨k,Z1,rfl,HB7,(K7.cv 0),(K7.cv 1),(K7.cv 2),(K7.cv 3),by rw[hnx.out];simp only[Hb.out];exact(K7.cv 4),(K7.lt 4)⟩,?_⟩
    simp[intOf]<;>omega
theorem xExp(a e m:Int)(w:World)(ha:In a)(he:In e)(hm:In m)(h:m≠0):
 CC 69 #[NV a,NV e,NV m] w (.tuple #[NV (a^e.toNat%m),iI 0]):=by
 refine xExpP (fun k=>a^k%m) a e m w ha he hm h (by simp only[Int.pow_zero]) (fun i j u=>?_) (fun i u=>?_)
 ·have k:=xMul (a^i%m) (a^j%m) m u (Zt hm h) (Zt hm h) hm h
  rw[<-Int.mul_emod,<-Int.pow_add] at k
  exact k
 ·have k:=xMul (a^i%m) a m u (Zt hm h) ha hm h
  rw[Int.mul_emod,Int.emod_emod,<-Int.mul_emod,<-Int.pow_succ] at k
  exact k
theorem Wj(a b:Int)(w:World)(ha:In a)(hb:In b)(h:a+b<0x10000000000000000000000000000000000000000000000000000000000000000):CC 42 #[NV a,NV b] w (.tuple #[NV (a+b),.bool false]):=by
 have e:ovB a b=false:=by unfold ovB;simp;omega
 have k:=nrAdd a b w ha hb
 rw[e] at k;exact k
theorem nrAdd_ge(a b:Int)(w:World)(ha:In a)(hb:In b)(h:0x10000000000000000000000000000000000000000000000000000000000000000<=a+b):CC 42 #[NV a,NV b] w (.tuple #[NV (a+b -0x10000000000000000000000000000000000000000000000000000000000000000),.bool true]):=by
 have e:ovB a b=true:=by unfold ovB;simp;omega
 have k:=nrAdd a b w ha hb
 rw[e] at k;rw[NV_less];exact k
theorem nrSub_ge(a b:Int)(w:World)(ha:In a)(hb:In b)(h:b<=a):CC 93 #[NV a,NV b] w (.tuple #[NV (a -b),.bool false]):=by
 have e:ltB a b=false:=by unfold ltB;simp;omega
 have k:=nrSub a b w ha hb
 rw[e] at k;exact k
theorem nrSub_lt(a b:Int)(w:World)(ha:In a)(hb:In b)(h:a<b):CC 93 #[NV a,NV b] w (.tuple #[NV (a -b+0x10000000000000000000000000000000000000000000000000000000000000000),.bool true]):=by
 have e:ltB a b=true:=by unfold ltB;simp;omega
 have k:=nrSub a b w ha hb
 rw[e] at k;rw[NV_more];exact k
theorem xSub(a b m:Int)(w:World)(ha:In a)(hb:In b)(hm:In m)(h:m≠0):CC 107 #[NV a,NV b,NV m] w (.tuple #[NV ((a -b)%m),iI 0]):=by
 have hm0:=hm.1;have hm2:=hm.2
 obtain⟨x,hx⟩:=Z3 (a%m)
 obtain⟨y,hy⟩:=Z3 (b%m)
 obtain⟨r,hr0⟩:=Z3 ((a -b)%m)
 have x0:=Int.emod_nonneg a h;have x1:=Int.emod_lt_of_pos a (show 0<m by omega)
 have y0:=Int.emod_nonneg b h;have y1:=Int.emod_lt_of_pos b (show 0<m by omega)
 rw[hx] at x0 x1;rw[hy] at y0 y1
 have ix:In x:=⟨Z1,Z1⟩
 have iy:In y:=⟨Z1,Z1⟩
 have hX:Hid (∀u,CC 46 #[WV a,NV m] u (.tuple #[NV x,iI 0])):=fun u=>by rw[<-hx];exact Wf a m u ha.wide hm h
 have hY:Hid (∀u,CC 46 #[WV b,NV m] u (.tuple #[NV y,iI 0])):=fun u=>by rw[<-hy];exact Wf b m u hb.wide hm h
 have hr:Hid (r=if x<y then x -y+m else x -y):=by
  show r=_
  rw[<-hr0,Int.sub_emod,hx,hy]
  split
  ·rw[<-Int.add_emod_right (x -y) m,Int.emod_eq_of_lt Z1 Z1]
  ·exact Int.emod_eq_of_lt Z1 Z1
 rw[hr0]
 clear hx hy hr0
 go_enter Tryz.func107,Tryz.ntmps107
 go_upto_region 1 with fail
 obtain⟨v0,hC,HB0,K0⟩:=bx4 w (LN a) 24 (LN b) 24 (LN m) 24 L0s 24
 rw[hC]
 clear hC
 refine Rd K0 HB0 [] [(7,8,L0s,some (8,LN x))] (cG 0 15 [_,_,_,_] [(4,14,_),(5,19,_),(6,20,_),(9,9,_)]) [(8,7)] [] [false] (Oc10 (g_ld 0 uN iN) (g_cl Zg (fun uZ=>U0 a uZ ha)) (g_ld 2 uN iN) (g_cl Ze hX.out) g_mv g_ex g_ex (g_al 0 aN) (g_sn 0 iN) g_as) fun u1 b1_7 HB1 _ K1=>?_
 simp only[sQ] at K1⊢
 go_upto_region 4 with fail
 refine Rd K1 HB1 [] [(7,10,L0s,some (8,LN y))] (cG 0 26 [_,_,_,_] [(4,25,_),(5,30,_),(6,31,_),(9,11,_)]) [(8,7)] [] [false] (Oc10 (g_ld 0 uN iN) (g_cl Zg (fun uZ=>U0 b uZ hb)) (g_ld 1 uN iN) (g_cl Ze hY.out) g_mv g_ex g_ex (g_al 0 aN) (g_sn 0 iN) g_as) fun u2 b2_7 HB2 _ K2=>?_
 simp only[sQ] at K2⊢
 by_cases hc:x<y
 ·have hi:In (x -y+0x10000000000000000000000000000000000000000000000000000000000000000):=⟨Z1,Z1⟩
  obtain⟨z,hz1⟩:=Z3 (x -y+0x10000000000000000000000000000000000000000000000000000000000000000)
  have h1:Hid (∀u,CC 93 #[NV x,NV y] u (.tuple #[NV z,.bool true])):=fun u=>by rw[<-hz1];exact nrSub_lt x y u ix iy hc
  have h2:Hid (∀u,CC 42 #[NV z,NV m] u (.tuple #[NV r,.bool true])):=fun u=>by
   have k:=nrAdd_ge z m u (by rw[<-hz1];exact hi) hm Z1
   rw[hr.out,if_pos hc,show x -y+m=z+m -0x10000000000000000000000000000000000000000000000000000000000000000 by omega];exact k
  clear hi hz1 hc hr
  go_upto_region 5 with fail
  refine Rp K2 HB2 [] [(6,12,L0s,some (7,LN z))] (cG 0 33 [_,_,_] [(3,32,_),(4,36,_),(5,37,_),(8,13,_)]) [(7,6)] [] [true,true,false,false] (Oc9 (g_ld 2 uN iN) (g_ld 3 uN iN) (g_cl X8 h1.out) g_mv g_ex g_ex (g_al 0 aN) (g_sn 0 iN) g_as) fun u3 b3_6 HB3 sz3 K3=>?_
  simp only[sQ] at K3⊢
  go_upto_region 7 with fail
  refine Rp K3 HB3 [.no,.no,.all 6 (LN r)] [] (cG 0 40 [_,_,_] [(3,39,_),(4,43,_),(5,44,_)]) [(6,0)] [] [false] (Oc7 (g_ld 2 uN iN) (g_ld 0 uN iN) (g_cl Z9 h2.out) g_mv g_ex g_ex (g_st 2 iN)) fun u4 HB4 sz4 K4=>?_
  simp only[sQ] at K4⊢
  go_upto_region 8 with fail
  refine Rp K4 HB4 [.all 1 (LN r)] [] [(0,45,_),(2,7,_)] [] [] [true,false] (Oc3 (g_ld 1 uN iN) (g_st 0 iN) g_as) fun u5 HB5 _ K5=>?_
  simp only[sQ] at K5⊢
  have c6:=(K5.cv 0).n4
  go_wp2
  refine bodyPost_ret (v:= .tuple #[NV r,iI 0]) (by simp[results,Tryz.results107,go_sem,c6]) rfl ⟨rfl,HB5⟩
 ·have h1:Hid (∀u,CC 93 #[NV x,NV y] u (.tuple #[NV r,.bool false])):=fun u=>by rw[hr.out,if_neg hc];exact nrSub_ge x y u ix iy Z1
  clear hr hc
  go_upto_region 5 with fail
  refine Rp K2 HB2 [] [(6,12,L0s,some (7,LN r))] (cG 0 33 [_,_,_] [(3,32,_),(4,36,_),(5,37,_),(8,13,_)]) [(7,6)] [] [false,true,false,false] (Oc9 (g_ld 2 uN iN) (g_ld 3 uN iN) (g_cl X8 h1.out) g_mv g_ex g_ex (g_al 0 aN) (g_sn 0 iN) g_as) fun u3 b3_6 HB3 sz3 K3=>?_
  simp only[sQ] at K3⊢
  go_upto_region 8 with fail
  refine Rp K3 HB3 [.all 1 (LN r)] [] [(0,45,_),(2,7,_)] [] [] [true,false] (Oc3 (g_ld 1 uN iN) (g_st 0 iN) g_as) fun u4 HB4 sz4 K4=>?_
  simp only[sQ] at K4⊢
  have c6:=(K4.cv 0).n4
  go_wp2
  refine bodyPost_ret (v:= .tuple #[NV r,iI 0]) (by simp[results,Tryz.results107,go_sem,c6]) rfl ⟨rfl,HB4⟩
def P512:Int:=0x10000000000000000000000000000000000000000000000000000000000000000*0x10000000000000000000000000000000000000000000000000000000000000000
theorem half{x y:Int}(hx:0<=x)(hy:0<y)(h:y<=x):2*(x%y)<=x:=by
 have e:=Int.mul_ediv_add_emod x y
 have l:=Int.emod_lt_of_pos x hy
 have n:=Int.emod_nonneg x (show y≠0 by omega)
 have q:1<=x/y:=by
  by_cases h1:x/y<1
  ·have hq:0<=x/y:=Int.ediv_nonneg hx Z1
   have:x/y=0:=Z1
   rw[this] at e;simp at e;omega
  ·omega
 have m:=Int.mul_le_mul_of_nonneg_left q (show 0<=y by omega)
 omega
def PBk(k:Nat)(x y:Int):Prop:=y=0\/k=0\/(y<=x/\x*y*2^(k -1)<P512)
theorem P512_e:P512=0x10000000000000000000000000000000000000000000000000000000000000000*0x10000000000000000000000000000000000000000000000000000000000000000:=rfl
theorem P_le(k:Nat):P512<=2^(512+k):=by
 rw[show 512+k=256+(256+k) by omega,Int.pow_add,Int.pow_add,show (2:Int)^256=0x10000000000000000000000000000000000000000000000000000000000000000 by decide]
 have p:(0:Int)<2^k:=Int.pow_pos Z1
 unfold P512
 omega
theorem prod_lt{x y:Int}(hx:In x)(hy:In y):x*y<P512:=by
 rw[P512_e]
 have h1:=Int.mul_le_mul_of_nonneg_right (show x<=0xffffffffffffffffffffffffffffffffffffffffffffffffffffffffffffffff by have:=hx.2;omega) hy.1
 have h2:=hy.2
 omega
theorem PBk.step{k:Nat}{x y:Int}(hx:In x)(hy:In y)(h:y≠0)(hP:PBk k x y):PBk (k+1) y (x%y):=by
 have y1:0<y:=by have:=hy.1;omega
 have l:=Int.emod_lt_of_pos x y1
 have n:=Int.emod_nonneg x h
 have ir:In (x%y):=Zt hy h
 have base:y*(x%y)<P512:=prod_lt hy ir
 refine .inr (.inr ⟨Z1,?_⟩)
 rcases hP with h0 | h0 | ⟨h1,h2⟩
 ·exact absurd h0 h
 ·subst h0;simpa using base
 ·by_cases hk:k=0
  ·subst hk;simpa using base
  ·obtain⟨j,rfl⟩: ∃j,k=j+1:=⟨k -1,Z1⟩
   simp only[Nat.add_sub_cancel] at h2⊢
   have hh:=half hx.1 y1 h1
   have p:(0:Int)<2^j:=Int.pow_pos Z1
   have m1:y*(2*(x%y))<=y*x:=Int.mul_le_mul_of_nonneg_left hh Z1
   have m2:=Int.mul_le_mul_of_nonneg_right m1 (Int.le_of_lt p)
   have e:y*(x%y)*2^(j+1)=y*(2*(x%y))*2^j:=by rw[Int.pow_succ];grind
   have e2:y*x=x*y:=Int.mul_comm _ _
   rw[e];rw[e2] at m2;omega
theorem PBk.fin{x y:Int}(hy:In y)(hP:PBk 600 x y):y=0:=by
 rcases hP with h | h | ⟨h1,h2⟩
 ·exact h
 ·omega
 ·by_cases h:y<1
  ·have:=hy.1;omega
  ·exfalso
   have m0:1*1<=x*y:=Int.mul_le_mul Z1 Z1 Z1 Z1
   have p:(0:Int)<=2^(512+87):=Int.le_of_lt (Int.pow_pos Z1)
   have m:=Int.mul_le_mul_of_nonneg_right m0 p
   have c:=P_le 87
   have h2':x*y*2^(512+87)<P512:=h2
   generalize (2:Int)^(512+87)=z at *
   omega
structure RV(m a x y fx fy:Int)(k:Nat):Prop where
 x0:0<=x
 xy:x<y
 ym:y<=m
 g:gI y x=gI m a
 dx:m∣fx*a -x
 dy:m∣fy*a -y
 fx0:0<=fx/\fx<m
 fy0:0<=fy/\fy<m
 b:y*x*2^k<P512
theorem RV.start{m a:Int}(hm:In m)(h1:1<m)(h0:0<=a)(ha:a<m):RV m a a m 1 0 0 where
 x0:=h0
 xy:=ha
 ym:=Int.le_refl _
 g:=rfl
 dx:=⟨0,Z1⟩
 dy:=⟨-1,Z1⟩
 fx0:=⟨Z1,h1⟩
 fy0:=⟨Z1,Z1⟩
 b:=by
  have:=prod_lt hm (show In a from ⟨h0,by have:=hm.2;omega⟩)
  simpa using this
theorem RV.step{m a x y fx fy:Int}{k:Nat}(h:RV m a x y fx fy k)(hx:x≠0):RV m a (y%x) x ((fy -y/x*fx%m)%m) fx (k+1) where
 x0:=Int.emod_nonneg _ hx
 xy:=Int.emod_lt_of_pos _ (by have:=h.x0;omega)
 ym:=by have:=h.xy;have:=h.ym;omega
 g:=by rw[gI_step y x (by have:=h.x0;have:=h.xy;omega) h.x0 hx];exact h.g
 dx:=by
  obtain⟨p,hp⟩:=h.dx
  obtain⟨q,hq⟩:=h.dy
  have e1:=Int.mul_ediv_add_emod (y/x*fx) m
  have e2:=Int.mul_ediv_add_emod (fy -y/x*fx%m) m
  have e3:=Int.mul_ediv_add_emod y x
  generalize (fy -y/x*fx%m)%m=u at *
  generalize (fy -y/x*fx%m)/m=u1 at *
  generalize y/x*fx%m=v at *
  generalize y/x*fx/m=v1 at *
  generalize y%x=r at *
  generalize y/x=s at *
  exact⟨q -s*p+v1*a -u1*a,by grind⟩
 dy:=h.dx
 fx0:=by
  have m0:0<m:=by have:=h.x0;have:=h.xy;have:=h.ym;omega
  exact⟨Int.emod_nonneg _ Z1,Int.emod_lt_of_pos _ m0⟩
 fy0:=h.fx0
 b:=by
  have x1:0<x:=by have:=h.x0;omega
  have hh:=half (show 0<=y by have:=h.xy;omega) x1 (by have:=h.xy;omega)
  have p:(0:Int)<2^k:=Int.pow_pos Z1
  have m1:x*(2*(y%x))<=x*y:=Int.mul_le_mul_of_nonneg_left hh Z1
  have m2:=Int.mul_le_mul_of_nonneg_right m1 (Int.le_of_lt p)
  have e:x*(y%x)*2^(k+1)=x*(2*(y%x))*2^k:=by rw[Int.pow_succ];grind
  have hb:=h.b
  have e2:x*y=y*x:=Int.mul_comm _ _
  rw[e];rw[e2] at m2;omega
theorem RV.fin{m a x y fx fy:Int}(h:RV m a x y fx fy 600):x=0:=by
 by_cases h1:x<1
 ·have:=h.x0;omega
 ·exfalso
  have hb:=h.b
  have m0:1*1<=y*x:=Int.mul_le_mul (by have:=h.xy;omega) Z1 Z1 (by have:=h.xy;omega)
  have p:(0:Int)<=2^(512+88):=Int.le_of_lt (Int.pow_pos Z1)
  have m:=Int.mul_le_mul_of_nonneg_right m0 p
  have c:=P_le 88
  have hb:y*x*2^(512+88)<P512:=hb
  generalize (2:Int)^(512+88)=z at *
  omega
theorem bd1(w:World):(Instr.build 24 [(0,iU 1)].toArray).run Tryz.prog w= .ok (NV 1) w:=by
 have k:(Instr.build 24 [(0,iU 1)].toArray).run Tryz.prog w= .ok (A4 1 0 0 0) w:=by kernel_rfl
 rw[Xz (show (0:Int)<=1 by omega) Z1];exact k
theorem bd4(x y z t:Int)(w:World):(Instr.build 24 [(0,iU x),(1,iU y),(2,iU z),(3,iU t)].toArray).run Tryz.prog w= .ok (A4 x y z t) w:=by kernel_rfl
theorem xInverse1(a m:Int)(w:World)(ha:In a)(hm:In m)(h:m≠0)(h1:decide (m=1)=true):
 CC 108 #[NV a,NV m] w (.tuple #[A4 0 0 0 0,iI 0]):=by
 go_enter Tryz.func108,Tryz.ntmps108
 go_upto_region 1 with fail
 obtain⟨v0,hC,HB0,K0⟩:=bx3 w (LN a) 24 (LN m) 24 L0s 24
 rw[hC]
 clear hC
 refine Rd K0 HB0 [] [(7,6,L0s,some (8,LN (a%m)))] (cG 0 21 [_,_,_,_] [(4,20,_),(5,25,_),(6,26,_),(9,7,_)]) [(8,7)] [] [false,true,true,false] (Oc10 (g_ld 0 uN iN) (g_cl Zg (fun uZ=>U0 a uZ ha)) (g_ld 1 uN iN) (g_cl Ze (fun uZ=>Wf a m uZ ha.wide hm h)) g_mv g_ex g_ex (g_al 0 aN) (g_sn 0 iN) g_as) fun u1 b1_7 HB1 _ K1=>?_
 simp only[sQ] at K1⊢
 go_upto_region 2 with fail
 refine Rn K1 HB1 [(0,27,_),(1,28,_)] (Oc2 g_mv (g_bn (fun uZ=>Y7 _ _ _ 0 0 _ uZ rfl))) fun u2 HB2 _ K2=>?_
 simp only[sQ] at K2⊢
 go_upto_region 4 with fail
 refine Rp K2 HB2 [] [] (cG 0 31 [_,_,_] []) [] [] [false] (Oc3 (g_ld 0 uN iN) (g_bd bd1) (g_bn (eql_n _ _ hm In_1 _ h1))) fun u3 HB3 _ K3=>?_
 simp only[sQ] at K3⊢
 go_upto_region 5 with fail
 refine Rp K3 HB3 [.all 1 ([iU (0),iU (0),iU (0),iU (0)])] [] [(0,34,_),(2,5,_)] [] [] [] (Oc3 (g_bd zN) (g_st 0 iN) g_as) fun u4 HB4 _ K4=>?_
 simp only[sQ] at K4⊢
 have c4:=(K4.cv 0).n4
 go_wp2
 refine bodyPost_ret (v:= .tuple #[A4 0 0 0 0,iI 0]) (by simp[results,Tryz.results108,go_sem,c4]) rfl ⟨rfl,HB4⟩
theorem xInverseG(a m:Int)(R:Value)(w:World)(ha:In a)(hm:In m)(h:m≠0)(hm1:1<m)(h1:decide (m=1)=false)(hno:gI m (a%m)≠1->R= .tuple #[A4 0 0 0 0,iI 20])(hyes:gI m (a%m)=1-> ∀x,IsInv (a%m) m x->R= .tuple #[NV x,iI 0]):
 CC 108 #[NV a,NV m] w R:=by
 go_enter Tryz.func108,Tryz.ntmps108
 go_upto_region 1 with fail
 obtain⟨v0,hC,HB0,K0⟩:=bx3 w (LN a) 24 (LN m) 24 L0s 24
 rw[hC]
 clear hC
 refine Rd K0 HB0 [] [(7,6,L0s,some (8,LN (a%m)))] (cG 0 21 [_,_,_,_] [(4,20,_),(5,25,_),(6,26,_),(9,7,_)]) [(8,7)] [] [false] (Oc10 (g_ld 0 uN iN) (g_cl Zg (fun uZ=>U0 a uZ ha)) (g_ld 1 uN iN) (g_cl Ze (fun uZ=>Wf a m uZ ha.wide hm h)) g_mv g_ex g_ex (g_al 0 aN) (g_sn 0 iN) g_as) fun u1 b1_7 HB1 _ K1=>?_
 simp only[sQ] at K1⊢
 go_upto_region 2 with fail
 refine Rn K1 HB1 [(0,27,_),(1,28,_)] (Oc2 g_mv (g_bn (fun uZ=>Y7 _ _ _ 0 0 _ uZ rfl))) fun u2 HB2 _ K2=>?_
 simp only[sQ] at K2⊢
 go_upto_region 4 with fail
 refine Rn K2 HB2 (cG 0 31 [_,_,_] []) (Oc3 (g_ld 0 uN iN) (g_bd bd1) (g_bn (eql_n _ _ hm In_1 _ h1))) fun u3 HB3 _ K3=>?_
 simp only[sQ] at K3⊢
 go_upto_region 6 with fail
 refine Rp K3 HB3 [] [(3,8,L0s,some (6,LN m)),(4,9,L0s,some (7,LN 1)),(5,10,L0s,some (8,[iU (0),iU (0),iU (0),iU (0)]))] (cG 0 35 [_,_,_] []) [(6,3),(7,4),(8,5)] [] [] (Oc9 (g_ld 0 uN iN) (g_bd bd1) (g_bd zN) (g_al 0 aN) (g_al 1 aN) (g_al 2 aN) (g_sn 0 iN) (g_sn 1 iN) (g_sn 2 iN)) fun u4 b4_3 b4_4 b4_5 HB4 _ K4=>?_
 simp only[sQ] at K4⊢
 go_upto_region 7 with fail
 refine Rn K4 HB4 [(0,11,_)] (Oc1 g_as) fun u5 HB5 _ K5=>?_
 simp only[sQ] at K5⊢
 go_wp2_with fail
 go_loopw [11] (fun s11 wr=> ∃(k:Nat) (x y fx fy:Int),s11=iI (k:Int)/\k<=600/\RV m (a%m) x y fx fy k/\Bw w wr/\CV wr (w.heap.size+1) (LN m)/\CV wr (w.heap.size+1+1) L0s/\CV wr b1_7 (LN x)/\CV wr b4_3 (LN y)/\CV wr b4_4 (LN fx)/\CV wr b4_5 (LN fy)/\w.heap.size+1+1<wr.heap.size/\b1_7<wr.heap.size/\b4_3<wr.heap.size/\b4_4<wr.heap.size/\b4_5<wr.heap.size) (fun s11 _=>600 -(intOf s11).toNat)
 case atStart=>exact⟨0,a%m,m,1,0,rfl,Z1,RV.start hm hm1 (Int.emod_nonneg _ h) (Int.emod_lt_of_pos _ Z1),HB5,(K5.cv 0),(K5.cv 1),(K5.cv 2),(K5.cv 3),(K5.cv 4),by rw[LN_0];exact(K5.cv 5),(K5.lt 1),(K5.lt 2),(K5.lt 3),(K5.lt 4),(K5.lt 5)⟩
 case round=>
  obtain⟨k,x,y,fx,fy,rfl,hk,hR,HBr,Km,Kr,Kx,Ky,Kf,Kh,lr,lx,ly,lf,lh⟩:=hrel
  have hn:=K5.n
  simp at hn
  have ho2:=K5.lo 2
  have ho3:=K5.lo 3
  have ho4:=K5.lo 4
  have ho5:=K5.lo 5
  have ix:In x:=T7 hm hR.x0 (by have:=hR.xy;have:=hR.ym;omega)
  have iy:In y:=T7 hm (by have:=hR.x0;have:=hR.xy;omega) hR.ym
  have ifx:In fx:=T7 hm hR.fx0.1 (by have:=hR.fx0.2;omega)
  have ify:In fy:=T7 hm hR.fy0.1 (by have:=hR.fy0.2;omega)
  by_cases h2:x=0
  ·have hz:decide (x=0)=!false:=by simp[h2]
   have hy:gI m (a%m)=y:=by rw[<-hR.g,h2,gI_0 y iy.1]
   have hI:y=1->IsInv (a%m) m fy:=fun e=>⟨hR.fy0.1,hR.fy0.2,by have:=hR.dy;rw[e] at this;exact this⟩
   have HI:Hid _:=hI
   have HY:Hid _:=hy
   clear hI hy hR
   by_cases h6:k<600
   ·have hl:decide ((k:Int)<600)=true:=by simp;omega
    have K5_1:Bk w.heap.size wr [(false,w.heap.size+1,LN m),(true,w.heap.size+1+1,L0s),(false,b1_7,LN x),(false,b4_3,LN y),(false,b4_4,LN fx),(false,b4_5,LN fy)]:=⟨.c Z1 Km<| .o lr (K5.lo 1) Kr<| .c lx Kx<| .c ly Ky<| .c lf Kf<| .c lh Kh<|trivial,by simp;omega⟩
    go_upto_region 8 with fail
    refine Rp K5_1 HBr [] [] (cG 0 38 [_,_,_,_,_,_,_] []) [] [] [false,true,false,true,false] (Oc7 g_mv (g_bn (fun uZ=>Za _ _ (k:Int) 600 _ uZ hl)) g_mv (g_ld 2 uN iN) (g_bd zN) (g_bn (neq_0 _ _ ix _ hz)) g_pk) fun u6 HB6 sz6 K6=>?_
    simp only[sQ] at K6⊢
    by_cases h7:y=1
    ·have h8:decide (y=1)=!false:=by simp[h7]
     go_upto_region 16 with fail
     refine Rp K6 HB6 [] [] (cG 0 82 [_,_,_] []) [] [] [true,false] (Oc3 (g_ld 1 uN iN) (g_bd bd1) (g_bn (Up _ _ iy In_1 _ h8))) fun u7 HB7 sz7 K7=>?_
     simp only[sQ] at K7⊢
     go_upto_region 18 with fail
     refine Rp K7 HB7 [.all 1 (LN fy)] [] [(0,86,_),(2,5,_)] [] [] [true,false] (Oc3 (g_ld 1 uN iN) (g_st 0 iN) g_as) fun u8 HB8 sz8 K8=>?_
     simp only[sQ] at K8⊢
     have c4:=(K8.cv 0).n4
     go_wp2
     refine bodyPost_ret (v:= .tuple #[NV fy,iI 0]) (by simp[results,Tryz.results108,go_sem,c4]) rfl ⟨by rw[hyes (by rw[HY.out];exact h7) _ (HI.out h7)],HB8⟩
    ·have h8:decide (y=1)=!true:=by simp[h7]
     go_upto_region 16 with fail
     refine Rp K6 HB6 [] [] (cG 0 82 [_,_,_] []) [] [] [true,false,false] (Oc3 (g_ld 1 uN iN) (g_bd bd1) (g_bn (Up _ _ iy In_1 _ h8))) fun u7 HB7 sz7 K7=>?_
     simp only[sQ] at K7⊢
     go_upto_region 17 with fail
     refine Rp K7 HB7 [.all 1 ([iU (0),iU (0),iU (0),iU (0)])] [] [(0,85,_),(2,5,_)] [] [] [] (Oc3 (g_bd zN) (g_st 0 iN) g_as) fun u8 HB8 sz8 K8=>?_
     simp only[sQ] at K8⊢
     have c4:=(K8.cv 0).n4
     go_wp2
     refine bodyPost_ret (v:= .tuple #[A4 0 0 0 0,iI 20]) (by simp[results,Tryz.results108,go_sem,c4]) rfl ⟨by rw[hno (by rw[HY.out];exact h7)],HB8⟩
   ·have hl:decide ((k:Int)<600)=false:=by simp;omega
    have K5_1:Bk w.heap.size wr [(false,w.heap.size+1,LN m),(true,w.heap.size+1+1,L0s),(false,b1_7,LN x),(false,b4_3,LN y),(false,b4_4,LN fx),(false,b4_5,LN fy)]:=⟨.c Z1 Km<| .o lr (K5.lo 1) Kr<| .c lx Kx<| .c ly Ky<| .c lf Kf<| .c lh Kh<|trivial,by simp;omega⟩
    go_upto_region 8 with fail
    refine Rp K5_1 HBr [] [] (cG 0 38 [_,_,_,undef,undef,undef,_] []) [] [] [false,true,false,true,false] (Oc7 g_mv (g_bn (fun uZ=>Za _ _ (k:Int) 600 _ uZ hl)) g_mv g_sk g_sk g_sk g_pk) fun u6 HB6 sz6 K6=>?_
    simp only[sQ] at K6⊢
    by_cases h7:y=1
    ·have h8:decide (y=1)=!false:=by simp[h7]
     go_upto_region 16 with fail
     refine Rp K6 HB6 [] [] (cG 0 82 [_,_,_] []) [] [] [true,false] (Oc3 (g_ld 1 uN iN) (g_bd bd1) (g_bn (Up _ _ iy In_1 _ h8))) fun u7 HB7 sz7 K7=>?_
     simp only[sQ] at K7⊢
     go_upto_region 18 with fail
     refine Rp K7 HB7 [.all 1 (LN fy)] [] [(0,86,_),(2,5,_)] [] [] [true,false] (Oc3 (g_ld 1 uN iN) (g_st 0 iN) g_as) fun u8 HB8 sz8 K8=>?_
     simp only[sQ] at K8⊢
     have c4:=(K8.cv 0).n4
     go_wp2
     refine bodyPost_ret (v:= .tuple #[NV fy,iI 0]) (by simp[results,Tryz.results108,go_sem,c4]) rfl ⟨by rw[hyes (by rw[HY.out];exact h7) _ (HI.out h7)],HB8⟩
    ·have h8:decide (y=1)=!true:=by simp[h7]
     go_upto_region 16 with fail
     refine Rp K6 HB6 [] [] (cG 0 82 [_,_,_] []) [] [] [true,false,false] (Oc3 (g_ld 1 uN iN) (g_bd bd1) (g_bn (Up _ _ iy In_1 _ h8))) fun u7 HB7 sz7 K7=>?_
     simp only[sQ] at K7⊢
     go_upto_region 17 with fail
     refine Rp K7 HB7 [.all 1 ([iU (0),iU (0),iU (0),iU (0)])] [] [(0,85,_),(2,5,_)] [] [] [] (Oc3 (g_bd zN) (g_st 0 iN) g_as) fun u8 HB8 sz8 K8=>?_
     simp only[sQ] at K8⊢
     have c4:=(K8.cv 0).n4
     go_wp2
     refine bodyPost_ret (v:= .tuple #[A4 0 0 0 0,iI 20]) (by simp[results,Tryz.results108,go_sem,c4]) rfl ⟨by rw[hno (by rw[HY.out];exact h7)],HB8⟩
  ·have h6:k<600:=by
    rcases Nat.lt_or_ge k 600 with h | h
    ·exact h
    ·have:k=600:=Z1
     subst this;exact absurd hR.fin h2
   have hl:decide ((k:Int)<600)=true:=by simp;omega
   have hz:decide (x=0)=!true:=by simp[h2]
   have hS:=hR.step h2
   have i1:In (y%x):=Zt ix h2
   have i2:In (y/x):=In_div iy ix h2
   have i3:In (y/x*fx%m):=Zt hm h
   clear hR
   have K5_1:Bk w.heap.size wr [(false,w.heap.size+1,LN m),(false,w.heap.size+1+1,L0s),(true,b1_7,LN x),(true,b4_3,LN y),(true,b4_4,LN fx),(true,b4_5,LN fy)]:=⟨.c Z1 Km<| .c lr Kr<| .o lx (K5.lo 2) Kx<| .o ly (K5.lo 3) Ky<| .o lf (K5.lo 4) Kf<| .o lh (K5.lo 5) Kh<|trivial,by simp;omega⟩
   go_upto_region 8 with fail
   refine Rn K5_1 HBr (cG 0 38 [_,_,_,_,_,_,_] []) (Oc7 g_mv (g_bn (fun uZ=>Za _ _ (k:Int) 600 _ uZ hl)) g_mv (g_ld 2 uN iN) (g_bd zN) (g_bn (neq_0 _ _ ix _ hz)) g_pk) fun u6 HB6 sz6 K6=>?_
   simp only[sQ] at K6⊢
   go_upto_region 10 with fail
   refine Rd K6 HB6 [] [(8,12,L0w,some (10,LW (y/x))),(9,13,L0s,some (11,LN (y%x)))] (cG 0 48 [_,_,_,_] [(4,47,_),(5,52,_),(6,53,_),(7,54,_),(12,14,_)]) [(10,8),(11,9)] [] [] (Od8 (g_ld 3 uN iN) (g_cl Zg (fun uZ=>U0 y uZ iy)) (g_ld 2 uN iN) (g_cl Yp (fun uZ=>nrDivide y x uZ iy.wide ix h2)) g_mv g_ex g_ex g_ex<|Oc5 (g_al 0 aW) (g_al 1 aN) (g_sn 0 iW) (g_sn 1 iN) g_as) fun u7 b7_8 b7_9 HB7 sz7 K7=>?_
   simp only[sQ] at K7⊢
   go_upto_region 11 with fail
   refine Rp K7 HB7 [] [(9,15,L0s,some (10,LN (y/x)))] (cG 0 55 [_,_,_,_,_,_,_,_,_] []) [(10,9)] [] [true,true,true,true,true,true,false] (Od8 (g_ix (jW 0)) (g_lc 6 0 lU) (g_ix (jW 1)) (g_lc 6 1 lU) (g_ix (jW 2)) (g_lc 6 2 lU) (g_ix (jW 3)) (g_lc 6 3 lU)<|Oc3 (g_bd (bd4 _ _ _ _)) (g_al 0 aN) (g_sn 0 iN)) fun u8 b8_9 HB8 sz8 K8=>?_
   simp only[sQ] at K8⊢
   go_upto_region 12 with fail
   refine Rp K8 HB8 [] [(7,16,L0s,some (8,LN (y/x*fx%m)))] (cG 0 65 [_,_,_,_] [(4,64,_),(5,69,_),(6,70,_),(9,17,_)]) [(8,7)] [] [true,true,true,true,true,true,true,false] (Oc10 (g_ld 7 uN iN) (g_ld 4 uN iN) (g_ld 0 uN iN) (g_cl Zh (fun uZ=>xMul (y/x) fx m uZ i2 ifx hm h)) g_mv g_ex g_ex (g_al 0 aN) (g_sn 0 iN) g_as) fun u9 b9_7 HB9 _ K9=>?_
   simp only[sQ] at K9⊢
   go_upto_region 13 with fail
   refine Rp K9 HB9 [] [(7,18,L0s,some (8,LN ((fy -y/x*fx%m)%m)))] (cG 0 72 [_,_,_,_] [(4,71,_),(5,76,_),(6,77,_),(9,19,_)]) [(8,7)] [] [true,true,true,true,true,true,true,false] (Oc10 (g_ld 5 uN iN) (g_ld 7 uN iN) (g_ld 0 uN iN) (g_cl Wv (fun uZ=>xSub fy (y/x*fx%m) m uZ ify i3 hm h)) g_mv g_ex g_ex (g_al 0 aN) (g_sn 0 iN) g_as) fun u10 b10_7 HB10 _ K10=>?_
   simp only[sQ] at K10⊢
   go_upto_region 14 with fail
   refine Rd K10 HB10 [.no,.no,.no,.all 2 (LN x),.no,.all 3 (LN fx)] [] [(0,78,_),(1,79,_)] [] [] [] (Oc4 (g_ld 2 uN iN) (g_ld 4 uN iN) (g_st 3 iN) (g_st 5 iN)) fun u11 HB11 _ K11=>?_
   simp only[sQ] at K11⊢
   go_upto_region 15 with fail
   refine Rd K11 HB11 [.no,.no,.all 2 (LN (y%x)),.no,.all 3 (LN ((fy -y/x*fx%m)%m))] [] [(0,80,_),(1,81,_)] [] [] [true,true,true,true,true,true,false,false] (Oc4 (g_ld 6 uN iN) (g_ld 7 uN iN) (g_st 2 iN) (g_st 4 iN)) fun u12 HB12 _ K12=>?_
   simp only[sQ] at K12⊢
   go_upto_region 9 with fail
   refine Rp K12 HB12 [] [] [(0,45,_),(1,46,_),(2,11,_)] [(2,0)] [(2,11)] [] (Oc3 g_mv (g_bn (fun uZ=>Zu _ _ (k:Int) 1 ((k:Int)+1) uZ rfl Z1 Z1)) g_as) fun u13 HB13 _ K13=>?_
   simp only[sQ] at K13⊢
   go_wp2
   refine⟨⟨k+1,y%x,x,(fy -y/x*fx%m)%m,fx,by simp,Z1,hS,HB13,(K13.cv 0),(K13.cv 1),(K13.cv 2),(K13.cv 3),(K13.cv 4),(K13.cv 5),(K13.lt 1),(K13.lt 2),(K13.lt 3),(K13.lt 4),(K13.lt 5)⟩,?_⟩
   simp[intOf]<;>omega
theorem xInverse_no(a m:Int)(w:World)(ha:In a)(hm:In m)(h:m≠0)(hg:gI m (a%m)≠1):
 CC 108 #[NV a,NV m] w (.tuple #[A4 0 0 0 0,iI 20]):=by
 have h1:m≠1:=fun e=>hg (by rw[e,Int.emod_one];rfl)
 exact xInverseG a m _ w ha hm h (by have:=hm.1;omega) (by simp[h1]) (fun _=>rfl) (fun e=>absurd e hg)
theorem xInverse(a m x:Int)(w:World)(ha:In a)(hm:In m)(h:m≠0)(hg:gI m (a%m)=1)(hx:IsInv (a%m) m x):
 CC 108 #[NV a,NV m] w (.tuple #[NV x,iI 0]):=by
 by_cases h1:m=1
 ·have e:x=0:=by have:=hx.1;have:=hx.2.1;omega
  rw[e,NV_0];exact xInverse1 a m w ha hm h (by simp[h1])
 ·exact xInverseG a m _ w ha hm h (by have:=hm.1;omega) (by simp[h1]) (fun e=>absurd hg e) (fun _ y hy=>by rw[hx.uniq hy])
end Go.Proofs.YtoffgfhilkpdpaaGreatDoor
