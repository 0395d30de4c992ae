import Derived.Test.YtofcppgfaelloaaGreatDoorEE
namespace Go.Proofs.YtofcppgfaelloaaGreatDoor
set_option linter.unusedVariables false
set_option linter.unusedSimpArgs false
set_option maxRecDepth 100000
set_option maxHeartbeats 4000000
open Go.RowKit
theorem nrLen (e:Int) (w:World):CC 68 #[NV e] w (iI (lenI e)):=
 rLength_any _ _ _ _ w (W_D0 e) (W_D1 e) (W_D2 e) (W_D3 e)
theorem nrBit (e i:Int) (w:World) (h0:0<=i) (h1:i<256):CC 69 #[NV e,iI i] w (.bool (bitI e i)):=by
 rw[<-bitv_I h0 h1];exact rBit_any _ _ _ _ i w (W_D0 e) (W_D1 e) (W_D2 e) (W_D3 e)
theorem bdw1 (w:World):(Instr.build 73 [(0,iU 1)].toArray).run Tryz.prog w= .ok (WV 1) w:=by
 have e:WV 1=A8 1 0 0 0 0 0 0 0:=WV_of 1 1 0 0 0 0 0 0 0 ⟨by omega,by omega⟩ W_0 W_0 W_0 W_0 W_0 W_0 W_0 (by simp[V])
 have k:(Instr.build 73 [(0,iU 1)].toArray).run Tryz.prog w= .ok (A8 1 0 0 0 0 0 0 0) w:=by kernel_rfl
 rw[e];exact k
theorem xExpP (P:Nat->Int) (a e m:Int) (w:World) (ha:In a) (he:In e) (hm:In m) (h:m≠0) (hP0:P 0=1%m)
 (hQ:Hid (∀i j u,CC 32 #[NV (P i),NV (P j),NV m] u (.tuple #[NV (P (i+j)),iI 0])))
 (hU:Hid (∀i u,CC 32 #[NV (P i),NV a,NV m] u (.tuple #[NV (P (i+1)),iI 0]))):
 CC 47 #[NV a,NV e,NV m] w (.tuple #[NV (P e.toNat),iI 0]):=by
 have hb:=lenI_bd e
 obtain⟨L,hLe⟩: ∃L:Nat,lenI e=(L:Int):=⟨(lenI e).toNat,by omega⟩
 have hL:Hid (∀u,CC 68 #[NV e] u (iI (L:Int))):=fun u=>by rw[<-hLe];exact nrLen e u
 have hlt:=lenI_lt he
 rw[hLe] at hlt hb
 have h0:Hid (P (e/2^L).toNat=1%m):=by
  show P (e/2^L).toNat=1%m
  rw[Int.ediv_eq_zero_of_lt he.1 (by simpa using hlt),<-hP0];rfl
 have hL256:L<=256:=by omega
 clear hLe hlt hb hP0
 go_enter Tryz.func47,Tryz.ntmps47
 go_upto_region 1 with fail
 obtain⟨v0,hC,HB0,K0⟩:=bx4 w (LN a) 24 (LN e) 24 (LN m) 24 L0s 24
 rw[hC]
 clear hC
 refine Rp K0 HB0 [] [(6,8,L0s,some (7,LN (1%m)))] (cG 0 12 [_,_,_] [(3,11,_),(4,15,_),(5,16,_),(8,9,_)]) [(7,6)] [] [] (oc (g_bd bdw1)<|oc (g_ld 2 uN iN)<|oc (g_cl Zd (fun uZ=>U1 1 m uZ In_1.wide hm h))<|oc g_mv<|oc g_ex<|oc g_ex<|oc (g_al 0 aN)<|oc (g_sn 0 iN)<|oc g_as on) fun u1 b1_6 HB1 _ K1=>?_
 simp only[sQ] at K1⊢
 go_upto_region 4 with fail
 refine Rn K1 HB1 (cG 0 21 [_,_,_] [(3,10,_)]) (oc (g_ld 1 uN iN)<|oc (g_cl Wd hL.out)<|oc (g_bn (fun uZ=>Yi _ _ (L:Int) 1 ((L:Int) -1) uZ rfl (by omega) (by omega)))<|oc g_as on) fun u2 HB2 _ K2=>?_
 simp only[sQ] at K2⊢
 go_wp2_with fail
 go_loopw [10] (fun s10 wr=> ∃(j:Nat),j<=L/\s10=iI ((j:Int) -1)/\Bw w wr/\CV wr (w.heap.size) (LN a)/\CV wr (w.heap.size+1) (LN e)/\CV wr (w.heap.size+1+1) (LN m)/\CV wr (w.heap.size+1+1+1) L0s/\CV wr b1_6 (LN (P (e/2^j).toNat))/\b1_6<wr.heap.size) (fun s10 _=>(intOf s10+1).toNat)
 case atStart=>exact⟨L,by omega,rfl,HB2,(K2.cv 0),(K2.cv 1),(K2.cv 2),(K2.cv 3),by rw[h0.out];exact(K2.cv 4),(K2.lt 4)⟩
 case round=>
  obtain⟨j,hj,rfl,HBr,Ka,Ke,Km,Kr,Kp,lp⟩:=hrel
  have hn:=K2.n
  simp at hn
  have ho4:=K2.lo 4
  by_cases hj0:j=0
  ·have hb:decide (0<=(j:Int) -1)=false:=by simp;omega
   have hend:(e/2^j).toNat=e.toNat:=by rw[hj0];simp
   have Kp:CV wr b1_6 (LN (P e.toNat)):=by rw[<-hend];exact Kp
   clear hend
   have K2_1:Bk w.heap.size wr [(false,w.heap.size,LN a),(false,w.heap.size+1,LN e),(false,w.heap.size+1+1,LN m),(true,w.heap.size+1+1+1,L0s),(false,b1_6,LN (P e.toNat))]:=⟨.c (by omega) Ka<| .c (by omega) Ke<| .c (by omega) Km<| .o (by omega) (K2.lo 3) Kr<| .c lp Kp<|trivial,by simp;omega⟩
   go_upto_region 5 with fail
   refine Rp K2_1 HBr [] [] [(0,24,_),(1,25,_)] [] [] [false,false,false] (oc g_mv<|oc (g_bn (fun uZ=>Tv _ _ ((j:Int) -1) 0 _ uZ hb)) on) fun u3 HB3 sz3 K3=>?_
   simp only[sQ] at K3⊢
   go_upto_region 10 with fail
   refine Rp K3 HB3 [.all 1 (LN (P e.toNat))] [] [(0,45,_),(2,7,_)] [] [] [true,false] (oc (g_ld 1 uN iN)<|oc (g_st 0 iN)<|oc g_as on) fun u4 HB4 sz4 K4=>?_
   simp only[sQ] at K4⊢
   have c6:=(K4.cv 0).n4
   go_wp2
   refine bodyPost_ret (v:= .tuple #[NV (P e.toNat),iI 0]) (by simp[results,Tryz.results47,go_sem,c6]) rfl ⟨rfl,HB4⟩
  ·obtain⟨k,rfl⟩: ∃k,j=k+1:=⟨j -1,by omega⟩
   have hb:decide (0<=((k+1:Nat):Int) -1)=true:=by simp
   obtain⟨n,hn⟩: ∃n:Nat,(e/2^(k+1)).toNat=n:=⟨_,rfl⟩
   have hts:=top_step e he.1 k
   have hnn:0<=e/2^(k+1):=Int.ediv_nonneg he.1 (Int.le_of_lt (Int.pow_pos (by decide)))
   have Kp:CV wr b1_6 (LN (P n)):=by rw[<-hn];exact Kp
   have hnx:Hid ((e/2^k).toNat=n+n+(if bitI e k then 1 else 0)):=by
    show (e/2^k).toNat=_
    rw[hts]
    split<;>omega
   clear hts hn hnn hj0
   have K2_1:Bk w.heap.size wr [(false,w.heap.size,LN a),(false,w.heap.size+1,LN e),(false,w.heap.size+1+1,LN m),(false,w.heap.size+1+1+1,L0s),(true,b1_6,LN (P n))]:=⟨.c (by omega) Ka<| .c (by omega) Ke<| .c (by omega) Km<| .c (by omega) Kr<| .o lp (K2.lo 4) Kp<|trivial,by simp;omega⟩
   go_upto_region 5 with fail
   refine Rn K2_1 HBr [(0,24,_),(1,25,_)] (oc g_mv<|oc (g_bn (fun uZ=>Tv _ _ (((k+1:Nat):Int) -1) 0 _ uZ hb)) on) fun u3 HB3 sz3 K3=>?_
   simp only[sQ] at K3⊢
   go_upto_region 7 with fail
   refine Rp K3 HB3 [.no,.no,.no,.no,.all 7 (LN (P (n+n)))] [] (cG 0 29 [_,_,_,_] [(4,28,_),(5,33,_),(6,34,_)]) [(7,0),(7,1)] [] [] (oc (g_ld 4 uN iN)<|oc (g_ld 4 uN iN)<|oc (g_ld 2 uN iN)<|oc (g_cl Zq (hQ.out n n))<|oc g_mv<|oc g_ex<|oc g_ex<|oc (g_st 4 iN) on) fun u4 HB4 sz4 K4=>?_
   simp only[sQ] at K4⊢
   cases hbit:bitI e k
   ·have Hb:Hid (bitI e k=false):=hbit
    clear hbit
    go_upto_region 8 with fail
    refine Rn K4 HB4 (cG 0 35 [_,_,_] []) (oc (g_ld 1 uN iN)<|oc g_mv<|oc (g_cl Xe (fun uZ=>by have h1:=nrBit e k uZ (by omega) (by omega);rw[Hb.out,show (k:Int)=((k+1:Nat):Int) -1 by omega] at h1;exact h1)) on) fun u5 HB5 sz5 K5=>?_
    simp only[sQ] at K5⊢
    go_upto_region 6 with fail
    refine Rp K5 HB5 [] [] [(0,26,_),(1,27,_),(2,10,_)] [(2,0)] [(2,10)] [] (oc g_mv<|oc (g_bn (fun uZ=>Yi _ _ (((k+1:Nat):Int) -1) 1 ((k:Int) -1) uZ (by omega) (by omega) (by omega)))<|oc g_as on) fun u6 HB6 sz6 K6=>?_
    simp only[sQ] at K6⊢
    go_wp2
    refine⟨⟨k,by omega,rfl,HB6,(K6.cv 0),(K6.cv 1),(K6.cv 2),(K6.cv 3),by rw[hnx.out];simp only[Hb.out];exact(K6.cv 4),(K6.lt 4)⟩,?_⟩
    simp[intOf]<;>omega
   ·have Hb:Hid (bitI e k=true):=hbit
    clear hbit
    go_upto_region 8 with fail
    refine Rn K4 HB4 (cG 0 35 [_,_,_] []) (oc (g_ld 1 uN iN)<|oc g_mv<|oc (g_cl Xe (fun uZ=>by have h1:=nrBit e k uZ (by omega) (by omega);rw[Hb.out,show (k:Int)=((k+1:Nat):Int) -1 by omega] at h1;exact h1)) on) fun u5 HB5 sz5 K5=>?_
    simp only[sQ] at K5⊢
    go_upto_region 9 with fail
    refine Rp K5 HB5 [.no,.no,.no,.no,.all 7 (LN (P (n+n+1)))] [] (cG 0 39 [_,_,_,_] [(4,38,_),(5,43,_),(6,44,_)]) [(7,0)] [] [] (oc (g_ld 4 uN iN)<|oc (g_ld 0 uN iN)<|oc (g_ld 2 uN iN)<|oc (g_cl Zq (hU.out (n+n)))<|oc g_mv<|oc g_ex<|oc g_ex<|oc (g_st 4 iN) on) fun u6 HB6 sz6 K6=>?_
    simp only[sQ] at K6⊢
    go_upto_region 6 with fail
    refine Rp K6 HB6 [] [] [(0,26,_),(1,27,_),(2,10,_)] [(2,0)] [(2,10)] [] (oc g_mv<|oc (g_bn (fun uZ=>Yi _ _ (((k+1:Nat):Int) -1) 1 ((k:Int) -1) uZ (by omega) (by omega) (by omega)))<|oc g_as on) fun u7 HB7 _ K7=>?_
    simp only[sQ] at K7⊢
    go_wp2
    refine⟨⟨k,by omega,rfl,HB7,(K7.cv 0),(K7.cv 1),(K7.cv 2),(K7.cv 3),by rw[hnx.out];simp only[Hb.out];exact(K7.cv 4),(K7.lt 4)⟩,?_⟩
    simp[intOf]<;>omega
theorem xExp (a e m:Int) (w:World) (ha:In a) (he:In e) (hm:In m) (h:m≠0):
 CC 47 #[NV a,NV e,NV m] w (.tuple #[NV (a^e.toNat%m),iI 0]):=by
 refine xExpP (fun k=>a^k%m) a e m w ha he hm h (by simp only[Int.pow_zero]) (fun i j u=>?_) (fun i u=>?_)
 ·have k:=xMul (a^i%m) (a^j%m) m u (Zx hm h) (Zx hm h) hm h
  rw[<-Int.mul_emod,<-Int.pow_add] at k
  exact k
 ·have k:=xMul (a^i%m) a m u (Zx hm h) ha hm h
  rw[Int.mul_emod,Int.emod_emod,<-Int.mul_emod,<-Int.pow_succ] at k
  exact k
theorem Wq (a b:Int) (w:World) (ha:In a) (hb:In b) (h:a+b<0x10000000000000000000000000000000000000000000000000000000000000000):CC 48 #[NV a,NV b] w (.tuple #[NV (a+b),.bool false]):=by
 have e:ovB a b=false:=by unfold ovB;simp;omega
 have k:=nrAdd a b w ha hb
 rw[e] at k;exact k
theorem nrAdd_ge (a b:Int) (w:World) (ha:In a) (hb:In b) (h:0x10000000000000000000000000000000000000000000000000000000000000000<=a+b):CC 48 #[NV a,NV b] w (.tuple #[NV (a+b -0x10000000000000000000000000000000000000000000000000000000000000000),.bool true]):=by
 have e:ovB a b=true:=by unfold ovB;simp;omega
 have k:=nrAdd a b w ha hb
 rw[e] at k;rw[NV_less];exact k
def P512:Int:=0x10000000000000000000000000000000000000000000000000000000000000000*0x10000000000000000000000000000000000000000000000000000000000000000
theorem half {x y:Int} (hx:0<=x) (hy:0<y) (h:y<=x):2*(x%y)<=x:=by
 have e:=Int.mul_ediv_add_emod x y
 have l:=Int.emod_lt_of_pos x hy
 have n:=Int.emod_nonneg x (show y≠0 by omega)
 have q:1<=x/y:=by
  by_cases h1:x/y<1
  ·have hq:0<=x/y:=Int.ediv_nonneg hx (by omega)
   have:x/y=0:=by omega
   rw[this] at e;simp at e;omega
  ·omega
 have m:=Int.mul_le_mul_of_nonneg_left q (show 0<=y by omega)
 omega
def PBk (k:Nat) (x y:Int):Prop:=y=0\/k=0\/(y<=x/\x*y*2^(k -1)<P512)
theorem P512_e:P512=0x10000000000000000000000000000000000000000000000000000000000000000*0x10000000000000000000000000000000000000000000000000000000000000000:=rfl
theorem P_le (k:Nat):P512<=2^(512+k):=by
 rw[show 512+k=256+(256+k) by omega,Int.pow_add,Int.pow_add,show (2:Int)^256=0x10000000000000000000000000000000000000000000000000000000000000000 by decide]
 have p:(0:Int)<2^k:=Int.pow_pos (by omega)
 unfold P512
 omega
theorem prod_lt {x y:Int} (hx:In x) (hy:In y):x*y<P512:=by
 rw[P512_e]
 have h1:=Int.mul_le_mul_of_nonneg_right (show x<=0xffffffffffffffffffffffffffffffffffffffffffffffffffffffffffffffff by have:=hx.2;omega) hy.1
 have h2:=hy.2
 omega
theorem PBk.step {k:Nat} {x y:Int} (hx:In x) (hy:In y) (h:y≠0) (hP:PBk k x y):PBk (k+1) y (x%y):=by
 have y1:0<y:=by have:=hy.1;omega
 have l:=Int.emod_lt_of_pos x y1
 have n:=Int.emod_nonneg x h
 have ir:In (x%y):=Zx hy h
 have base:y*(x%y)<P512:=prod_lt hy ir
 refine .inr (.inr ⟨by omega,?_⟩)
 rcases hP with h0 | h0 | ⟨h1,h2⟩
 ·exact absurd h0 h
 ·subst h0;simpa using base
 ·by_cases hk:k=0
  ·subst hk;simpa using base
  ·obtain⟨j,rfl⟩: ∃j,k=j+1:=⟨k -1,by omega⟩
   simp only[Nat.add_sub_cancel] at h2⊢
   have hh:=half hx.1 y1 h1
   have p:(0:Int)<2^j:=Int.pow_pos (by omega)
   have m1:y*(2*(x%y))<=y*x:=Int.mul_le_mul_of_nonneg_left hh (by omega)
   have m2:=Int.mul_le_mul_of_nonneg_right m1 (Int.le_of_lt p)
   have e:y*(x%y)*2^(j+1)=y*(2*(x%y))*2^j:=by rw[Int.pow_succ];grind
   have e2:y*x=x*y:=Int.mul_comm _ _
   rw[e];rw[e2] at m2;omega
theorem PBk.fin {x y:Int} (hy:In y) (hP:PBk 600 x y):y=0:=by
 rcases hP with h | h | ⟨h1,h2⟩
 ·exact h
 ·omega
 ·by_cases h:y<1
  ·have:=hy.1;omega
  ·exfalso
   have m0:1*1<=x*y:=Int.mul_le_mul (by omega) (by omega) (by omega) (by omega)
   have p:(0:Int)<=2^(512+87):=Int.le_of_lt (Int.pow_pos (by omega))
   have m:=Int.mul_le_mul_of_nonneg_right m0 p
   have c:=P_le 87
   have h2':x*y*2^(512+87)<P512:=h2
   generalize (2:Int)^(512+87)=z at *
   omega
structure RV (m a x y fx fy:Int) (k:Nat):Prop where
 x0:0<=x
 xy:x<y
 ym:y<=m
 g:gI y x=gI m a
 dx:m∣fx*a -x
 dy:m∣fy*a -y
 fx0:0<=fx/\fx<m
 fy0:0<=fy/\fy<m
 b:y*x*2^k<P512
theorem RV.start {m a:Int} (hm:In m) (h1:1<m) (h0:0<=a) (ha:a<m):RV m a a m 1 0 0 where
 x0:=h0
 xy:=ha
 ym:=Int.le_refl _
 g:=rfl
 dx:=⟨0,by omega⟩
 dy:=⟨-1,by omega⟩
 fx0:=⟨by omega,h1⟩
 fy0:=⟨by omega,by omega⟩
 b:=by
  have:=prod_lt hm (show In a from ⟨h0,by have:=hm.2;omega⟩)
  simpa using this
theorem RV.step {m a x y fx fy:Int} {k:Nat} (h:RV m a x y fx fy k) (hx:x≠0):RV m a (y%x) x ((fy -y/x*fx%m)%m) fx (k+1) where
 x0:=Int.emod_nonneg _ hx
 xy:=Int.emod_lt_of_pos _ (by have:=h.x0;omega)
 ym:=by have:=h.xy;have:=h.ym;omega
 g:=by rw[gI_step y x (by have:=h.x0;have:=h.xy;omega) h.x0 hx];exact h.g
 dx:=by
  obtain⟨p,hp⟩:=h.dx
  obtain⟨q,hq⟩:=h.dy
  have e1:=Int.mul_ediv_add_emod (y/x*fx) m
  have e2:=Int.mul_ediv_add_emod (fy -y/x*fx%m) m
  have e3:=Int.mul_ediv_add_emod y x
  generalize (fy -y/x*fx%m)%m=u at *
  generalize (fy -y/x*fx%m)/m=u1 at *
  generalize y/x*fx%m=v at *
  generalize y/x*fx/m=v1 at *
  generalize y%x=r at *
  generalize y/x=s at *
  exact⟨q -s*p+v1*a -u1*a,by grind⟩
 dy:=h.dx
 fx0:=by
  have m0:0<m:=by have:=h.x0;have:=h.xy;have:=h.ym;omega
  exact⟨Int.emod_nonneg _ (by omega),Int.emod_lt_of_pos _ m0⟩
 fy0:=h.fx0
 b:=by
  have x1:0<x:=by have:=h.x0;omega
  have hh:=half (show 0<=y by have:=h.xy;omega) x1 (by have:=h.xy;omega)
  have p:(0:Int)<2^k:=Int.pow_pos (by omega)
  have m1:x*(2*(y%x))<=x*y:=Int.mul_le_mul_of_nonneg_left hh (by omega)
  have m2:=Int.mul_le_mul_of_nonneg_right m1 (Int.le_of_lt p)
  have e:x*(y%x)*2^(k+1)=x*(2*(y%x))*2^k:=by rw[Int.pow_succ];grind
  have hb:=h.b
  have e2:x*y=y*x:=Int.mul_comm _ _
  rw[e];rw[e2] at m2;omega
theorem RV.fin {m a x y fx fy:Int} (h:RV m a x y fx fy 600):x=0:=by
 by_cases h1:x<1
 ·have:=h.x0;omega
 ·exfalso
  have hb:=h.b
  have m0:1*1<=y*x:=Int.mul_le_mul (by have:=h.xy;omega) (by omega) (by omega) (by have:=h.xy;omega)
  have p:(0:Int)<=2^(512+88):=Int.le_of_lt (Int.pow_pos (by omega))
  have m:=Int.mul_le_mul_of_nonneg_right m0 p
  have c:=P_le 88
  have hb:y*x*2^(512+88)<P512:=hb
  generalize (2:Int)^(512+88)=z at *
  omega
end Go.Proofs.YtofcppgfaelloaaGreatDoor
