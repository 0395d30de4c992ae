import Derived.Test.YtoffgfhilkpdpaaGreatDoorMA1
namespace Go.Proofs.YtoffgfhilkpdpaaGreatDoor
set_option linter.unusedVariables false
set_option linter.unusedSimpArgs false
set_option maxRecDepth 100000
set_option maxHeartbeats 4000000
section
open Go.RowKit
def gI(a b:Int):Int:=(Nat.gcd a.toNat b.toNat:Int)
theorem gI_0(a:Int)(ha:0<=a):gI a 0=a:=by unfold gI;simp;omega
theorem gI_step(x y:Int)(hx:0<=x)(hy:0<=y)(h:y≠0):gI y (x%y)=gI x y:=by
 unfold gI
 obtain⟨p,rfl⟩:=Int.eq_ofNat_of_zero_le hx
 obtain⟨q,rfl⟩:=Int.eq_ofNat_of_zero_le hy
 have e:((p:Int)%(q:Int)).toNat=p%q:=by rw[<-Int.natCast_emod];rfl
 rw[e]
 simp only[Int.toNat_natCast]
 rw[Nat.gcd_comm p q,Nat.gcd_rec q p,Nat.gcd_comm]
end
section
def sg(b:Bool):Int:=if b then -1 else 1
theorem sg_not(b:Bool):sg (!b)= -(sg b):=by cases b<;>rfl
structure EI(m a d r f n:Int)(b:Bool):Prop where
 r0:0<=r
 rd:r<d
 f0:0<=f
 n0:0<=n
 eq:f*r+n*d=m
 df:m∣sg b*f*a -d
 dn:m∣ -(sg b)*n*a -r
theorem EI.start{m a:Int}(h0:0<=a)(h1:a<m):EI m a m a 0 1 true where
 r0:=h0
 rd:=h1
 f0:=Z1
 n0:=Z1
 eq:=Z1
 df:=⟨-1,by simp⟩
 dn:=⟨0,by simp[sg]⟩
theorem EI.step{m a d r f n:Int}{b:Bool}(h:EI m a d r f n b)(hr:r≠0):EI m a r (d%r) n (f+d/r*n) (!b) where
 r0:=Int.emod_nonneg _ hr
 rd:=Int.emod_lt_of_pos _ (by have:=h.r0;omega)
 f0:=h.n0
 n0:=by
  have h1:=h.f0;have h2:=h.n0
  have h3:0<=d/r:=Int.ediv_nonneg (by have:=h.rd;have:=h.r0;omega) h.r0
  have:=Int.mul_nonneg h3 h2
  omega
 eq:=by
  have e:=Int.mul_ediv_add_emod d r
  have:=h.eq
  generalize d/r=q at *
  generalize d%r=s at *
  grind
 df:=by rw[sg_not];exact h.dn
 dn:=by
  rw[sg_not]
  have e:=Int.mul_ediv_add_emod d r
  obtain⟨p,hp⟩:=h.df
  obtain⟨s,hs⟩:=h.dn
  refine⟨p -d/r*s,?_⟩
  generalize d/r=q at *
  generalize d%r=t at *
  grind
theorem EI.nm{m a d r f n:Int}{b:Bool}(h:EI m a d r f n b):n<=m:=by
 have h1:=h.rd;have h2:=h.r0;have h3:=h.f0;have h4:=h.n0;have h5:=h.eq
 have h6:=Int.mul_nonneg h3 h2
 have h7:n*1<=n*d:=Int.mul_le_mul_of_nonneg_left Z1 h4
 omega
def euF:Nat->Int->Int->Int->Int->Bool->Int×Int×Bool
 | 0,d,_,f,_,b=>(d,f,b)
 | k+1,d,r,f,n,b=>if r=0 then (d,f,b) else euF k r (d%r) n (f+d/r*n) (!b)
theorem euF_end(k:Nat)(d f n:Int)(b:Bool):euF k d 0 f n b=(d,f,b):=by cases k<;>simp[euF]
theorem euF_step(k:Nat)(d r f n:Int)(b:Bool)(h:r≠0):euF (k+1) d r f n b=euF k r (d%r) n (f+d/r*n) (!b):=by simp[euF,h]
theorem euF_spec(m a:Int): ∀(k:Nat) (d r f n:Int) (b:Bool),r.toNat<=k->EI m a d r f n b->f<=m->
 (euF k d r f n b).1=gI d r/\0<=(euF k d r f n b).2.1/\(euF k d r f n b).2.1<=m/\m∣sg (euF k d r f n b).2.2*(euF k d r f n b).2.1*a -(euF k d r f n b).1
 | 0,d,r,f,n,b,hk,h,hf=>by
  have hr:r=0:=by have:=h.r0;omega
  subst hr
  exact⟨(gI_0 d (by have:=h.rd;omega)).symm,h.f0,hf,h.df⟩
 | k+1,d,r,f,n,b,hk,h,hf=>by
  by_cases hr:r=0
  ·subst hr
   rw[euF_end]
   exact⟨(gI_0 d (by have:=h.rd;omega)).symm,h.f0,hf,h.df⟩
  ·rw[euF_step _ _ _ _ _ _ hr]
   have hs:=h.step hr
   have:=euF_spec m a k r (d%r) n (f+d/r*n) (!b) (by have:=hs.rd;have:=hs.r0;omega) hs h.nm
   rw[gI_step d r (by have:=h.rd;have:=h.r0;omega) h.r0 hr] at this
   exact this
def eu(m a:Int):Int×Int×Bool:=euF a.toNat m a 0 1 true
theorem eu_spec{m a:Int}(h0:0<=a)(h1:a<m):(eu m a).1=gI m a/\0<=(eu m a).2.1/\(eu m a).2.1<=m/\m∣sg (eu m a).2.2*(eu m a).2.1*a -(eu m a).1:=
 euF_spec m a _ m a 0 1 true (Nat.le_refl _) (EI.start h0 h1) Z1
def IsInv(a m x:Int):Prop:=0<=x/\x<m/\m∣x*a -1
theorem IsInv.uniq{a m x y:Int}(hx:IsInv a m x)(hy:IsInv a m y):x=y:=by
 obtain⟨p,hp⟩:=hx.2.2
 obtain⟨q,hq⟩:=hy.2.2
 have h1:m∣x -y:=⟨y*p -x*q,by grind⟩
 have h2:=hx.1;have h3:=hx.2.1;have h4:=hy.1;have h5:=hy.2.1
 obtain⟨k,hk⟩:=h1
 have:k=0:=by
  have hm:0<m:=Z1
  by_cases hk0:k=0
  ·exact hk0
  ·exfalso
   rcases Int.lt_or_gt_of_ne hk0 with h | h
   ·have:=Int.mul_le_mul_of_nonneg_left (show k<= -1 by omega) (show 0<=m by omega);omega
   ·have:=Int.mul_le_mul_of_nonneg_left (show 1<=k by omega) (show 0<=m by omega);omega
 subst this;omega
theorem eu_pos{m a:Int}(h0:0<=a)(h1:a<m)(hg:gI m a=1)(hb:(eu m a).2.2=false):IsInv a m (eu m a).2.1:=by
 obtain⟨e1,e2,e3,e4⟩:=eu_spec h0 h1
 rw[e1,hg,hb] at e4
 have e5:m∣(eu m a).2.1*a -1:=by simpa [sg] using e4
 refine⟨e2,?_,e5⟩
 by_cases hm:(eu m a).2.1=m
 ·exfalso
  rw[hm] at e5
  obtain⟨k,hk⟩:=e5
  have h6:m∣1:=⟨a -k,by grind⟩
  have h7:=Int.le_of_dvd Z1 h6
  have h8:m=1:=Z1
  have h9:a=0:=Z1
  subst h8 h9
  simp[eu,euF] at hb
 ·omega
theorem eu_neg{m a:Int}(h0:0<=a)(h1:a<m)(hg:gI m a=1)(hb:(eu m a).2.2=true):IsInv a m ((0 -(eu m a).2.1)%m):=by
 obtain⟨e1,e2,e3,e4⟩:=eu_spec h0 h1
 rw[e1,hg,hb] at e4
 have e5:m∣ -(eu m a).2.1*a -1:=by simpa [sg] using e4
 refine⟨Int.emod_nonneg _ Z1,Int.emod_lt_of_pos _ Z1,?_⟩
 obtain⟨k,hk⟩:=e5
 have e:=Int.mul_ediv_add_emod (0 -(eu m a).2.1) m
 refine⟨k -(0 -(eu m a).2.1)/m*a,?_⟩
 generalize (0 -(eu m a).2.1)/m=q at *
 generalize (0 -(eu m a).2.1)%m=t at *
 grind
theorem IsInv.ex{m a:Int}(h0:0<=a)(h1:a<m)(hg:gI m a=1): ∃x,IsInv a m x:=by
 cases hb:(eu m a).2.2
 ·exact⟨_,eu_pos h0 h1 hg hb⟩
 ·exact⟨_,eu_neg h0 h1 hg hb⟩
end
section
open Go.RowKit
theorem LN_0:LN 0=[iU 0,iU 0,iU 0,iU 0]:=by simp[LN,D0,D1,D2,D3]
theorem T7{m x:Int}(hm:In m)(h0:0<=x)(h1:x<=m):In x:=⟨h0,by have:=hm.2;omega⟩
theorem mlowI(n:Int)(w:World)(h:In n):CC 154 #[WV n] w (NV n):=by
 have:=mlow n w
 rw[In_lo h] at this;exact this
theorem meuclid(m a:Int)(w:World)(hm:In m)(ha:In a)(h0:0<=a)(h1:a<m):
 CC 164 #[NV m,NV a] w (.tuple #[NV (eu m a).1,NV (eu m a).2.1,.bool (eu m a).2.2]):=by
 go_enter Tryz.func164,Tryz.ntmps164
 go_upto_region 1 with fail
 obtain⟨v0,hC,HB0,K0⟩:=bx4 w (LN m) 24 (LN a) 24 L0s 24 L0s 24
 rw[hC]
 clear hC
 refine Rd K0 HB0 [.no,.no,.all 3 (LN m)] [(2,7,L0s,some (4,LN a))] [(0,13,_),(1,14,_)] [(4,2)] [] [] (Oc5 (g_ld 0 uN iN) (g_ld 1 uN iN) (g_al 0 aN) (g_st 2 iN) (g_sn 0 iN)) fun u1 b1_2 HB1 _ K1=>?_
 simp only[sQ] at K1⊢
 go_upto_region 2 with fail
 refine Rp K1 HB1 [.no,.no,.no,.all 3 ([iU (0),iU (0),iU (0),iU (0)])] [(2,8,L0s,some (4,LN 1))] [(0,15,_),(1,16,_)] [(4,2)] [] [] (Oc5 (g_bd zN) (g_cl Zn (fun uZ=>nOf 1 uZ Z1 Z1)) (g_al 0 aN) (g_st 3 iN) (g_sn 0 iN)) fun u2 b2_2 HB2 _ K2=>?_
 simp only[sQ] at K2⊢
 go_wp2_with fail
 go_loopw [6] (fun s6 wr=> ∃(k:Nat) (d r f n:Int) (b:Bool),s6= .bool b/\r.toNat<=k/\EI m a d r f n b/\d<=m/\f<=m/\Hid (euF k d r f n b=eu m a)/\Bw w wr/\CV wr (w.heap.size+1+1) (LN d)/\CV wr (w.heap.size+1+1+1) (LN f)/\CV wr b1_2 (LN r)/\CV wr b2_2 (LN n)/\b1_2<wr.heap.size/\b2_2<wr.heap.size) (fun _ wr=>natAt wr b1_2)
 case atStart=>exact⟨a.toNat,m,a,0,1,true,rfl,Nat.le_refl _,EI.start h0 h1,Z1,by have:=hm.1;omega,rfl,HB2,(K2.cv 2),by rw[LN_0];exact(K2.cv 3),(K2.cv 4),(K2.cv 5),(K2.lt 4),(K2.lt 5)⟩
 case round=>
  obtain⟨k,d,r,f,n,b,rfl,hk,hE,hdm,hfm,hg,HBr,Kd,Kf,Kr,Kn,lr,ln⟩:=hrel
  have id:In d:=T7 hm (by have:=hE.r0;have:=hE.rd;omega) hdm
  have ir:In r:=T7 hm hE.r0 (by have:=hE.rd;omega)
  have if':In f:=T7 hm hE.f0 hfm
  have inn:In n:=T7 hm hE.n0 hE.nm
  have hn:=K2.n
  simp at hn
  have ho4:=K2.lo 4
  have ho5:=K2.lo 5
  by_cases h2:r=0
  ·have hz:decide (r=0)=!false:=by simp[h2]
   have hgx:eu m a=(d,f,b):=by rw[<-hg.out,h2,euF_end]
   have Hg:Hid _:=hgx
   clear hgx hg h2
   have K2_1:Bk w.heap.size wr [(true,w.heap.size+1+1,LN d),(true,w.heap.size+1+1+1,LN f),(false,b1_2,LN r),(false,b2_2,LN n)]:=⟨.o Z1 (K2.lo 2) Kd<| .o Z1 (K2.lo 3) Kf<| .c lr Kr<| .c ln Kn<|trivial,by simp;omega⟩
   go_upto_region 4 with fail
   refine Rp K2_1 HBr [] [] (cG 0 17 [_,_,_] []) [] [] [true,true,false,false] (Oc3 (g_ld 2 uN iN) (g_bd zN) (g_bn (neq_0 _ _ ir _ hz))) fun u3 HB3 sz3 K3=>?_
   simp only[sQ] at K3⊢
   go_upto_region 10 with fail
   refine Rd K3 HB3 [.all 3 (LN d),.all 4 (LN f)] [] (cG 0 41 [_,_,_] [(5,6,_)]) [(3,0),(4,1),(5,2)] [(5,6)] [] (Oc6 (g_ld 0 uN iN) (g_ld 1 uN iN) g_mv (g_st 0 iN) (g_st 1 iN) g_as) fun u4 HB4 sz4 K4=>?_
   simp only[sQ] at K4⊢
   have c4:=(K4.cv 0).n4
   have c5:=(K4.cv 1).n4
   go_wp2
   refine bodyPost_ret (v:= .tuple #[NV d,NV f,.bool b]) (by simp[results,Tryz.results164,go_sem,c4,c5]) rfl ⟨by rw[Hg.out],HB4⟩
  ·have hz:decide (r=0)=!true:=by simp[h2]
   have hs:=hE.step h2
   obtain⟨k',rfl⟩: ∃k',k=k'+1:=⟨k -1,by have:=hE.r0;omega⟩
   have hgx:Hid (euF k' r (d%r) n (f+d/r*n) (!b)=eu m a):=by rw[<-euF_step k' d r f n b h2];exact hg
   have i1:In (d%r):=Zt ir h2
   have q0:0<=d/r*n:=Int.mul_nonneg (Int.ediv_nonneg id.1 ir.1) inn.1
   have i3:In (f+d/r*n):=T7 hm hs.n0 hs.nm
   have i2:In (d/r*n):=T7 hm q0 (by have:=hs.nm;have:=if'.1;omega)
   have i4:In (d/r):=In_div id ir h2
   have i5:f+d/r*n<0x10000000000000000000000000000000000000000000000000000000000000000:=i3.2
   have n0:Hid _:=natAt_of Kr ir
   clear hg
   have K2_1:Bk w.heap.size wr [(true,w.heap.size+1+1,LN d),(true,w.heap.size+1+1+1,LN f),(true,b1_2,LN r),(true,b2_2,LN n)]:=⟨.o Z1 (K2.lo 2) Kd<| .o Z1 (K2.lo 3) Kf<| .o lr (K2.lo 4) Kr<| .o ln (K2.lo 5) Kn<|trivial,by simp;omega⟩
   go_upto_region 4 with fail
   refine Rn K2_1 HBr (cG 0 17 [_,_,_] []) (Oc3 (g_ld 2 uN iN) (g_bd zN) (g_bn (neq_0 _ _ ir _ hz))) fun u3 HB3 sz3 K3=>?_
   simp only[sQ] at K3⊢
   go_upto_region 5 with fail
   refine Rp K3 HB3 [] [(6,9,L0s,some (8,LN (d/r))),(7,10,L0s,some (9,LN (d%r)))] (cG 0 21 [_,_,_] [(3,20,_),(4,24,_),(5,25,_)]) [(8,6),(9,7)] [] [] (Oc10 (g_ld 0 uN iN) (g_ld 2 uN iN) (g_cl Vw (fun uZ=>mdivide d r uZ id ir h2)) g_mv g_ex g_ex (g_al 0 aN) (g_al 1 aN) (g_sn 0 iN) (g_sn 1 iN)) fun u4 b4_6 b4_7 HB4 sz4 K4=>?_
   simp only[sQ] at K4⊢
   go_upto_region 6 with fail
   refine Rd K4 HB4 [.all 2 (LN r),.no,.all 3 (LN (d%r))] [] [(0,26,_),(1,27,_)] [(3,0)] [] [true,true,true,true,true,false] (Oc4 (g_ld 2 uN iN) (g_ld 5 uN iN) (g_st 0 iN) (g_st 2 iN)) fun u5 HB5 _ K5=>?_
   simp only[sQ] at K5⊢
   go_upto_region 7 with fail
   refine Rd K5 HB5 [] [(9,11,L0s,some (10,LN (f+d/r*n)))] (cG 0 29 [_,_,_,_,_,_] [(6,28,_),(7,35,_),(8,36,_),(11,12,_)]) [(10,9)] [] [true,true,true,true,false] (Od8 (g_ld 1 uN iN) (g_ld 4 uN iN) (g_ld 3 uN iN) (g_cl Xw (fun uZ=>nMul (d/r) n uZ i4 inn)) (g_cl Wm (fun uZ=>mlowI (d/r*n) uZ i2)) (g_cl Xd (fun uZ=>nAdd_lt f (d/r*n) uZ if' i2 i5)) g_mv g_ex<|Oc4 g_ex (g_al 0 aN) (g_sn 0 iN) g_as) fun u6 b6_9 HB6 _ K6=>?_
   simp only[sQ] at K6⊢
   go_upto_region 8 with fail
   refine Rd K6 HB6 [.no,.all 2 (LN n),.no,.all 3 (LN (f+d/r*n))] [] [(0,37,_),(1,38,_)] [(3,0)] [] [true,true,true,true,false] (Oc4 (g_ld 3 uN iN) (g_ld 4 uN iN) (g_st 1 iN) (g_st 3 iN)) fun u7 HB7 _ K7=>?_
   simp only[sQ] at K7⊢
   go_upto_region 9 with fail
   refine Rp K7 HB7 [] [] [(0,39,_),(1,40,_),(2,6,_)] [(2,0)] [(2,6)] [] (Oc3 g_mv (g_un (fun uZ=>rfl)) g_as) fun u8 HB8 _ K8=>?_
   simp only[sQ] at K8⊢
   go_wp2
   refine⟨⟨k',r,d%r,n,f+d/r*n,!b,rfl,by have:=hs.rd;have:=hs.r0;omega,hs,by have:=hE.rd;omega,hE.nm,hgx,HB8,(K8.cv 0),(K8.cv 1),(K8.cv 2),(K8.cv 3),(K8.lt 2),(K8.lt 3)⟩,?_⟩
   rw[natAt_of (K8.cv 2) i1,n0.out]
   have:=hs.rd;have:=hs.r0;omega
theorem NV_0:NV 0=A4 0 0 0 0:=Xz Z1 Z1
theorem In_0:In 0:=⟨Z1,Z1⟩
theorem In_1:In 1:=⟨Z1,Z1⟩
theorem mSub0(b m:Int)(w:World)(hb:In b)(hm:In m)(h:m≠0):CC 159 #[A4 0 0 0 0,NV b,NV m] w (.tuple #[NV ((0 -b)%m),iI 0]):=by
 rw[<-NV_0];exact mSub 0 b m w In_0 hb hm h
theorem mInverse_neg(a m x:Int)(w:World)(ha:In a)(hm:In m)(h:m≠0)(hg:gI m (a%m)=1)(hx:IsInv (a%m) m x)(hb:(eu m (a%m)).2.2=true):
 CC 158 #[NV a,NV m] w (.tuple #[NV x,iI 0]):=by
 have ia:In (a%m):=Zt hm h
 have h0:0<=a%m:=ia.1
 have h1:a%m<m:=Int.emod_lt_of_pos a (by have:=hm.1;omega)
 obtain⟨e1,e2,e3,e4⟩:=eu_spec h0 h1
 have hE:=fun w=>meuclid m (a%m) w hm ia h0 h1
 have hx':=hx.uniq (eu_neg h0 h1 hg hb)
 rw[e1,hg,hb] at hE
 generalize (eu m (a%m)).2.1=f at *
 obtain⟨d,hd⟩: ∃d:Int,d=1:=⟨1,rfl⟩
 rw[<-hd] at hE
 have id:In d:=by rw[hd];exact In_1
 have if':In f:=T7 hm e2 e3
 have hz:decide (d=1)=!false:=by simp[hd]
 have hE':Hid _:=hE
 have Hx:Hid _:=hx'
 clear hE hx' e1 e4 hg hb hx hd
 go_enter Tryz.func158,Tryz.ntmps158
 go_upto_region 1 with fail
 obtain⟨v0,hC,HB0,K0⟩:=bx3 w (LN a) 24 (LN m) 24 L0s 24
 rw[hC]
 clear hC
 refine Rd K0 HB0 [.all 7 (LN (a%m))] [] (cG 0 11 [_,_,_,_] [(4,10,_),(5,15,_),(6,16,_),(8,6,_)]) [(7,0)] [] [] (Oc9 (g_ld 0 uN iN) (g_cl Zl (fun uZ=>W6 a uZ ha)) (g_ld 1 uN iN) (g_cl Zp (fun uZ=>Xl a m uZ ha.wide hm h)) g_mv g_ex g_ex (g_st 0 iN) g_as) fun u1 HB1 _ K1=>?_
 simp only[sQ] at K1⊢
 go_upto_region 4 with fail
 refine Rp K1 HB1 [] [(7,7,L0s,some (9,LN d)),(8,8,L0s,some (10,LN f))] (cG 0 22 [_,_,_] [(3,21,_),(4,25,_),(5,26,_),(6,27,_),(11,9,_)]) [(9,7),(10,8)] [] [false] (Od8 (g_ld 1 uN iN) (g_ld 0 uN iN) (g_cl Vv hE'.out) g_mv g_ex g_ex g_ex (g_al 0 aN)<|Oc4 (g_al 1 aN) (g_sn 0 iN) (g_sn 1 iN) g_as) fun u2 b2_7 b2_8 HB2 _ K2=>?_
 simp only[sQ] at K2⊢
 go_upto_region 5 with fail
 refine Rd K2 HB2 [] [] (cG 0 29 [_,_,_] [(3,28,_)]) [] [] [true,true,false] (Oc4 (g_ld 2 uN iN) (g_cl Zn (fun uZ=>nOf 1 uZ Z1 Z1)) (g_bn (Up _ _ id In_1 _ hz)) g_as) fun u3 HB3 _ K3=>?_
 simp only[sQ] at K3⊢
 go_upto_region 7 with fail
 refine Rn K3 HB3 [(0,34,_),(1,33,_)] (Oc2 g_mv g_as) fun u4 HB4 _ K4=>?_
 simp only[sQ] at K4⊢
 go_upto_region 8 with fail
 refine Rp K4 HB4 [.no,.all 6 (LN ((0 -f)%m))] [] (cG 0 35 [_,_,_,_,_,_] [(7,5,_)]) [] [] [false,true,false] (Oc8 (g_bd zN) (g_ld 2 uN iN) (g_ld 0 uN iN) (g_cl ent_mod_Sub (fun uZ=>mSub0 f m uZ if' hm h)) g_ex g_ex (g_st 1 iN) g_as) fun u5 HB5 _ K5=>?_
 simp only[sQ] at K5⊢
 have c4:=(K5.cv 0).n4
 go_wp2
 refine bodyPost_ret (v:= .tuple #[NV ((0 -f)%m),iI 0]) (by simp[results,Tryz.results158,go_sem,c4]) rfl ⟨by rw[Hx.out],HB5⟩
theorem mInverse_pos(a m x:Int)(w:World)(ha:In a)(hm:In m)(h:m≠0)(hg:gI m (a%m)=1)(hx:IsInv (a%m) m x)(hb:(eu m (a%m)).2.2=false):
 CC 158 #[NV a,NV m] w (.tuple #[NV x,iI 0]):=by
 have ia:In (a%m):=Zt hm h
 have h0:0<=a%m:=ia.1
 have h1:a%m<m:=Int.emod_lt_of_pos a (by have:=hm.1;omega)
 obtain⟨e1,e2,e3,e4⟩:=eu_spec h0 h1
 have hE:=fun w=>meuclid m (a%m) w hm ia h0 h1
 have hx':=hx.uniq (eu_pos h0 h1 hg hb)
 rw[e1,hg,hb] at hE
 generalize (eu m (a%m)).2.1=f at *
 obtain⟨d,hd⟩: ∃d:Int,d=1:=⟨1,rfl⟩
 rw[<-hd] at hE
 have id:In d:=by rw[hd];exact In_1
 have if':In f:=T7 hm e2 e3
 have hz:decide (d=1)=!false:=by simp[hd]
 have hE':Hid _:=hE
 have Hx:Hid _:=hx'
 clear hE hx' e1 e4 hg hb hx hd
 go_enter Tryz.func158,Tryz.ntmps158
 go_upto_region 1 with fail
 obtain⟨v0,hC,HB0,K0⟩:=bx3 w (LN a) 24 (LN m) 24 L0s 24
 rw[hC]
 clear hC
 refine Rd K0 HB0 [.all 7 (LN (a%m))] [] (cG 0 11 [_,_,_,_] [(4,10,_),(5,15,_),(6,16,_),(8,6,_)]) [(7,0)] [] [] (Oc9 (g_ld 0 uN iN) (g_cl Zl (fun uZ=>W6 a uZ ha)) (g_ld 1 uN iN) (g_cl Zp (fun uZ=>Xl a m uZ ha.wide hm h)) g_mv g_ex g_ex (g_st 0 iN) g_as) fun u1 HB1 _ K1=>?_
 simp only[sQ] at K1⊢
 go_upto_region 4 with fail
 refine Rp K1 HB1 [] [(7,7,L0s,some (9,LN d)),(8,8,L0s,some (10,LN f))] (cG 0 22 [_,_,_] [(3,21,_),(4,25,_),(5,26,_),(6,27,_),(11,9,_)]) [(9,7),(10,8)] [] [false,false] (Od8 (g_ld 1 uN iN) (g_ld 0 uN iN) (g_cl Vv hE'.out) g_mv g_ex g_ex g_ex (g_al 0 aN)<|Oc4 (g_al 1 aN) (g_sn 0 iN) (g_sn 1 iN) g_as) fun u2 b2_7 b2_8 HB2 _ K2=>?_
 simp only[sQ] at K2⊢
 go_upto_region 5 with fail
 refine Rd K2 HB2 [] [] (cG 0 29 [_,_,_] [(3,28,_)]) [] [] [true,false] (Oc4 (g_ld 1 uN iN) (g_cl Zn (fun uZ=>nOf 1 uZ Z1 Z1)) (g_bn (Up _ _ id In_1 _ hz)) g_as) fun u3 HB3 _ K3=>?_
 simp only[sQ] at K3⊢
 go_upto_region 7 with fail
 refine Rn K3 HB3 [(0,34,_),(1,33,_)] (Oc2 g_mv g_as) fun u4 HB4 _ K4=>?_
 simp only[sQ] at K4⊢
 go_upto_region 9 with fail
 refine Rp K4 HB4 [.all 1 (LN f)] [] [(0,41,_),(2,5,_)] [] [] [true,false] (Oc3 (g_ld 1 uN iN) (g_st 0 iN) g_as) fun u5 HB5 _ K5=>?_
 simp only[sQ] at K5⊢
 have c4:=(K5.cv 0).n4
 go_wp2
 refine bodyPost_ret (v:= .tuple #[NV f,iI 0]) (by simp[results,Tryz.results158,go_sem,c4]) rfl ⟨by rw[Hx.out],HB5⟩
theorem mInverse(a m x:Int)(w:World)(ha:In a)(hm:In m)(h:m≠0)(hg:gI m (a%m)=1)(hx:IsInv (a%m) m x):
 CC 158 #[NV a,NV m] w (.tuple #[NV x,iI 0]):=by
 cases hb:(eu m (a%m)).2.2
 ·exact mInverse_pos a m x w ha hm h hg hx hb
 ·exact mInverse_neg a m x w ha hm h hg hx hb
def wordOf(a b c d i:Int):Int:=if i/64=0 then a else if i/64=1 then b else if i/64=2 then c else d
def bitv(a b c d i:Int):Bool:=decide (0<=i)&&decide (i<256)&&(wordOf a b c d i/2^(i%64).toNat%2==1)
theorem and1(x:Int)(h:W64 x):bits .and .u64 x 1=x%2:=by
 obtain⟨h1,h2⟩:=h
 obtain⟨x,rfl⟩:=Int.eq_ofNat_of_zero_le h1
 have e:=bits_and_u64_nat x 1 Z1 Z1
 have f:x&&&1=x%2:=Nat.and_two_pow_sub_one_eq_mod x 1
 rw[f] at e
 exact e.trans Z1
theorem W_shr(x:Int)(n:Nat)(hx:W64 x):W64 (x/2^n):=by
 obtain⟨x1,x2⟩:=hx
 have p:(0:Int)<2^n:=Int.pow_pos Z1
 have h1:0<=x/2^n:=Int.ediv_nonneg x1 Z1
 have h2:x/2^n<=x:=Int.ediv_le_self _ x1
 exact⟨h1,Z1⟩
theorem bit_out(a b c d i:Int)(w:World)(h:i<0\/256<=i):
 CC 134 #[A4 a b c d,iI i] w (.bool false):=by
 by_cases h0:i<0
 ·go_enter Tryz.func134,Tryz.ntmps134
  go_wp2
  go_ret
  exact⟨rfl,by go_grown⟩
 ·have h1:256<=i:=Z1
  go_enter Tryz.func134,Tryz.ntmps134
  go_wp2
  go_ret
  exact⟨rfl,by go_grown⟩
theorem bit_in0(a b c d i r:Int)(w:World)(hx:W64 a)(h0:0<=i)(h1:i<256)(hk:i/64=0)(hr:i%64=r)(r0:0<=r)(r1:r<=63):
 CC 134 #[A4 a b c d,iI i] w (.bool (a/2^r.toNat%2==1)):=by
 have ha:=and1 _ (W_shr a r.toNat hx)
 go_enter Tryz.func134,Tryz.ntmps134
 go_wp2
 go_ret
 exact⟨rfl,by go_grown⟩
theorem bit_in1(a b c d i r:Int)(w:World)(hx:W64 b)(h0:0<=i)(h1:i<256)(hk:i/64=1)(hr:i%64=r)(r0:0<=r)(r1:r<=63):
 CC 134 #[A4 a b c d,iI i] w (.bool (b/2^r.toNat%2==1)):=by
 have ha:=and1 _ (W_shr b r.toNat hx)
 go_enter Tryz.func134,Tryz.ntmps134
 go_wp2
 go_ret
 exact⟨rfl,by go_grown⟩
theorem bit_in2(a b c d i r:Int)(w:World)(hx:W64 c)(h0:0<=i)(h1:i<256)(hk:i/64=2)(hr:i%64=r)(r0:0<=r)(r1:r<=63):
 CC 134 #[A4 a b c d,iI i] w (.bool (c/2^r.toNat%2==1)):=by
 have ha:=and1 _ (W_shr c r.toNat hx)
 go_enter Tryz.func134,Tryz.ntmps134
 go_wp2
 go_ret
 exact⟨rfl,by go_grown⟩
theorem bit_in3(a b c d i r:Int)(w:World)(hx:W64 d)(h0:0<=i)(h1:i<256)(hk:i/64=3)(hr:i%64=r)(r0:0<=r)(r1:r<=63):
 CC 134 #[A4 a b c d,iI i] w (.bool (d/2^r.toNat%2==1)):=by
 have ha:=and1 _ (W_shr d r.toNat hx)
 go_enter Tryz.func134,Tryz.ntmps134
 go_wp2
 go_ret
 exact⟨rfl,by go_grown⟩
theorem Bit_any(a b c d i:Int)(w:World)(ha:W64 a)(hb:W64 b)(hc:W64 c)(hd:W64 d):
 CC 134 #[A4 a b c d,iI i] w (.bool (bitv a b c d i)):=by
 by_cases h:i<0\/256<=i
 ·have e:bitv a b c d i=false:=by
   unfold bitv;rcases h with h | h
   ·simp;omega
   ·simp;omega
  rw[e];exact bit_out a b c d i w h
 ·have h0:0<=i:=Z1
  have h1:i<256:=Z1
  have hc4:i/64=0\/i/64=1\/i/64=2\/i/64=3:=Z1
  unfold bitv wordOf
  simp only[h0,h1,decide_true,Bool.true_and]
  rcases hc4 with hk | hk | hk | hk
  ·rw[hk];exact bit_in0 a b c d i (i%64) w ha h0 h1 hk rfl Z1 Z1
  ·rw[hk];exact bit_in1 a b c d i (i%64) w hb h0 h1 hk rfl Z1 Z1
  ·rw[hk];exact bit_in2 a b c d i (i%64) w hc h0 h1 hk rfl Z1 Z1
  ·rw[hk];exact bit_in3 a b c d i (i%64) w hd h0 h1 hk rfl Z1 Z1
def lenI(e:Int):Int:=blen (D0 e) (D1 e) (D2 e) (D3 e)
def bitI(e i:Int):Bool:=decide (e/2^i.toNat%2=1)
theorem nLen(e:Int)(w:World):CC 118 #[NV e] w (iI (lenI e)):=
 Uq _ _ _ _ w (W_D0 e) (W_D1 e) (W_D2 e) (W_D3 e)
theorem lenI_bd(e:Int):0<=lenI e/\lenI e<=256:=by
 have a:=Vm _ (W_D0 e);have b:=Vm _ (W_D1 e);have c:=Vm _ (W_D2 e);have d:=Vm _ (W_D3 e)
 unfold lenI blen
 repeat' split
 all_goals omega
theorem bl_lt(x:Int)(h:W64 x)(h0:x≠0):x+1<=2^(bl x).toNat:=by
 obtain⟨h1,h2⟩:=h
 obtain⟨n,rfl⟩:=Int.eq_ofNat_of_zero_le h1
 have:=(Wo 64 n Z1 Z1 Z1).2.2
 unfold bl
 simp only[Int.toNat_natCast]
 have e:((2^Lib.bitLen n:Nat):Int)=(2:Int)^Lib.bitLen n:=by simp
 omega
theorem top_lt(x k:Int)(h:W64 x)(h0:x≠0)(hk:0<=k):(x+1)*2^k.toNat<=2^(k+bl x).toNat:=by
 have hb:=Vm x h
 rw[Int.toNat_add hk hb.1,Int.pow_add,Int.mul_comm]
 exact Int.mul_le_mul_of_nonneg_left (bl_lt x h h0) (Int.le_of_lt (Int.pow_pos Z2))
theorem lenI_lt{e:Int}(he:In e):e<2^(lenI e).toNat:=by
 have a:=W_D0 e;have b:=W_D1 e;have c:=W_D2 e;have d:=W_D3 e
 have hv:=V_In he
 have ha:=a;have hb:=b;have hc:=c;have hd:=d
 unfold W64 at a b c d
 unfold lenI blen
 unfold V at hv
 split
 ·have:=top_lt _ 192 hd ‹_› Z2
  have e2:((2:Int)^(192:Int).toNat)=0x1000000000000000000000000000000000000000000000000:=Z2
  rw[e2] at this
  omega
 ·split
  ·have:=top_lt _ 128 hc ‹_› Z2
   have e2:((2:Int)^(128:Int).toNat)=0x100000000000000000000000000000000:=Z2
   rw[e2] at this
   omega
  ·split
   ·have:=top_lt _ 64 hb ‹_› Z2
    have e2:((2:Int)^(64:Int).toNat)=18446744073709551616:=Z2
    rw[e2] at this
    omega
   ·split
    ·have:=bl_lt _ ha ‹_›
     omega
    ·have:e=0:=Z1
     rw[this];decide
theorem bit_mod(x:Int)(r:Nat)(hr:r<64):x%18446744073709551616/2^r%2=x/2^r%2:=by
 have e:=Int.mul_ediv_add_emod x 18446744073709551616
 have hp:(18446744073709551616:Int)=2^r*(2*2^(63 -r)):=by
  have:(18446744073709551616:Int)=2^(r+(1+(63 -r))):=by rw[show r+(1+(63 -r))=64 by omega];decide
  rw[this,Int.pow_add,Int.pow_add];simp
 have h2:(2:Int)^r≠0:=Int.ne_of_gt (Int.pow_pos Z2)
 generalize x/18446744073709551616=q at *
 generalize x%18446744073709551616=s at *
 have hx:x=s+2^r*(2*2^(63 -r)*q):=by rw[<-e,hp];grind
 rw[hx,Int.add_mul_ediv_left _ _ h2,Int.mul_assoc,Int.add_mul_emod_self_left]
theorem bitv_I{e i:Int}(h0:0<=i)(h1:i<256):bitv (D0 e) (D1 e) (D2 e) (D3 e) i=bitI e i:=by
 unfold bitv bitI
 have hr:(i%64).toNat<64:=Z1
 have key: ∀(k:Int),wordOf (D0 e) (D1 e) (D2 e) (D3 e) i=e/2^(64*(i/64)).toNat%18446744073709551616:=fun _=>by
  unfold wordOf
  have h4:i/64=0\/i/64=1\/i/64=2\/i/64=3:=Z1
  rcases h4 with h | h | h | h<;>rw[h]
  ·simp[D0]
  ·have e2:((2:Int)^(64*(1:Int)).toNat)=18446744073709551616:=Z2
   rw[e2];simp[D1]
  ·have e2:((2:Int)^(64*(2:Int)).toNat)=0x100000000000000000000000000000000:=Z2
   rw[e2];simp[D2]
  ·have e2:((2:Int)^(64*(3:Int)).toNat)=0x1000000000000000000000000000000000000000000000000:=Z2
   rw[e2];simp[D3]
 rw[key 0,bit_mod _ _ hr,Int.ediv_ediv_of_nonneg (Int.le_of_lt (Int.pow_pos Z2)),<-Int.pow_add,<-Int.toNat_add Z1 Z1,show 64*(i/64)+i%64=i by omega]
 simp[h0,h1]
 rw[Bool.eq_iff_iff];simp
theorem nBit(e i:Int)(w:World)(h0:0<=i)(h1:i<256):CC 134 #[NV e,iI i] w (.bool (bitI e i)):=by
 rw[<-bitv_I h0 h1];exact Bit_any _ _ _ _ i w (W_D0 e) (W_D1 e) (W_D2 e) (W_D3 e)
theorem top_step(e:Int)(he:0<=e)(k:Nat):e/2^k=2*(e/2^(k+1))+(if bitI e k then 1 else 0):=by
 unfold bitI
 rw[Int.toNat_natCast,Int.pow_succ,<-Int.ediv_ediv_of_nonneg (Int.le_of_lt (Int.pow_pos Z2))]
 generalize e/2^k=q
 by_cases h:q%2=1<;>simp[h]<;>omega
end
end Go.Proofs.YtoffgfhilkpdpaaGreatDoor
