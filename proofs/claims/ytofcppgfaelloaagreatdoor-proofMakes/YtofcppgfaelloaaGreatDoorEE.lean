import Derived.Test.YtofcppgfaelloaaGreatDoorMM
namespace Go.Proofs.YtofcppgfaelloaaGreatDoor
set_option linter.unusedVariables false
set_option linter.unusedSimpArgs false
set_option maxRecDepth 100000
set_option maxHeartbeats 4000000
section
open Go.RowKit
def gI (a b:Int):Int:=(Nat.gcd a.toNat b.toNat:Int)
theorem gI_0 (a:Int) (ha:0<=a):gI a 0=a:=by unfold gI;simp;omega
theorem gI_step (x y:Int) (hx:0<=x) (hy:0<=y) (h:y≠0):gI y (x%y)=gI x y:=by
 unfold gI
 obtain⟨p,rfl⟩:=Int.eq_ofNat_of_zero_le hx
 obtain⟨q,rfl⟩:=Int.eq_ofNat_of_zero_le hy
 have e:((p:Int)%(q:Int)).toNat=p%q:=by rw[<-Int.natCast_emod];rfl
 rw[e]
 simp only[Int.toNat_natCast]
 rw[Nat.gcd_comm p q,Nat.gcd_rec q p,Nat.gcd_comm]
end
section
def sg (b:Bool):Int:=if b then -1 else 1
theorem sg_not (b:Bool):sg (!b)= -(sg b):=by cases b<;>rfl
structure EI (m a d r f n:Int) (b:Bool):Prop where
 r0:0<=r
 rd:r<d
 f0:0<=f
 n0:0<=n
 eq:f*r+n*d=m
 df:m∣sg b*f*a -d
 dn:m∣ -(sg b)*n*a -r
theorem EI.start {m a:Int} (h0:0<=a) (h1:a<m):EI m a m a 0 1 true where
 r0:=h0
 rd:=h1
 f0:=by omega
 n0:=by omega
 eq:=by omega
 df:=⟨-1,by simp⟩
 dn:=⟨0,by simp[sg]⟩
theorem EI.step {m a d r f n:Int} {b:Bool} (h:EI m a d r f n b) (hr:r≠0):EI m a r (d%r) n (f+d/r*n) (!b) where
 r0:=Int.emod_nonneg _ hr
 rd:=Int.emod_lt_of_pos _ (by have:=h.r0;omega)
 f0:=h.n0
 n0:=by
  have h1:=h.f0;have h2:=h.n0
  have h3:0<=d/r:=Int.ediv_nonneg (by have:=h.rd;have:=h.r0;omega) h.r0
  have:=Int.mul_nonneg h3 h2
  omega
 eq:=by
  have e:=Int.mul_ediv_add_emod d r
  have:=h.eq
  generalize d/r=q at *
  generalize d%r=s at *
  grind
 df:=by rw[sg_not];exact h.dn
 dn:=by
  rw[sg_not]
  have e:=Int.mul_ediv_add_emod d r
  obtain⟨p,hp⟩:=h.df
  obtain⟨s,hs⟩:=h.dn
  refine⟨p -d/r*s,?_⟩
  generalize d/r=q at *
  generalize d%r=t at *
  grind
theorem EI.nm {m a d r f n:Int} {b:Bool} (h:EI m a d r f n b):n<=m:=by
 have h1:=h.rd;have h2:=h.r0;have h3:=h.f0;have h4:=h.n0;have h5:=h.eq
 have h6:=Int.mul_nonneg h3 h2
 have h7:n*1<=n*d:=Int.mul_le_mul_of_nonneg_left (by omega) h4
 omega
def euF:Nat->Int->Int->Int->Int->Bool->Int×Int×Bool
 | 0,d,_,f,_,b=>(d,f,b)
 | k+1,d,r,f,n,b=>if r=0 then (d,f,b) else euF k r (d%r) n (f+d/r*n) (!b)
theorem euF_end (k:Nat) (d f n:Int) (b:Bool):euF k d 0 f n b=(d,f,b):=by cases k<;>simp[euF]
theorem euF_step (k:Nat) (d r f n:Int) (b:Bool) (h:r≠0):euF (k+1) d r f n b=euF k r (d%r) n (f+d/r*n) (!b):=by simp[euF,h]
theorem euF_spec (m a:Int): ∀(k:Nat) (d r f n:Int) (b:Bool),r.toNat<=k->EI m a d r f n b->f<=m->
 (euF k d r f n b).1=gI d r/\0<=(euF k d r f n b).2.1/\(euF k d r f n b).2.1<=m/\m∣sg (euF k d r f n b).2.2*(euF k d r f n b).2.1*a -(euF k d r f n b).1
 | 0,d,r,f,n,b,hk,h,hf=>by
  have hr:r=0:=by have:=h.r0;omega
  subst hr
  exact⟨(gI_0 d (by have:=h.rd;omega)).symm,h.f0,hf,h.df⟩
 | k+1,d,r,f,n,b,hk,h,hf=>by
  by_cases hr:r=0
  ·subst hr
   rw[euF_end]
   exact⟨(gI_0 d (by have:=h.rd;omega)).symm,h.f0,hf,h.df⟩
  ·rw[euF_step _ _ _ _ _ _ hr]
   have hs:=h.step hr
   have:=euF_spec m a k r (d%r) n (f+d/r*n) (!b) (by have:=hs.rd;have:=hs.r0;omega) hs h.nm
   rw[gI_step d r (by have:=h.rd;have:=h.r0;omega) h.r0 hr] at this
   exact this
def eu (m a:Int):Int×Int×Bool:=euF a.toNat m a 0 1 true
theorem eu_spec {m a:Int} (h0:0<=a) (h1:a<m):(eu m a).1=gI m a/\0<=(eu m a).2.1/\(eu m a).2.1<=m/\m∣sg (eu m a).2.2*(eu m a).2.1*a -(eu m a).1:=
 euF_spec m a _ m a 0 1 true (Nat.le_refl _) (EI.start h0 h1) (by omega)
def IsInv (a m x:Int):Prop:=0<=x/\x<m/\m∣x*a -1
theorem IsInv.uniq {a m x y:Int} (hx:IsInv a m x) (hy:IsInv a m y):x=y:=by
 obtain⟨p,hp⟩:=hx.2.2
 obtain⟨q,hq⟩:=hy.2.2
 have h1:m∣x -y:=⟨y*p -x*q,by grind⟩
 have h2:=hx.1;have h3:=hx.2.1;have h4:=hy.1;have h5:=hy.2.1
 obtain⟨k,hk⟩:=h1
 have:k=0:=by
  have hm:0<m:=by omega
  by_cases hk0:k=0
  ·exact hk0
  ·exfalso
   rcases Int.lt_or_gt_of_ne hk0 with h | h
   ·have:=Int.mul_le_mul_of_nonneg_left (show k<= -1 by omega) (show 0<=m by omega);omega
   ·have:=Int.mul_le_mul_of_nonneg_left (show 1<=k by omega) (show 0<=m by omega);omega
 subst this;omega
theorem eu_pos {m a:Int} (h0:0<=a) (h1:a<m) (hg:gI m a=1) (hb:(eu m a).2.2=false):IsInv a m (eu m a).2.1:=by
 obtain⟨e1,e2,e3,e4⟩:=eu_spec h0 h1
 rw[e1,hg,hb] at e4
 have e5:m∣(eu m a).2.1*a -1:=by simpa [sg] using e4
 refine⟨e2,?_,e5⟩
 by_cases hm:(eu m a).2.1=m
 ·exfalso
  rw[hm] at e5
  obtain⟨k,hk⟩:=e5
  have h6:m∣1:=⟨a -k,by grind⟩
  have h7:=Int.le_of_dvd (by omega) h6
  have h8:m=1:=by omega
  have h9:a=0:=by omega
  subst h8 h9
  simp[eu,euF] at hb
 ·omega
theorem eu_neg {m a:Int} (h0:0<=a) (h1:a<m) (hg:gI m a=1) (hb:(eu m a).2.2=true):IsInv a m ((0 -(eu m a).2.1)%m):=by
 obtain⟨e1,e2,e3,e4⟩:=eu_spec h0 h1
 rw[e1,hg,hb] at e4
 have e5:m∣ -(eu m a).2.1*a -1:=by simpa [sg] using e4
 refine⟨Int.emod_nonneg _ (by omega),Int.emod_lt_of_pos _ (by omega),?_⟩
 obtain⟨k,hk⟩:=e5
 have e:=Int.mul_ediv_add_emod (0 -(eu m a).2.1) m
 refine⟨k -(0 -(eu m a).2.1)/m*a,?_⟩
 generalize (0 -(eu m a).2.1)/m=q at *
 generalize (0 -(eu m a).2.1)%m=t at *
 grind
theorem IsInv.ex {m a:Int} (h0:0<=a) (h1:a<m) (hg:gI m a=1): ∃x,IsInv a m x:=by
 cases hb:(eu m a).2.2
 ·exact⟨_,eu_pos h0 h1 hg hb⟩
 ·exact⟨_,eu_neg h0 h1 hg hb⟩
end
section
open Go.RowKit
theorem LN_0:LN 0=[iU 0,iU 0,iU 0,iU 0]:=by simp[LN,D0,D1,D2,D3]
theorem In_le {m x:Int} (hm:In m) (h0:0<=x) (h1:x<=m):In x:=⟨h0,by have:=hm.2;omega⟩
theorem mlowI (n:Int) (w:World) (h:In n):CC 125 #[WV n] w (NV n):=by
 have:=mlow n w
 rw[In_lo h] at this;exact this
theorem meuclid (m a:Int) (w:World) (hm:In m) (ha:In a) (h0:0<=a) (h1:a<m):
 CC 145 #[NV m,NV a] w (.tuple #[NV (eu m a).1,NV (eu m a).2.1,.bool (eu m a).2.2]):=by
 go_enter Tryz.func145,Tryz.ntmps145
 go_upto_region 1 with fail
 obtain⟨v0,hC,HB0,K0⟩:=bx4 w (LN m) 24 (LN a) 24 L0s 24 L0s 24
 rw[hC]
 clear hC
 refine Rd K0 HB0 [.no,.no,.all 3 (LN m)] [(2,7,L0s,some (4,LN a))] [(0,13,_),(1,14,_)] [(4,2)] [] [] (oc (g_ld 0 uN iN)<|oc (g_ld 1 uN iN)<|oc (g_al 0 aN)<|oc (g_st 2 iN)<|oc (g_sn 0 iN) on) fun u1 b1_2 HB1 _ K1=>?_
 simp only[sQ] at K1⊢
 go_upto_region 2 with fail
 refine Rp K1 HB1 [.no,.no,.no,.all 3 ([iU (0),iU (0),iU (0),iU (0)])] [(2,8,L0s,some (4,LN 1))] [(0,15,_),(1,16,_)] [(4,2)] [] [] (oc (g_bd zN)<|oc (g_cl Zl (fun uZ=>nOf 1 uZ (by omega) (by omega)))<|oc (g_al 0 aN)<|oc (g_st 3 iN)<|oc (g_sn 0 iN) on) fun u2 b2_2 HB2 _ K2=>?_
 simp only[sQ] at K2⊢
 go_wp2_with fail
 go_loopw [6] (fun s6 wr=> ∃(k:Nat) (d r f n:Int) (b:Bool),s6= .bool b/\r.toNat<=k/\EI m a d r f n b/\d<=m/\f<=m/\Hid (euF k d r f n b=eu m a)/\Bw w wr/\CV wr (w.heap.size+1+1) (LN d)/\CV wr (w.heap.size+1+1+1) (LN f)/\CV wr (b1_2) (LN r)/\CV wr (b2_2) (LN n)/\b1_2<wr.heap.size/\b2_2<wr.heap.size) (fun _ wr=>natAt wr (b1_2))
 case atStart=>exact⟨a.toNat,m,a,0,1,true,rfl,Nat.le_refl _,EI.start h0 h1,by omega,by have:=hm.1;omega,rfl,HB2,(K2.cv 2),by rw[LN_0];exact(K2.cv 3),(K2.cv 4),(K2.cv 5),(K2.lt 4),(K2.lt 5)⟩
 case round=>
  obtain⟨k,d,r,f,n,b,rfl,hk,hE,hdm,hfm,hg,HBr,Kd,Kf,Kr,Kn,lr,ln⟩:=hrel
  have id:In d:=In_le hm (by have:=hE.r0;have:=hE.rd;omega) hdm
  have ir:In r:=In_le hm hE.r0 (by have:=hE.rd;omega)
  have if':In f:=In_le hm hE.f0 hfm
  have inn:In n:=In_le hm hE.n0 hE.nm
  have hn:=K2.n
  simp at hn
  have ho4:=K2.lo 4
  have ho5:=K2.lo 5
  by_cases h2:r=0
  ·have hz:decide (r=0)=!false:=by simp[h2]
   have hgx:eu m a=(d,f,b):=by rw[<-hg.out,h2,euF_end]
   have Hg:Hid _:=hgx
   clear hgx hg h2
   have K2_1:Bk w.heap.size wr [(true,w.heap.size+1+1,LN d),(true,w.heap.size+1+1+1,LN f),(false,b1_2,LN r),(false,b2_2,LN n)]:=⟨.o (by omega) (K2.lo 2) Kd<| .o (by omega) (K2.lo 3) Kf<| .c lr Kr<| .c ln Kn<|trivial,by simp;omega⟩
   go_upto_region 4 with fail
   refine Rp K2_1 HBr [] [] (cG 0 17 [_,_,_] []) [] [] [true,true,false,false] (oc (g_ld 2 uN iN)<|oc (g_bd zN)<|oc (g_bn (neq_0 _ _ ir _ hz)) on) fun u3 HB3 sz3 K3=>?_
   simp only[sQ] at K3⊢
   go_upto_region 10 with fail
   refine Rd K3 HB3 [.all 3 (LN d),.all 4 (LN f)] [] (cG 0 41 [_,_,_] [(5,6,_)]) [(3,0),(4,1),(5,2)] [(5,6)] [] (oc (g_ld 0 uN iN)<|oc (g_ld 1 uN iN)<|oc g_mv<|oc (g_st 0 iN)<|oc (g_st 1 iN)<|oc g_as on) fun u4 HB4 sz4 K4=>?_
   simp only[sQ] at K4⊢
   have c4:=(K4.cv 0).n4
   have c5:=(K4.cv 1).n4
   go_wp2
   refine bodyPost_ret (v:= .tuple #[NV d,NV f,.bool b]) (by simp[results,Tryz.results145,go_sem,c4,c5]) rfl ⟨by rw[Hg.out],HB4⟩
  ·have hz:decide (r=0)=!true:=by simp[h2]
   have hs:=hE.step h2
   obtain⟨k',rfl⟩: ∃k',k=k'+1:=⟨k -1,by have:=hE.r0;omega⟩
   have hgx:Hid (euF k' r (d%r) n (f+d/r*n) (!b)=eu m a):=by rw[<-euF_step k' d r f n b h2];exact hg
   have i1:In (d%r):=Y1 ir h2
   have q0:0<=d/r*n:=Int.mul_nonneg (Int.ediv_nonneg id.1 ir.1) inn.1
   have i3:In (f+d/r*n):=In_le hm hs.n0 hs.nm
   have i2:In (d/r*n):=In_le hm q0 (by have:=hs.nm;have:=if'.1;omega)
   have i4:In (d/r):=In_div id ir h2
   have i5:f+d/r*n<0x10000000000000000000000000000000000000000000000000000000000000000:=i3.2
   have n0:Hid _:=natAt_of Kr ir
   clear hg
   have K2_1:Bk w.heap.size wr [(true,w.heap.size+1+1,LN d),(true,w.heap.size+1+1+1,LN f),(true,b1_2,LN r),(true,b2_2,LN n)]:=⟨.o (by omega) (K2.lo 2) Kd<| .o (by omega) (K2.lo 3) Kf<| .o lr (K2.lo 4) Kr<| .o ln (K2.lo 5) Kn<|trivial,by simp;omega⟩
   go_upto_region 4 with fail
   refine Rn K2_1 HBr (cG 0 17 [_,_,_] []) (oc (g_ld 2 uN iN)<|oc (g_bd zN)<|oc (g_bn (neq_0 _ _ ir _ hz)) on) fun u3 HB3 sz3 K3=>?_
   simp only[sQ] at K3⊢
   go_upto_region 5 with fail
   refine Rp K3 HB3 [] [(6,9,L0s,some (8,LN (d/r))),(7,10,L0s,some (9,LN (d%r)))] (cG 0 21 [_,_,_] [(3,20,_),(4,24,_),(5,25,_)]) [(8,6),(9,7)] [] [] (oc (g_ld 0 uN iN)<|oc (g_ld 2 uN iN)<|oc (g_cl Vp (fun uZ=>mdivide d r uZ id ir h2))<|oc g_mv<|oc g_ex<|oc g_ex<|oc (g_al 0 aN)<|oc (g_al 1 aN)<|oc (g_sn 0 iN)<|oc (g_sn 1 iN) on) fun u4 b4_6 b4_7 HB4 sz4 K4=>?_
   simp only[sQ] at K4⊢
   go_upto_region 6 with fail
   refine Rd K4 HB4 [.all 2 (LN r),.no,.all 3 (LN (d%r))] [] [(0,26,_),(1,27,_)] [(3,0)] [] [true,true,true,true,true,false] (oc (g_ld 2 uN iN)<|oc (g_ld 5 uN iN)<|oc (g_st 0 iN)<|oc (g_st 2 iN) on) fun u5 HB5 _ K5=>?_
   simp only[sQ] at K5⊢
   go_upto_region 7 with fail
   refine Rd K5 HB5 [] [(9,11,L0s,some (10,LN (f+d/r*n)))] (cG 0 29 [_,_,_,_,_,_] [(6,28,_),(7,35,_),(8,36,_),(11,12,_)]) [(10,9)] [] [true,true,true,true,false] (oc (g_ld 1 uN iN)<|oc (g_ld 4 uN iN)<|oc (g_ld 3 uN iN)<|oc (g_cl Xy (fun uZ=>nMul (d/r) n uZ i4 inn))<|oc (g_cl Wq (fun uZ=>mlowI (d/r*n) uZ i2))<|oc (g_cl V6 (fun uZ=>nAdd_lt f (d/r*n) uZ if' i2 i5))<|oc g_mv<|oc g_ex<|oc g_ex<|oc (g_al 0 aN)<|oc (g_sn 0 iN)<|oc g_as on) fun u6 b6_9 HB6 _ K6=>?_
   simp only[sQ] at K6⊢
   go_upto_region 8 with fail
   refine Rd K6 HB6 [.no,.all 2 (LN n),.no,.all 3 (LN (f+d/r*n))] [] [(0,37,_),(1,38,_)] [(3,0)] [] [true,true,true,true,false] (oc (g_ld 3 uN iN)<|oc (g_ld 4 uN iN)<|oc (g_st 1 iN)<|oc (g_st 3 iN) on) fun u7 HB7 _ K7=>?_
   simp only[sQ] at K7⊢
   go_upto_region 9 with fail
   refine Rp K7 HB7 [] [] [(0,39,_),(1,40,_),(2,6,_)] [(2,0)] [(2,6)] [] (oc g_mv<|oc (g_un (fun uZ=>rfl))<|oc g_as on) fun u8 HB8 _ K8=>?_
   simp only[sQ] at K8⊢
   go_wp2
   refine⟨⟨k',r,d%r,n,f+d/r*n,!b,rfl,by have:=hs.rd;have:=hs.r0;omega,hs,by have:=hE.rd;omega,hE.nm,hgx,HB8,(K8.cv 0),(K8.cv 1),(K8.cv 2),(K8.cv 3),(K8.lt 2),(K8.lt 3)⟩,?_⟩
   rw[natAt_of (K8.cv 2) i1,n0.out]
   have:=hs.rd;have:=hs.r0;omega
theorem NV_0:NV 0=A4 0 0 0 0:=Vh (by omega) (by omega)
theorem In_0:In 0:=⟨by omega,by omega⟩
theorem In_1:In 1:=⟨by omega,by omega⟩
theorem mSub0 (b m:Int) (w:World) (hb:In b) (hm:In m) (h:m≠0):CC 131 #[A4 0 0 0 0,NV b,NV m] w (.tuple #[NV ((0 -b)%m),iI 0]):=by
 rw[<-NV_0];exact mSub 0 b m w In_0 hb hm h
theorem mInverse_neg (a m x:Int) (w:World) (ha:In a) (hm:In m) (h:m≠0) (hg:gI m (a%m)=1) (hx:IsInv (a%m) m x) (hb:(eu m (a%m)).2.2=true):
 CC 130 #[NV a,NV m] w (.tuple #[NV x,iI 0]):=by
 have ia:In (a%m):=Y1 hm h
 have h0:0<=a%m:=ia.1
 have h1:a%m<m:=Int.emod_lt_of_pos a (by have:=hm.1;omega)
 obtain⟨e1,e2,e3,e4⟩:=eu_spec h0 h1
 have hE:=fun w=>meuclid m (a%m) w hm ia h0 h1
 have hx':=hx.uniq (eu_neg h0 h1 hg hb)
 rw[e1,hg,hb] at hE
 generalize (eu m (a%m)).2.1=f at *
 obtain⟨d,hd⟩: ∃d:Int,d=1:=⟨1,rfl⟩
 rw[<-hd] at hE
 have id:In d:=by rw[hd];exact In_1
 have if':In f:=In_le hm e2 e3
 have hz:decide (d=1)=!false:=by simp[hd]
 have hE':Hid _:=hE
 have Hx:Hid _:=hx'
 clear hE hx' e1 e4 hg hb hx hd
 go_enter Tryz.func130,Tryz.ntmps130
 go_upto_region 1 with fail
 obtain⟨v0,hC,HB0,K0⟩:=bx3 w (LN a) 24 (LN m) 24 L0s 24
 rw[hC]
 clear hC
 refine Rd K0 HB0 [.all 7 (LN (a%m))] [] (cG 0 11 [_,_,_,_] [(4,10,_),(5,15,_),(6,16,_),(8,6,_)]) [(7,0)] [] [] (oc (g_ld 0 uN iN)<|oc (g_cl Zg (fun uZ=>Wa a uZ ha))<|oc (g_ld 1 uN iN)<|oc (g_cl Zj (fun uZ=>Xf a m uZ ha.wide hm h))<|oc g_mv<|oc g_ex<|oc g_ex<|oc (g_st 0 iN)<|oc g_as on) fun u1 HB1 _ K1=>?_
 simp only[sQ] at K1⊢
 go_upto_region 4 with fail
 refine Rp K1 HB1 [] [(7,7,L0s,some (9,LN d)),(8,8,L0s,some (10,LN f))] (cG 0 22 [_,_,_] [(3,21,_),(4,25,_),(5,26,_),(6,27,_),(11,9,_)]) [(9,7),(10,8)] [] [false] (oc (g_ld 1 uN iN)<|oc (g_ld 0 uN iN)<|oc (g_cl Vo hE'.out)<|oc g_mv<|oc g_ex<|oc g_ex<|oc g_ex<|oc (g_al 0 aN)<|oc (g_al 1 aN)<|oc (g_sn 0 iN)<|oc (g_sn 1 iN)<|oc g_as on) fun u2 b2_7 b2_8 HB2 _ K2=>?_
 simp only[sQ] at K2⊢
 go_upto_region 5 with fail
 refine Rd K2 HB2 [] [] (cG 0 29 [_,_,_] [(3,28,_)]) [] [] [true,true,false] (oc (g_ld 2 uN iN)<|oc (g_cl Zl (fun uZ=>nOf 1 uZ (by omega) (by omega)))<|oc (g_bn (neq_n _ _ id In_1 _ hz))<|oc g_as on) fun u3 HB3 _ K3=>?_
 simp only[sQ] at K3⊢
 go_upto_region 7 with fail
 refine Rn K3 HB3 [(0,34,_),(1,33,_)] (oc g_mv<|oc g_as on) fun u4 HB4 _ K4=>?_
 simp only[sQ] at K4⊢
 go_upto_region 8 with fail
 refine Rp K4 HB4 [.no,.all 6 (LN ((0 -f)%m))] [] (cG 0 35 [_,_,_,_,_,_] [(7,5,_)]) [] [] [false,true,false] (oc (g_bd zN)<|oc (g_ld 2 uN iN)<|oc (g_ld 0 uN iN)<|oc (g_cl ent_mod_Sub (fun uZ=>mSub0 f m uZ if' hm h))<|oc g_ex<|oc g_ex<|oc (g_st 1 iN)<|oc g_as on) fun u5 HB5 _ K5=>?_
 simp only[sQ] at K5⊢
 have c4:=(K5.cv 0).n4
 go_wp2
 refine bodyPost_ret (v:= .tuple #[NV ((0 -f)%m),iI 0]) (by simp[results,Tryz.results130,go_sem,c4]) rfl ⟨by rw[Hx.out],HB5⟩
theorem mInverse_pos (a m x:Int) (w:World) (ha:In a) (hm:In m) (h:m≠0) (hg:gI m (a%m)=1) (hx:IsInv (a%m) m x) (hb:(eu m (a%m)).2.2=false):
 CC 130 #[NV a,NV m] w (.tuple #[NV x,iI 0]):=by
 have ia:In (a%m):=Y1 hm h
 have h0:0<=a%m:=ia.1
 have h1:a%m<m:=Int.emod_lt_of_pos a (by have:=hm.1;omega)
 obtain⟨e1,e2,e3,e4⟩:=eu_spec h0 h1
 have hE:=fun w=>meuclid m (a%m) w hm ia h0 h1
 have hx':=hx.uniq (eu_pos h0 h1 hg hb)
 rw[e1,hg,hb] at hE
 generalize (eu m (a%m)).2.1=f at *
 obtain⟨d,hd⟩: ∃d:Int,d=1:=⟨1,rfl⟩
 rw[<-hd] at hE
 have id:In d:=by rw[hd];exact In_1
 have if':In f:=In_le hm e2 e3
 have hz:decide (d=1)=!false:=by simp[hd]
 have hE':Hid _:=hE
 have Hx:Hid _:=hx'
 clear hE hx' e1 e4 hg hb hx hd
 go_enter Tryz.func130,Tryz.ntmps130
 go_upto_region 1 with fail
 obtain⟨v0,hC,HB0,K0⟩:=bx3 w (LN a) 24 (LN m) 24 L0s 24
 rw[hC]
 clear hC
 refine Rd K0 HB0 [.all 7 (LN (a%m))] [] (cG 0 11 [_,_,_,_] [(4,10,_),(5,15,_),(6,16,_),(8,6,_)]) [(7,0)] [] [] (oc (g_ld 0 uN iN)<|oc (g_cl Zg (fun uZ=>Wa a uZ ha))<|oc (g_ld 1 uN iN)<|oc (g_cl Zj (fun uZ=>Xf a m uZ ha.wide hm h))<|oc g_mv<|oc g_ex<|oc g_ex<|oc (g_st 0 iN)<|oc g_as on) fun u1 HB1 _ K1=>?_
 simp only[sQ] at K1⊢
 go_upto_region 4 with fail
 refine Rp K1 HB1 [] [(7,7,L0s,some (9,LN d)),(8,8,L0s,some (10,LN f))] (cG 0 22 [_,_,_] [(3,21,_),(4,25,_),(5,26,_),(6,27,_),(11,9,_)]) [(9,7),(10,8)] [] [false,false] (oc (g_ld 1 uN iN)<|oc (g_ld 0 uN iN)<|oc (g_cl Vo hE'.out)<|oc g_mv<|oc g_ex<|oc g_ex<|oc g_ex<|oc (g_al 0 aN)<|oc (g_al 1 aN)<|oc (g_sn 0 iN)<|oc (g_sn 1 iN)<|oc g_as on) fun u2 b2_7 b2_8 HB2 _ K2=>?_
 simp only[sQ] at K2⊢
 go_upto_region 5 with fail
 refine Rd K2 HB2 [] [] (cG 0 29 [_,_,_] [(3,28,_)]) [] [] [true,false] (oc (g_ld 1 uN iN)<|oc (g_cl Zl (fun uZ=>nOf 1 uZ (by omega) (by omega)))<|oc (g_bn (neq_n _ _ id In_1 _ hz))<|oc g_as on) fun u3 HB3 _ K3=>?_
 simp only[sQ] at K3⊢
 go_upto_region 7 with fail
 refine Rn K3 HB3 [(0,34,_),(1,33,_)] (oc g_mv<|oc g_as on) fun u4 HB4 _ K4=>?_
 simp only[sQ] at K4⊢
 go_upto_region 9 with fail
 refine Rp K4 HB4 [.all 1 (LN f)] [] [(0,41,_),(2,5,_)] [] [] [true,false] (oc (g_ld 1 uN iN)<|oc (g_st 0 iN)<|oc g_as on) fun u5 HB5 _ K5=>?_
 simp only[sQ] at K5⊢
 have c4:=(K5.cv 0).n4
 go_wp2
 refine bodyPost_ret (v:= .tuple #[NV f,iI 0]) (by simp[results,Tryz.results130,go_sem,c4]) rfl ⟨by rw[Hx.out],HB5⟩
theorem mInverse (a m x:Int) (w:World) (ha:In a) (hm:In m) (h:m≠0) (hg:gI m (a%m)=1) (hx:IsInv (a%m) m x):
 CC 130 #[NV a,NV m] w (.tuple #[NV x,iI 0]):=by
 cases hb:(eu m (a%m)).2.2
 ·exact mInverse_pos a m x w ha hm h hg hx hb
 ·exact mInverse_neg a m x w ha hm h hg hx hb
section
theorem mlift_any (a b c d:Int) (w:World):
 CC 128 #[A4 a b c d] w (A8 0 0 0 0 a b c d):=by
 have hcp:(Builtin.copy_ #[95,95] 3 #[.slice (some ⟨w.heap.size+1+1,4,none⟩) 4 4,.slice (some ⟨w.heap.size,0,none⟩) 4 4]).run Tryz.prog
  (((w.alloc (.cells #[iU a,iU b,iU c,iU d] 24)).alloc (.cells #[iU 0,iU 0,iU 0,iU 0,iU 0,iU 0,iU 0,iU 0] 73)).alloc (.cells #[iU 0,iU 0,iU 0,iU 0,iU 0,iU 0,iU 0,iU 0] 73)).drew=
  .ok (iI 4) (((w.alloc (.cells #[iU a,iU b,iU c,iU d] 24)).alloc (.cells #[iU 0,iU 0,iU 0,iU 0,iU 0,iU 0,iU 0,iU 0] 73)).alloc (.cells #[iU 0,iU 0,iU 0,iU 0,iU a,iU b,iU c,iU d] 73)).drew:=by
  rw[run_copy_cells _ 95 95 3 22 _ 4 4 4 _ 4 4 [iU a,iU b,iU c,iU d] Tryz.underlying95 (by kernel_rfl) rfl ?h1 ?h2 ?h3 ?h4]
  case h1=>
   intro j v hj
   match j,hj with
   | 0,hj=>simp at hj;subst hj;simp[Addr.add,go_sem]
   | 1,hj=>simp at hj;subst hj;simp[Addr.add,go_sem]
   | 2,hj=>simp at hj;subst hj;simp[Addr.add,go_sem]
   | 3,hj=>simp at hj;subst hj;simp[Addr.add,go_sem]
  case h2=>
   intro j hj
   have hj':j=0\/j=1\/j=2\/j=3:=by simp at hj;omega
   rcases hj' with rfl | rfl | rfl | rfl<;>simp[go_sem]
  case h3=>
   intro j hj
   have hj':j=0\/j=1\/j=2\/j=3:=by simp at hj;omega
   rcases hj' with rfl | rfl | rfl | rfl<;>simp[go_sem]
  case h4=>intro v hv;simp at hv;rcases hv with rfl | rfl | rfl | rfl<;>rfl
  simp[World.setCells,go_sem,goInt]
 go_enter Tryz.func128,Tryz.ntmps128
 go_wp2
 go_region
 go_wp2
 refine bodyPost_ret (v:=A8 0 0 0 0 a b c d) (by simp[results,Tryz.results128,go_sem]) rfl ⟨rfl,?_⟩
 go_grown
theorem nlift (n:Int) (w:World) (hn:In n):CC 128 #[NV n] w (WV (n*0x10000000000000000000000000000000000000000000000000000000000000000)):=by
 have e:WV (n*0x10000000000000000000000000000000000000000000000000000000000000000)=A8 0 0 0 0 (D0 n) (D1 n) (D2 n) (D3 n):=
  WV_of (n*0x10000000000000000000000000000000000000000000000000000000000000000) 0 0 0 0 (D0 n) (D1 n) (D2 n) (D3 n) W_0 W_0 W_0 W_0 (W_D0 n) (W_D1 n) (W_D2 n) (W_D3 n) (by rw[V_In hn];simp[V])
 rw[e];exact mlift_any _ _ _ _ w
theorem InW_lift {n:Int} (h:In n):InW (n*0x10000000000000000000000000000000000000000000000000000000000000000):=⟨by have:=h.1;omega,by have:=h.2;omega⟩
section
variable {P:Program} {o:Oper} {a:Act} {w:World} {K:Act->World->Prop} {Q:Exit->Act->World->Prop}
end
theorem bd_odd (m0 m1 m2 m3 c:Int) (w:World):(Instr.build 159 [(0,A4 m0 m1 m2 m3),(1,iU c)].toArray).run Tryz.prog w= .ok (.agg #[iU m0,iU m1,iU m2,iU m3,iU c]) w:=by kernel_rfl
theorem Uz (w:World):(Instr.alloc 159 true (.tuple #[])).run Tryz.prog w= .ok (.pointer (some ⟨w.heap.size,0,none⟩)) (w.alloc (.cells L05.toArray 159)):=by kernel_rfl
theorem Vx:(Tryz.prog.info? 159).map (·.size)=some 5:=by kernel_rfl
theorem ent_prod:EnT 129:=fun _ _=>by kernel_rfl
theorem minv_B (n:Int) (w:World) (hn:W64 n):CC 127 #[iU n] w (iU (mi n)):=by
 refine(minv n w hn).mono ?_
 rintro e w' ⟨rfl,rfl⟩
 exact⟨rfl,Below.refl _ _⟩
def pk (a m:Int) (k:Nat):Int:=a^k*0x10000000000000000000000000000000000000000000000000000000000000000%m
theorem pk_In {a m:Int} (hm:In m) (h:m≠0) (k:Nat):In (pk a m k):=Y1 hm h
theorem pk_mg (a m:Int) (hm:0<m) (i j:Nat):IsMg (pk a m i) (pk a m j) m (pk a m (i+j)):=by
 have n0:m≠0:=by omega
 refine⟨Int.emod_nonneg _ n0,Int.emod_lt_of_pos _ hm,?_⟩
 unfold pk
 have e1:=Int.mul_ediv_add_emod (a^i*0x10000000000000000000000000000000000000000000000000000000000000000) m
 have e2:=Int.mul_ediv_add_emod (a^j*0x10000000000000000000000000000000000000000000000000000000000000000) m
 have e3:=Int.mul_ediv_add_emod (a^(i+j)*0x10000000000000000000000000000000000000000000000000000000000000000) m
 rw[Int.pow_add] at e3⊢
 generalize a^i=x at *
 generalize a^j=y at *
 generalize x*0x10000000000000000000000000000000000000000000000000000000000000000/m=q1 at *
 generalize x*0x10000000000000000000000000000000000000000000000000000000000000000%m=r1 at *
 generalize y*0x10000000000000000000000000000000000000000000000000000000000000000/m=q2 at *
 generalize y*0x10000000000000000000000000000000000000000000000000000000000000000%m=r2 at *
 generalize x*y*0x10000000000000000000000000000000000000000000000000000000000000000/m=q3 at *
 generalize x*y*0x10000000000000000000000000000000000000000000000000000000000000000%m=r3 at *
 have h1:r1=x*0x10000000000000000000000000000000000000000000000000000000000000000 -m*q1:=by omega
 have h2:r2=y*0x10000000000000000000000000000000000000000000000000000000000000000 -m*q2:=by omega
 have h3:r3=x*y*0x10000000000000000000000000000000000000000000000000000000000000000 -m*q3:=by omega
 refine⟨x*0x10000000000000000000000000000000000000000000000000000000000000000*q2+y*0x10000000000000000000000000000000000000000000000000000000000000000*q1 -m*q1*q2 -0x10000000000000000000000000000000000000000000000000000000000000000*q3,?_⟩
 rw[h1,h2,h3];grind
theorem pk_end (a m:Int) (hm:0<m) (k:Nat):IsMg (pk a m k) 1 m (a^k%m):=by
 have n0:m≠0:=by omega
 refine⟨Int.emod_nonneg _ n0,Int.emod_lt_of_pos _ hm,?_⟩
 unfold pk
 have e1:=Int.mul_ediv_add_emod (a^k*0x10000000000000000000000000000000000000000000000000000000000000000) m
 have e2:=Int.mul_ediv_add_emod (a^k) m
 generalize a^k=x at *
 generalize x*0x10000000000000000000000000000000000000000000000000000000000000000/m=q1 at *
 generalize x*0x10000000000000000000000000000000000000000000000000000000000000000%m=r1 at *
 generalize x/m=q2 at *
 generalize x%m=r2 at *
 refine⟨q1 -0x10000000000000000000000000000000000000000000000000000000000000000*q2,?_⟩
 have h1:r1=x*0x10000000000000000000000000000000000000000000000000000000000000000 -m*q1:=by omega
 have h2:r2=x -m*q2:=by omega
 rw[h1,h2];grind
theorem pk_0 (a m:Int):pk a m 0=1*0x10000000000000000000000000000000000000000000000000000000000000000%m:=by unfold pk;rw[Int.pow_zero]
theorem pk_1 (a m:Int):pk a m 1=a*0x10000000000000000000000000000000000000000000000000000000000000000%m:=by unfold pk;rw[Int.pow_succ,Int.pow_zero,Int.one_mul]
theorem mpow (a e m:Int) (w:World) (ha:In a) (he:In e) (hm:In m) (h:m≠0) (hodd:m%2=1):
 CC 108 #[NV a,NV e,NV m] w (NV (a^e.toNat%m)):=by
 have hm0:0<m:=by have:=hm.1;omega
 have hd0:D0 m%2=1:=by unfold D0;omega
 go_enter Tryz.func108,Tryz.ntmps108
 go_upto_region 1 with fail
 obtain⟨v0,hC,HB0,K0⟩:=bx4 w (LN a) 24 (LN e) 24 (LN m) 24 L0s 24
 rw[hC]
 clear hC
 refine Rd K0 HB0 [] [(5,7,L05,some (6,LM (m) (mi (D0 (m)))))] (cG 0 13 [_,_,_,_,_] []) [(6,5)] [] [] (oc (g_ld 2 uN iN)<|oc (g_ix (jN 0))<|oc (g_lc 2 0 lU)<|oc (g_cl Vj (fun uZ=>minv_B (D0 (m)) uZ (W_D0 m)))<|oc (g_bd (bd_odd _ _ _ _ _))<|oc (g_al 0 Uz)<|oc (g_sn 0 Vx) on) fun u1 b1_5 HB1 _ K1=>?_
 simp only[sQ] at K1⊢
 go_upto_region 2 with fail
 refine Rd K1 HB1 [] [(7,8,L0s,some (8,LN (1*0x10000000000000000000000000000000000000000000000000000000000000000%m)))] (cG 0 19 [_,_,_,_] [(4,18,_),(5,23,_),(6,24,_),(9,9,_)]) [(8,7)] [] [] (oc (g_cl Zl (fun uZ=>nOf 1 uZ (by omega) (by omega)))<|oc (g_cl Vn (fun uZ=>nlift 1 uZ In_1))<|oc (g_ld 2 uN iN)<|oc (g_cl Zj (fun uZ=>Xf (1*0x10000000000000000000000000000000000000000000000000000000000000000) m uZ (InW_lift In_1) hm h))<|oc g_mv<|oc g_ex<|oc g_ex<|oc (g_al 0 aN)<|oc (g_sn 0 iN)<|oc g_as on) fun u2 b2_7 HB2 _ K2=>?_
 simp only[sQ] at K2⊢
 go_upto_region 3 with fail
 refine Rd K2 HB2 [] [(7,10,L0s,some (8,LN (a*0x10000000000000000000000000000000000000000000000000000000000000000%m)))] (cG 0 26 [_,_,_,_] [(4,25,_),(5,30,_),(6,31,_),(9,11,_)]) [(8,7)] [] [false,true,false] (oc (g_ld 0 uN iN)<|oc (g_cl Vn (fun uZ=>nlift a uZ ha))<|oc (g_ld 2 uN iN)<|oc (g_cl Zj (fun uZ=>Xf (a*0x10000000000000000000000000000000000000000000000000000000000000000) m uZ (InW_lift ha) hm h))<|oc g_mv<|oc g_ex<|oc g_ex<|oc (g_al 0 aN)<|oc (g_sn 0 iN)<|oc g_as on) fun u3 b3_7 HB3 _ K3=>?_
 simp only[sQ] at K3⊢
 have Kq0:CV u3 b2_7 (LN (pk a m 0)):=by rw[pk_0];exact(K3.cv 3)
 have Kq1:CV u3 b3_7 (LN (pk a m 1)):=by rw[pk_1];exact(K3.cv 4)
 have hT:Hid (∀(i j:Nat) (u:World),CV u b1_5 (LM m (mi (D0 (m))))->b1_5<u.heap.size->Calls Tryz.prog 129 ([Value.pointer (some ⟨b1_5,0,none⟩)]++[NV (pk a m i),NV (pk a m j)]).toArray u fun en u'=>en= .returned (NV (pk a m (i+j)))/\Bw u u'):=
  fun i j u hK hl=>mprod b1_5 (pk a m i) (pk a m j) m (mi (D0 (m))) (pk a m (i+j)) u (pk_In hm h i) (pk_In hm h j) hm (Int.emod_lt_of_pos _ hm0) hodd (W_mi _) (mi_spec _ hd0) (pk_mg a m hm0 i j) hK hl
 have K3_1:Bk w.heap.size u3 [(false,w.heap.size+1,LN e),(true,w.heap.size+1+1+1,L0s),(false,b1_5,LM (m) (mi (D0 (m)))),(false,b2_7,LN (pk a m 0)),(false,b3_7,LN (pk a m 1))]:=⟨.c (K3.lt 0) (K3.cv 0)<| .o (K3.lt 1) (K3.lo 1) (K3.cv 1)<| .c (K3.lt 2) (K3.cv 2)<| .c (K3.lt 3) Kq0<| .c (K3.lt 4) Kq1<|trivial,K3.n⟩
 go_upto_region 4 with fail
 refine Rp K3_1 HB3 [] [(5,12,L0s,some (6,LN (pk a m e.toNat)))] (cG 0 32 [_,_,_,_,_] []) [(6,5)] [] [false,true,true,false,false] (oc (g_ld 4 uN iN)<|oc (g_ld 0 uN iN)<|oc (g_ld 3 uN iN)<|oc (g_mk (fun _=>by kernel_rfl))<|oc (g_ck Ue (fun fZ uZ kZ sZ=>mraise 129 [.pointer (some ⟨b1_5,0,none⟩)] (pk a m) e b1_5 (LM m (mi (D0 (m)))) uZ ent_prod hT he (kZ.cv 2) (kZ.lb sZ 2)))<|oc (g_al 0 aN)<|oc (g_sn 0 iN) on) fun u4 b4_5 HB4 _ K4=>?_
 simp only[sQ] at K4⊢
 go_upto_region 5 with fail
 refine Rd K4 HB4 [.all 3 (LN (a^e.toNat%m))] [] (cG 0 37 [_,_,_] []) [] [] [true,false,false] (oc (g_ld 2 uN iN)<|oc (g_cl Zl (fun uZ=>nOf 1 uZ (by omega) (by omega)))<|oc (g_ck Xg (fun fZ uZ kZ sZ=>mprod b1_5 (pk a m e.toNat) 1 m (mi (D0 (m))) (a^e.toNat%m) uZ (pk_In hm h _) In_1 hm (Int.emod_lt_of_pos _ hm0) hodd (W_mi _) (mi_spec _ hd0) (pk_end a m hm0 _) (kZ.cv 1) (kZ.lb sZ 1)))<|oc (g_st 0 iN) on) fun u5 HB5 _ K5=>?_
 simp only[sQ] at K5⊢
 have c6:=(K5.cv 0).n4
 go_wp2
 refine bodyPost_ret (v:=NV (a^e.toNat%m)) (by simp[results,Tryz.results108,go_sem,c6]) rfl ⟨rfl,HB5⟩
end
end
end Go.Proofs.YtofcppgfaelloaaGreatDoor
