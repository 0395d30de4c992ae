import Derived.Test.YtmoimodkopjeeaaGreatDoorCTD
import Derived.Test.YtmoimodkopjeeaaGreatDoorAF0
namespace Go.Proofs.YtmoimodkopjeeaaGreatDoor
set_option linter.unusedVariables false
set_option linter.unusedSimpArgs false
set_option maxRecDepth 100000
set_option maxHeartbeats 4000000
section
theorem Xl(n m:Int)(k:Nat):(n%m)^k%m=n^k%m:=by
 induction k with
 | zero=>rw[Int.pow_zero,Int.pow_zero]
 | succ k ih=>rw[Int.pow_succ,Int.pow_succ,Int.mul_emod,ih,Int.emod_emod,<-Int.mul_emod]
theorem mul_powG(a b:Int)(k:Nat):(a*b)^k=a^k*b^k:=by
 induction k with
 | zero=>rw[Int.pow_zero,Int.pow_zero,Int.pow_zero,Int.one_mul]
 | succ k ih=>rw[Int.pow_succ,Int.pow_succ,Int.pow_succ,ih];grind
def gOk(p q:Int):Prop:=p=2*q+1/\7<=p
def Mb(p q x:Int):Prop:=0<x/\x<p/\x^q.toNat%p=1
instance (p q:Int):Decidable (gOk p q):=by unfold gOk;infer_instance
instance (p q x:Int):Decidable (Mb p q x):=by unfold Mb;infer_instance
theorem gOk.q3{p q:Int}(h:gOk p q):3<=q:=by have:=h.1;have:=h.2;omega
theorem pow_red{x p:Int}{Q:Nat}(h1:1<p)(h:x^Q%p=1)(n:Nat):x^n%p=x^(n%Q)%p:=by
 have e:x^n=(x^Q)^(n/Q)*x^(n%Q):=by rw[<-Int.pow_mul,<-Int.pow_add,Nat.div_add_mod]
 rw[e,Int.mul_emod,<-Xl,h,Int.one_pow,<-Int.mul_emod,Int.one_mul]
theorem Vi{p:Int}(h:1<p):(1:Int)%p=1:=Int.emod_eq_of_lt (by omega) h
theorem Mb.nz{p q x:Int}(hg:gOk p q)(h:x^q.toNat%p=1):x%p≠0:=fun e=>by
 have h3:=hg.q3
 have h2:(x%p)^q.toNat%p=1:=by rw[Xl];exact h
 obtain⟨k,hk⟩: ∃k,q.toNat=k+1:=⟨q.toNat -1,by omega⟩
 rw[e,hk,Int.pow_succ,Int.mul_zero,Int.zero_emod] at h2
 cases h2
theorem Mb.of{p q x:Int}(hg:gOk p q)(h:x^q.toNat%p=1):Mb p q (x%p):=by
 have h7:=hg.2
 have h1:=Int.emod_nonneg x (show p≠0 by omega)
 have h2:=Int.emod_lt_of_pos x (show 0<p by omega)
 have h3:=Mb.nz hg h
 exact⟨by omega,h2,by rw[Xl];exact h⟩
theorem Mb.mul{p q x y:Int}(hg:gOk p q)(hx:Mb p q x)(hy:Mb p q y):Mb p q (x*y%p):=by
 refine Mb.of hg ?_
 rw[mul_powG,Int.mul_emod,hx.2.2,hy.2.2,Int.one_mul]
 exact Vi (by have:=hg.2;omega)
theorem Mb.pow{p q x:Int}(hg:gOk p q)(hx:Mb p q x)(n:Nat):Mb p q (x^n%p):=by
 refine Mb.of hg ?_
 rw[<-Int.pow_mul,Nat.mul_comm,Int.pow_mul,<-Xl,hx.2.2,Int.one_pow]
 exact Vi (by have:=hg.2;omega)
def invN(p q x:Int):Int:=x^(q.toNat -1)%p
theorem Mb.inv{p q x:Int}(hg:gOk p q)(hx:Mb p q x):IsInv (x%p) p (invN p q x):=by
 have h7:=hg.2
 have h3:=hg.q3
 have hxx:x%p=x:=Int.emod_eq_of_lt (by have:=hx.1;omega) hx.2.1
 refine⟨Int.emod_nonneg _ (by omega),Int.emod_lt_of_pos _ (by omega),?_⟩
 rw[hxx]
 have e:invN p q x*x%p=1:=by
  unfold invN
  rw[Int.mul_emod,Int.emod_emod,<-Int.mul_emod,<-Int.pow_succ,show (q.toNat -1).succ=q.toNat by omega];exact hx.2.2
 have:=Int.emod_add_mul_ediv (invN p q x*x) p
 rw[e] at this
 exact⟨invN p q x*x/p,by omega⟩
theorem IsInv.gcd{a m x:Int}(h:IsInv a m x)(ha:0<=a)(hm:0<m):gI m a=1:=by
 obtain⟨c,hc⟩:=h.2.2
 have h0:=h.1
 have hd1:((Nat.gcd m.toNat a.toNat:Nat):Int)∣m:=by
  have:=Int.ofNat_dvd.2 (Nat.gcd_dvd_left m.toNat a.toNat)
  rwa [Int.toNat_of_nonneg (by omega)] at this
 have hd2:((Nat.gcd m.toNat a.toNat:Nat):Int)∣a:=by
  have:=Int.ofNat_dvd.2 (Nat.gcd_dvd_right m.toNat a.toNat)
  rwa [Int.toNat_of_nonneg ha] at this
 have hd:((Nat.gcd m.toNat a.toNat:Nat):Int)∣1:=by
  have e:(1:Int)=x*a -m*c:=by omega
  rw[e]
  exact Int.dvd_sub (Int.dvd_mul_of_dvd_right hd2) (Int.dvd_mul_of_dvd_left hd1)
 unfold gI
 have:=Int.le_of_dvd (by decide) hd
 have hp:0<Nat.gcd m.toNat a.toNat:=Nat.gcd_pos_of_pos_left _ (by omega)
 omega
end
section
open Go.RowKit
theorem W0:EnT 37:=fun _ _=>by kernel_rfl
theorem In_7:In 7:=⟨by omega,by omega⟩
def chE(p q:Int):Int:=if gOk p q then 0 else 90
theorem xchk_o(p q g h:Int)(w:World)(hp:In p)(hq:In q)(i2:In (q+q -0x10000000000000000000000000000000000000000000000000000000000000000))(h2:0x10000000000000000000000000000000000000000000000000000000000000000<=q+q):
 CC 37 #[GX p q g h] w (iI 90):=by
 go_enter Tryz.func37,Tryz.ntmps37
 go_upto_region 1 with fail
 obtain⟨v0,hC,HB0,K0⟩:=bx1 w (GE p q g h) 26
 rw[hC]
 clear hC
 refine Rp K0 HB0 [] [(8,3,L0s,some (9,LN (q+q -0x10000000000000000000000000000000000000000000000000000000000000000)))] (cG 0 8 [_,_,_,_,_] [(5,7,_),(6,13,_),(7,14,_),(10,4,_)]) [(9,8)] [] [false] (oc (g_fd (fdG1 _))<|oc (g_lo 0 4 uN iN)<|oc (g_fd (fdG1 _))<|oc (g_lo 0 4 uN iN)<|oc (g_cl Z2 (fun uZ=>nrAdd_ge q q uZ hq hq h2))<|oc g_mv<|oc g_ex<|oc g_ex<|oc (g_al 0 aN)<|oc (g_sn 0 iN)<|oc g_as on) fun u1 b1_8 HB1 _ K1=>?_
 simp only[sQ] at K1⊢
 go_upto_region 2 with fail
 refine Rp K1 HB1 [] [(6,5,L0s,some (7,LN (q+q -0x10000000000000000000000000000000000000000000000000000000000000000+1)))] (cG 0 16 [_,_,_] [(3,15,_),(4,19,_),(5,20,_),(8,6,_)]) [(7,6)] [] [false,false] (oc (g_ld 0 uN iN)<|oc (g_bd (fun uZ=>bdX 1 (by omega) (by omega) uZ))<|oc (g_cl Z2 (fun uZ=>nrAdd (q+q -0x10000000000000000000000000000000000000000000000000000000000000000) 1 uZ i2 In_1))<|oc g_mv<|oc g_ex<|oc g_ex<|oc (g_al 0 aN)<|oc (g_sn 0 iN)<|oc g_as on) fun u2 b2_6 HB2 _ K2=>?_
 simp only[sQ] at K2⊢
 go_upto_region 3 with fail
 refine Rn K2 HB2 (cG 0 21 [_,_,undef,_,_,undef,undef,undef,undef,_,_,undef,undef,undef,undef,undef,_,_,undef,undef,undef,undef,undef,_] []) (oc g_mv<|oc g_mv<|oc g_sk<|oc g_pk<|oc g_mv<|oc g_sk<|oc g_sk<|oc g_sk<|oc g_sk<|oc g_pk<|oc g_mv<|oc g_sk<|oc g_sk<|oc g_sk<|oc g_sk<|oc g_sk<|oc g_pk<|oc g_mv<|oc g_sk<|oc g_sk<|oc g_sk<|oc g_sk<|oc g_sk<|oc g_pk on) fun u3 HB3 _ K3=>?_
 simp only[sQ] at K3⊢
 go_upto_region 4 with fail
 refine Rn K3 HB3 [(0,2,_)] (oc g_as on) fun u4 HB4 _ K4=>?_
 simp only[sQ] at K4⊢
 go_wp2
 refine bodyPost_ret (v:=iI 90) (by simp[results,Tryz.results37,go_sem,]) rfl ⟨rfl,HB4⟩
theorem xchk_n(p q g h:Int)(w:World)(hp:In p)(hq:In q)(i2:In (q+q))(i3:In (q+q+1))(d0:0<=D0 p)(d1:D0 p<18446744073709551616)(h2:q+q<0x10000000000000000000000000000000000000000000000000000000000000000)(h3:q+q+1<0x10000000000000000000000000000000000000000000000000000000000000000)(h4:decide (q+q+1=p)=!true):
 CC 37 #[GX p q g h] w (iI 90):=by
 go_enter Tryz.func37,Tryz.ntmps37
 go_upto_region 1 with fail
 obtain⟨v0,hC,HB0,K0⟩:=bx1 w (GE p q g h) 26
 rw[hC]
 clear hC
 refine Rp K0 HB0 [] [(8,3,L0s,some (9,LN (q+q)))] (cG 0 8 [_,_,_,_,_] [(5,7,_),(6,13,_),(7,14,_),(10,4,_)]) [(9,8)] [] [] (oc (g_fd (fdG1 _))<|oc (g_lo 0 4 uN iN)<|oc (g_fd (fdG1 _))<|oc (g_lo 0 4 uN iN)<|oc (g_cl Z2 (fun uZ=>W9 q q uZ hq hq h2))<|oc g_mv<|oc g_ex<|oc g_ex<|oc (g_al 0 aN)<|oc (g_sn 0 iN)<|oc g_as on) fun u1 b1_8 HB1 _ K1=>?_
 simp only[sQ] at K1⊢
 go_upto_region 2 with fail
 refine Rp K1 HB1 [] [(6,5,L0s,some (7,LN (q+q+1)))] (cG 0 16 [_,_,_] [(3,15,_),(4,19,_),(5,20,_),(8,6,_)]) [(7,6)] [] [true,false] (oc (g_ld 1 uN iN)<|oc (g_bd (fun uZ=>bdX 1 (by omega) (by omega) uZ))<|oc (g_cl Z2 (fun uZ=>W9 (q+q) 1 uZ i2 In_1 h3))<|oc g_mv<|oc g_ex<|oc g_ex<|oc (g_al 0 aN)<|oc (g_sn 0 iN)<|oc g_as on) fun u2 b2_6 HB2 _ K2=>?_
 simp only[sQ] at K2⊢
 go_upto_region 3 with fail
 refine Rp K2 HB2 [] [] (cG 0 21 [_,_,_,_,_,_,_,_,_,_,_,undef,undef,undef,undef,undef,_,_,undef,undef,undef,undef,undef,_] []) [] [] [false,false] (oc g_mv<|oc g_mv<|oc g_mv<|oc g_pk<|oc g_mv<|oc (g_ld 1 uN iN)<|oc (g_fd (fdG0 _))<|oc (g_lo 0 0 uN iN)<|oc (g_bn (Vx _ _ i3 hp _ h4))<|oc g_pk<|oc g_mv<|oc g_sk<|oc g_sk<|oc g_sk<|oc g_sk<|oc g_sk<|oc g_pk<|oc g_mv<|oc g_sk<|oc g_sk<|oc g_sk<|oc g_sk<|oc g_sk<|oc g_pk on) fun u3 HB3 _ K3=>?_
 simp only[sQ] at K3⊢
 go_upto_region 4 with fail
 refine Rn K3 HB3 [(0,2,_)] (oc g_as on) fun u4 HB4 _ K4=>?_
 simp only[sQ] at K4⊢
 go_wp2
 refine bodyPost_ret (v:=iI 90) (by simp[results,Tryz.results37,go_sem,]) rfl ⟨rfl,HB4⟩
theorem xchk_7(p q g h:Int)(w:World)(hp:In p)(hq:In q)(i2:In (q+q))(i3:In (q+q+1))(d0:0<=D0 p)(d1:D0 p<18446744073709551616)(h2:q+q<0x10000000000000000000000000000000000000000000000000000000000000000)(h3:q+q+1<0x10000000000000000000000000000000000000000000000000000000000000000)(h4:decide (q+q+1=p)=!false)(h5:decide (cmpI p 7<0)=true):
 CC 37 #[GX p q g h] w (iI 90):=by
 go_enter Tryz.func37,Tryz.ntmps37
 go_upto_region 1 with fail
 obtain⟨v0,hC,HB0,K0⟩:=bx1 w (GE p q g h) 26
 rw[hC]
 clear hC
 refine Rp K0 HB0 [] [(8,3,L0s,some (9,LN (q+q)))] (cG 0 8 [_,_,_,_,_] [(5,7,_),(6,13,_),(7,14,_),(10,4,_)]) [(9,8)] [] [] (oc (g_fd (fdG1 _))<|oc (g_lo 0 4 uN iN)<|oc (g_fd (fdG1 _))<|oc (g_lo 0 4 uN iN)<|oc (g_cl Z2 (fun uZ=>W9 q q uZ hq hq h2))<|oc g_mv<|oc g_ex<|oc g_ex<|oc (g_al 0 aN)<|oc (g_sn 0 iN)<|oc g_as on) fun u1 b1_8 HB1 _ K1=>?_
 simp only[sQ] at K1⊢
 go_upto_region 2 with fail
 refine Rp K1 HB1 [] [(6,5,L0s,some (7,LN (q+q+1)))] (cG 0 16 [_,_,_] [(3,15,_),(4,19,_),(5,20,_),(8,6,_)]) [(7,6)] [] [true,false] (oc (g_ld 1 uN iN)<|oc (g_bd (fun uZ=>bdX 1 (by omega) (by omega) uZ))<|oc (g_cl Z2 (fun uZ=>W9 (q+q) 1 uZ i2 In_1 h3))<|oc g_mv<|oc g_ex<|oc g_ex<|oc (g_al 0 aN)<|oc (g_sn 0 iN)<|oc g_as on) fun u2 b2_6 HB2 _ K2=>?_
 simp only[sQ] at K2⊢
 go_upto_region 3 with fail
 refine Rp K2 HB2 [] [] (cG 0 21 [_,_,_,_,_,_,_,_,_,_,_,_,_,_,_,_,_,_,undef,undef,undef,undef,undef,_] []) [] [] [false,false] (oc g_mv<|oc g_mv<|oc g_mv<|oc g_pk<|oc g_mv<|oc (g_ld 1 uN iN)<|oc (g_fd (fdG0 _))<|oc (g_lo 0 0 uN iN)<|oc (g_bn (Vx _ _ i3 hp _ h4))<|oc g_pk<|oc g_mv<|oc (g_fd (fdG0 _))<|oc (g_lo 0 0 uN iN)<|oc (g_bd (fun uZ=>bdX 7 (by omega) (by omega) uZ))<|oc (g_cl Zn (fun uZ=>nrCompare p 7 uZ hp In_7))<|oc (g_bn (fun uZ=>Z6 _ _ (cmpI p 7) 0 _ uZ h5))<|oc g_pk<|oc g_mv<|oc g_sk<|oc g_sk<|oc g_sk<|oc g_sk<|oc g_sk<|oc g_pk on) fun u3 HB3 _ K3=>?_
 simp only[sQ] at K3⊢
 go_upto_region 4 with fail
 refine Rn K3 HB3 [(0,2,_)] (oc g_as on) fun u4 HB4 _ K4=>?_
 simp only[sQ] at K4⊢
 go_wp2
 refine bodyPost_ret (v:=iI 90) (by simp[results,Tryz.results37,go_sem,]) rfl ⟨rfl,HB4⟩
theorem xchk_k(p q g h:Int)(w:World)(hp:In p)(hq:In q)(i2:In (q+q))(i3:In (q+q+1))(d0:0<=D0 p)(d1:D0 p<18446744073709551616)(h2:q+q<0x10000000000000000000000000000000000000000000000000000000000000000)(h3:q+q+1<0x10000000000000000000000000000000000000000000000000000000000000000)(h4:decide (q+q+1=p)=!false)(h5:decide (cmpI p 7<0)=false)(h6:(D0 p%2==0)=false):
 CC 37 #[GX p q g h] w (iI 0):=by
 go_enter Tryz.func37,Tryz.ntmps37
 go_upto_region 1 with fail
 obtain⟨v0,hC,HB0,K0⟩:=bx1 w (GE p q g h) 26
 rw[hC]
 clear hC
 refine Rp K0 HB0 [] [(8,3,L0s,some (9,LN (q+q)))] (cG 0 8 [_,_,_,_,_] [(5,7,_),(6,13,_),(7,14,_),(10,4,_)]) [(9,8)] [] [] (oc (g_fd (fdG1 _))<|oc (g_lo 0 4 uN iN)<|oc (g_fd (fdG1 _))<|oc (g_lo 0 4 uN iN)<|oc (g_cl Z2 (fun uZ=>W9 q q uZ hq hq h2))<|oc g_mv<|oc g_ex<|oc g_ex<|oc (g_al 0 aN)<|oc (g_sn 0 iN)<|oc g_as on) fun u1 b1_8 HB1 _ K1=>?_
 simp only[sQ] at K1⊢
 go_upto_region 2 with fail
 refine Rp K1 HB1 [] [(6,5,L0s,some (7,LN (q+q+1)))] (cG 0 16 [_,_,_] [(3,15,_),(4,19,_),(5,20,_),(8,6,_)]) [(7,6)] [] [true,false] (oc (g_ld 1 uN iN)<|oc (g_bd (fun uZ=>bdX 1 (by omega) (by omega) uZ))<|oc (g_cl Z2 (fun uZ=>W9 (q+q) 1 uZ i2 In_1 h3))<|oc g_mv<|oc g_ex<|oc g_ex<|oc (g_al 0 aN)<|oc (g_sn 0 iN)<|oc g_as on) fun u2 b2_6 HB2 _ K2=>?_
 simp only[sQ] at K2⊢
 go_upto_region 3 with fail
 refine Rp K2 HB2 [] [] (cG 0 21 [_,_,_,_,_,_,_,_,_,_,_,_,_,_,_,_,_,_,_,_,_,_,_,_] []) [] [] [false,false] (oc g_mv<|oc g_mv<|oc g_mv<|oc g_pk<|oc g_mv<|oc (g_ld 1 uN iN)<|oc (g_fd (fdG0 _))<|oc (g_lo 0 0 uN iN)<|oc (g_bn (Vx _ _ i3 hp _ h4))<|oc g_pk<|oc g_mv<|oc (g_fd (fdG0 _))<|oc (g_lo 0 0 uN iN)<|oc (g_bd (fun uZ=>bdX 7 (by omega) (by omega) uZ))<|oc (g_cl Zn (fun uZ=>nrCompare p 7 uZ hp In_7))<|oc (g_bn (fun uZ=>Z6 _ _ (cmpI p 7) 0 _ uZ h5))<|oc g_pk<|oc g_mv<|oc (g_fd (fdG0 _))<|oc (g_ix (jN 0))<|oc (g_lc 0 0 lU)<|oc (g_bn (fun uZ=>rem_u _ _ (D0 p) 2 (D0 p%2) uZ d0 d1 (by omega) rfl))<|oc (g_bn (fun uZ=>eql_u _ _ _ (D0 p%2) 0 _ uZ h6))<|oc g_pk on) fun u3 HB3 _ K3=>?_
 simp only[sQ] at K3⊢
 go_upto_region 5 with fail
 refine Rn K3 HB3 [(0,2,_)] (oc g_as on) fun u4 HB4 _ K4=>?_
 simp only[sQ] at K4⊢
 go_wp2
 refine bodyPost_ret (v:=iI 0) (by simp[results,Tryz.results37,go_sem,]) rfl ⟨rfl,HB4⟩
theorem xCheckG(p q g h:Int)(w:World)(hp:In p)(hq:In q):CC 37 #[GX p q g h] w (iI (chE p q)):=by
 have hq0:=hq.1
 have hq1:=hq.2
 have hp1:=hp.2
 have e90: ¬(p=2*q+1/\7<=p)->chE p q=90:=fun h=>if_neg h
 have e0:(p=2*q+1/\7<=p)->chE p q=0:=fun h=>if_pos h
 by_cases h2:0x10000000000000000000000000000000000000000000000000000000000000000<=q+q
 ·rw[e90 (by omega)]
  exact xchk_o p q g h w hp hq ⟨by omega,by omega⟩ h2
 have hd:0<=D0 p/\D0 p<18446744073709551616:=by unfold D0;omega
 have i2:In (q+q):=⟨by omega,by omega⟩
 have i3:In (q+q+1):=⟨by omega,by omega⟩
 by_cases h4:q+q+1=p
 ·have h4':decide (q+q+1=p)=!false:=by simp[h4]
  by_cases h7:p<7
  ·rw[e90 (by omega)]
   exact xchk_7 p q g h w hp hq i2 i3 hd.1 hd.2 (by omega) (by omega) h4' (by rw[cmp_lt0];simp only[h7,decide_true])
  ·rw[e0 (by omega)]
   exact xchk_k p q g h w hp hq i2 i3 hd.1 hd.2 (by omega) (by omega) h4' (by rw[cmp_lt0];simp only[h7,decide_false]) (by rw[D0_odd];simp;omega)
 ·rw[e90 (by omega)]
  exact xchk_n p q g h w hp hq i2 i3 hd.1 hd.2 (by omega) (by omega) (by simp[h4])
def isB(p q x:Int):Bool:=decide (gOk p q/\Mb p q x)
def exPE(p q x:Int):Int:=if isB p q x then 0 else 90
def exPX(p q x e:Int):Int:=if isB p q x then x^(e%q).toNat%p else 0
theorem Ug{p q x:Int}(h:isB p q x=true):gOk p q/\Mb p q x:=of_decide_eq_true h
def coE(p q g h:Int):Int:=if isB p q g&&isB p q h then 0 else 90
def coX(p q g h s t:Int):Int:=if isB p q g&&isB p q h then g^(s%q).toNat%p*(h^(t%q).toNat%p)%p else 0
theorem lI{b c:Nat}{v:Int}(w:World)(h:w.cell? ⟨b,c,none⟩=some (iI v)):(Instr.loadAt 3 (.pointer (some ⟨b,c,none⟩))).run Tryz.prog w= .ok (iI v) w:=by go_simp
abbrev SE(n s t:Int):List Value:=[iI n,iU (D0 s),iU (D1 s),iU (D2 s),iU (D3 s),iU (D0 t),iU (D1 t),iU (D2 t),iU (D3 t)]
abbrev SX(n s t:Int):Value:= .agg #[iI n,iU (D0 s),iU (D1 s),iU (D2 s),iU (D3 s),iU (D0 t),iU (D1 t),iU (D2 t),iU (D3 t)]
abbrev L0h:List Value:=[iI 0,iU 0,iU 0,iU 0,iU 0,iU 0,iU 0,iU 0,iU 0]
abbrev DE(d:Int)(v:Value):List Value:=[iI d,v]
abbrev DX(d:Int)(v:Value):Value:= .agg #[iI d,v]
abbrev L0d:List Value:=[iI 0,.slice none 0 0]
def ndB(n:Int):Bool:=decide (1<=n/\n<=16)
def shB(n m:Nat):Bool:=decide (n=m/\1<=n/\n<=6)
theorem fdD0(b:Nat)(w:World):(Instr.fieldAt 30 (.pointer (some ⟨b,0,none⟩)) 0).run Tryz.prog w= .ok (.pointer (some ⟨b,0,none⟩)) w:=by go_simp
theorem fdD1(b:Nat)(w:World):(Instr.fieldAt 30 (.pointer (some ⟨b,0,none⟩)) 1).run Tryz.prog w= .ok (.pointer (some ⟨b,1,none⟩)) w:=by go_simp
theorem Zp:(Tryz.prog.info? 30).map (·.size)=some 2:=by kernel_rfl
theorem Zb:(Tryz.prog.info? 35).map (·.size)=some 9:=by kernel_rfl
theorem X7(w:World):(Instr.alloc 35 true (.tuple #[])).run Tryz.prog w= .ok (.pointer (some ⟨w.heap.size,0,none⟩)) (w.alloc (.cells L0h.toArray 35)):=by kernel_rfl
theorem xnode_0(n:Int)(w:World)(h:decide (1<=n)=false):
 CC 38 #[iI n] w (.bool false):=by
 go_enter Tryz.func38,Tryz.ntmps38
 have HB0:Bw w w:=Below.refl _ _
 have K0_1:=Bk.nil (w.heap.size) w
 go_upto_region 1 with fail
 refine Rn K0_1 HB0 (cG 0 3 [_,_,_,undef,undef,_] [(6,2,_)]) (oc g_mv<|oc (g_bn (fun uZ=>Wv _ _ n 1 _ uZ h))<|oc g_mv<|oc g_sk<|oc g_sk<|oc g_pk<|oc g_as on) fun u1 HB1 _ K1=>?_
 simp only[sQ] at K1⊢
 go_wp2
 refine bodyPost_ret (v:= .bool false) (by simp[results,Tryz.results38,go_sem,]) rfl ⟨rfl,HB1⟩
theorem xnode_1(n:Int)(b:Bool)(w:World)(h:decide (1<=n)=true)(h2:decide (n<=16)=b):
 CC 38 #[iI n] w (.bool b):=by
 go_enter Tryz.func38,Tryz.ntmps38
 have HB0:Bw w w:=Below.refl _ _
 have K0_1:=Bk.nil (w.heap.size) w
 go_upto_region 1 with fail
 refine Rn K0_1 HB0 (cG 0 3 [_,_,_,_,_,_] [(6,2,_)]) (oc g_mv<|oc (g_bn (fun uZ=>Wv _ _ n 1 _ uZ h))<|oc g_mv<|oc g_mv<|oc (g_bn (fun uZ=>leq_p _ _ n 16 _ uZ h2))<|oc g_pk<|oc g_as on) fun u1 HB1 _ K1=>?_
 simp only[sQ] at K1⊢
 go_wp2
 refine bodyPost_ret (v:= .bool b) (by simp[results,Tryz.results38,go_sem,]) rfl ⟨rfl,HB1⟩
theorem xNode(n:Int)(w:World):CC 38 #[iI n] w (.bool (ndB n)):=by
 by_cases h:1<=n
 ·rw[show ndB n=decide (n<=16) by simp[ndB,h]]
  exact xnode_1 n _ w (decide_eq_true h) rfl
 ·rw[show ndB n=false by simp[ndB,h]]
  exact xnode_0 n w (decide_eq_false h)
def noB(ns:List Int):Bool:=decide (0<ns.length/\ns.getD 0 0=1)
theorem Yo:EnT 38:=fun _ _=>by kernel_rfl
theorem ent_K1:EnT 37:=fun _ _=>by kernel_rfl
def dcE(p q d:Int)(ns:List Int):Int:=if gOk p q then (if ndB d&&decide (1<=ns.length/\ns.length<=6)&&ns.all (isB p q) then 0 else 110) else 90
theorem all_get{ns:List Int}{f:Int->Bool}:ns.all f=true↔ ∀k,k<ns.length->f (ns.getD k 0)=true:=by
 rw[List.all_eq_true]
 constructor
 ·exact fun h k hk=>h _ (by simp[List.getElem?_eq_getElem hk])
 ·intro h x hx
  obtain⟨k,hk,rfl⟩:=List.mem_iff_getElem.1 hx
  have:=h k hk
  simpa [List.getElem?_eq_getElem hk] using this
abbrev SZ:Value:= .agg L0h.toArray
theorem zSh(w:World):(Instr.build 35 [].toArray).run Tryz.prog w= .ok SZ w:=by kernel_rfl
theorem bdSh(n s t:Int)(w:World):(Instr.build 35 [(0,iI n),(1,NV s),(2,NV t)].toArray).run Tryz.prog w= .ok (SX n s t) w:=by kernel_rfl
theorem fdS0(b:Nat)(w:World):(Instr.fieldAt 35 (.pointer (some ⟨b,0,none⟩)) 0).run Tryz.prog w= .ok (.pointer (some ⟨b,0,none⟩)) w:=by go_simp
theorem fdS1(b:Nat)(w:World):(Instr.fieldAt 35 (.pointer (some ⟨b,0,none⟩)) 1).run Tryz.prog w= .ok (.pointer (some ⟨b,1,none⟩)) w:=by go_simp
theorem fdS2(b:Nat)(w:World):(Instr.fieldAt 35 (.pointer (some ⟨b,0,none⟩)) 2).run Tryz.prog w= .ok (.pointer (some ⟨b,5,none⟩)) w:=by go_simp
def shO(p q nd:Int)(ss ts:List Int):Int:=if gOk p q then (if shB ss.length ts.length then (if ndB nd then 0 else 2) else 110) else 90
def shV(p q nd:Int)(ss ts:List Int):Value:=if shO p q nd ss ts=0 then SX nd (hoN q nd ss ss.length) (hoN q nd ts ts.length) else SZ
theorem ndB_iff{n:Int}:ndB n=true↔1<=n/\n<=16:=decide_eq_true_iff
theorem shB_iff{n m:Nat}:shB n m=true↔n=m/\1<=n/\n<=6:=decide_eq_true_iff
def atO(p q nd:Int)(ns:List Int):Nat->Int
 | 0=>1
 | k+1=>(atO p q nd ns k*(ns.getD k 0^(pwN q nd k).toNat%p))%p
theorem atO_In{p q nd:Int}{ns:List Int}(hp:In p)(hp0:p≠0): ∀k,In (atO p q nd ns k)
 | 0=>In_1
 | k+1=>Zi hp hp0
def atE(p q d nd:Int)(ns:List Int):Int:=if dcE p q d ns=0 then (if ndB nd then 0 else 2) else dcE p q d ns
def atX(p q d nd:Int)(ns:List Int):Int:=if atE p q d nd ns=0 then atO p q nd ns ns.length else 0
theorem dcE_0{p q d:Int}{ns:List Int}(h:dcE p q d ns=0):gOk p q/\ndB d=true/\1<=ns.length/\ns.length<=6/\ns.all (isB p q)=true:=by
 unfold dcE at h
 by_cases c:gOk p q
 ·rw[if_pos c] at h
  split at h
  ·rename_i h2
   simp only[Bool.and_eq_true,decide_eq_true_eq] at h2
   exact⟨c,h2.1.1,h2.1.2.1,h2.1.2.2,h2.2⟩
  ·omega
 ·rw[if_neg c] at h;omega
def veE(p q g h d nd s t:Int)(ns:List Int):Int:=if atE p q d nd ns=0 then (if coE p q g h=0 then (if coX p q g h s t=atX p q d nd ns then 0 else 100) else 90) else atE p q d nd ns
end
section
open Go.RowKit Go.Extern.Stop Go.Stop Go.Extern Go.Extern.Rtype
inductive EW (n:Int):Value->Prop
 | leaf:EW n (.iface 31 (iI n))
 | wrap (s:ByteArray) (k:Value):EW n k->EW n (.iface 125 (.agg #[.string s,k]))
theorem EW.some{n:Int}{v:Value}(h:EW n v): ∃T x,v= .iface T x:=by
 cases h with
 | leaf=>exact⟨_,_,rfl⟩
 | wrap s k _=>exact⟨_,_,rfl⟩
theorem cUnFG(s:ByteArray)(k:Value)(w:World)(hk: ∃T x,k= .iface T x):CC 200 #[.agg #[.string s,k]] w k:=by
 obtain⟨T,x,rfl⟩:=hk
 go_enter Tryz.func200,Tryz.ntmps200
 go_wp2
 exact bodyPost_ret (v:= .iface T x) (by simp[results,Tryz.results200,go_sem]) rfl ⟨rfl,Z1 (Z5 w) _⟩
theorem Tryz.noIsEG(v:Value)(xT:TypeId)(w:World):(Instr.typeAssert (.iface 31 v) xT 188 true).run Tryz.prog w= .ok (.tuple #[.nilIface,.bool false]) w:=run_typeAssert_lacksB Tryz.underlying188 (by kernel_rfl) (by kernel_rfl) v xT w
theorem Tryz.noIsFG(v:Value)(xT:TypeId)(w:World):(Instr.typeAssert (.iface 125 v) xT 188 true).run Tryz.prog w= .ok (.tuple #[.nilIface,.bool false]) w:=run_typeAssert_lacksB Tryz.underlying188 (by kernel_rfl) (by kernel_rfl) v xT w
theorem Tryz.noUnEG(v:Value)(xT:TypeId)(w:World):(Instr.typeAssert (.iface 31 v) xT 191 true).run Tryz.prog w= .ok (.tuple #[.nilIface,.bool false]) w:=run_typeAssert_lacksB Tryz.underlying191 (by kernel_rfl) (by kernel_rfl) v xT w
theorem Tryz.noUsEG(v:Value)(xT:TypeId)(w:World):(Instr.typeAssert (.iface 31 v) xT 193 true).run Tryz.prog w= .ok (.tuple #[.nilIface,.bool false]) w:=run_typeAssert_lacksB Tryz.underlying193 (by kernel_rfl) (by kernel_rfl) v xT w
theorem Tryz.unFG(v:Value)(xT:TypeId)(w:World):(Instr.typeAssert (.iface 125 v) xT 191 true).run Tryz.prog w= .ok (.tuple #[.iface 125 v,.bool true]) w:=run_typeAssert_hasB Tryz.underlying191 (by kernel_rfl) v xT w
theorem infoEG:(Tryz.prog.info? 31).map (·.comparable)=some true:=by kernel_rfl
theorem eqlEG(a b:Int)(w:World):(binOp .eql 90 (.iface 31 (iI a)) (.iface 31 (iI b))).run Tryz.prog w= .ok (.bool (a==b)) w:=by
 obtain⟨i,hi,hc⟩:=Option.map_eq_some_iff.1 infoEG
 have h1:=run_underlying (w:=w) Tryz.underlying90
 have h2:=run_underlying (w:=w) Tryz.underlying31
 have h3: ∀d,(Op.equalIn (d+2) 90 (.iface 31 (iI a)) (.iface 31 (iI b))).run Tryz.prog w= .ok (a==b) w:=fun d=>by
  simp[Op.equalIn,h1,h2,typeInfo,hi,hc]
 simp only[binOp]
 simp[Op.equal,Op.maxDepth,h3 9998]
theorem cIs0G(t n:Int)(w:World)(v:Value)(h:EW n v)(r:Bool)(er:(n==t)=r):
 CC 116 #[v,.iface 31 (iI t),.bool true] w (.bool r):=by
 have nE:=Tryz.noIsEG
 have nF:=Tryz.noIsFG
 have uE:=Tryz.noUnEG
 have sE:=Tryz.noUsEG
 have uF:=Tryz.unFG
 have qE:=fun(a:Int) (u:World)=>eqlEG a t u
 have qF:=fun(x:Value) (u:World)=>run_eql_iface_types (P:=Tryz.prog) 125 31 x (iI t) Tryz.underlying90 (by decide) u
 go_enter Tryz.func116,Tryz.ntmps116
 go_wp2_with fail
 go_loopw [0] (fun s0 wr=>EW n s0/\Bw w wr) (fun s0 _=>SizeOf.sizeOf s0)
 case atStart=>exact⟨h,Below.refl _ _⟩
 case round=>
  obtain⟨hv,HBr⟩:=hrel
  cases hv with
  | leaf=>
   cases r with
   | true=>
    go_wp2
    exact bodyPost_ret (v:= .bool true) (by simp[results,Tryz.results116,go_sem]) rfl ⟨rfl,HBr⟩
   | false=>
    go_wp2
    exact bodyPost_ret (v:= .bool false) (by simp[results,Tryz.results116,go_sem]) rfl ⟨rfl,HBr⟩
  | wrap s k hk=>
   obtain⟨T,x,rfl⟩:=hk.some
   have hU:=cUnFG s (.iface T x) wr ⟨_,_,rfl⟩
   have hk:Hid _:=hk
   go_wp2_with (go_at_call 200;refine hU.mono ?_;clear hU;rintro e ua ⟨rfl,hBa⟩)
   refine⟨⟨hk.out,Zg HBr hBa⟩,?_⟩
   simp;omega
theorem Tryz.isTypeOfG(v:Value)(w:World):(Extern.ReflectliteType.typeOf #[.iface 31 v]).run Tryz.prog w= .ok (.iface 186 (.agg #[.pointer (some ⟨6,31,none⟩)])) w:=by kernel_rfl
def cmpXG:Array Value->Sem Value:=Extern.ReflectliteType.method fun t=>do noPackHeld "Comparable" t;pure (.bool (<-typeInfo t).comparable)
theorem Tryz.isComparableG(w:World):(cmpXG #[.agg #[.pointer (some ⟨6,31,none⟩)]]).run Tryz.prog w= .ok (.bool true) w:=by kernel_rfl
theorem cIsN(t:Int)(w:World):CC 88 #[.nilIface,.iface 31 (iI t)] w (.bool false):=by
 have hn:=run_eql_iface_nil_left (P:=Tryz.prog) w 31 (iI t) Tryz.underlying90
 go_enter Tryz.func88,Tryz.ntmps88
 go_wp2
 exact bodyPost_ret (v:= .bool false) (by simp[results,Tryz.results88,go_sem]) rfl ⟨rfl,Below.refl _ _⟩
theorem cIsGq(t n:Int)(w:World)(v:Value)(h:EW n v)(r:Bool)(er:(n==t)=r):CC 88 #[v,.iface 31 (iI t)] w (.bool r):=by
 have h8:= @run_callFunc_extern Tryz.prog 115 _ Extern.ReflectliteType.typeOf Tryz.func115 (by kernel_rfl) (by kernel_rfl) (by kernel_rfl) (by kernel_rfl)
 have h32:= @run_callFunc_extern Tryz.prog 210 _ cmpXG Tryz.func210 (by kernel_rfl) (by kernel_rfl) (by kernel_rfl) (by kernel_rfl)
 have tT:=Tryz.isTypeOfG
 have cT:=Tryz.isComparableG
 have hI:=cIs0G t n w v h r er
 obtain⟨T,x,rfl⟩:=h.some
 go_enter Tryz.func88,Tryz.ntmps88
 go_wp2_with (go_at_call 116;refine hI.mono ?_;clear hI;rintro e ub ⟨rfl,hBb⟩)
 exact bodyPost_ret (v:= .bool r) (by simp[results,Tryz.results88,go_sem]) rfl ⟨rfl,hBb⟩
theorem ixE0(u:World):(Instr.index 128 (.agg #[iI 2,iI 90]) (iI 0)).run Tryz.prog u= .ok (iI 2) u:=by kernel_rfl
theorem ixE1(u:World):(Instr.index 128 (.agg #[iI 2,iI 90]) (iI 1)).run Tryz.prog u= .ok (iI 90) u:=by kernel_rfl
theorem gTold_core(v:Value)(f2 f9:Bool)(m:Int)(w:World)(hv:v= .nilIface\/ ∃T x,v= .iface T x)(hm:m=if f2 then 2 else if f9 then 90 else 0)
 (hI:Hid (∀u,CC 88 #[v,.iface 31 (iI 2)] u (.bool f2)))
 (hJ:Hid (∀u,CC 88 #[v,.iface 31 (iI 90)] u (.bool f9))):
 CC 62 #[v] w (iI m):=by
 have hm:Hid _:=hm
 have u3:=Tryz.underlying31
 have a3:=Tryz.isAgg31
 have z3:=Tryz.sizeOf31
 have x0:=fun u:World=>ixE0 u
 have x1:=fun u:World=>ixE1 u
 rcases hv with rfl | ⟨T,x,rfl⟩
 all_goals
  go_enter Tryz.func62,Tryz.ntmps62
  go_wp2_with fail
  go_loopw [6] (fun s6 wr=>(s6=iI 0\/(s6=iI 1/\f2=false)\/(s6=iI 2/\f2=false/\f9=false))/\Bw w wr) (fun s6 _=>2 -(intOf s6).toNat)
  case atStart=>exact⟨.inl rfl,Below.refl _ _⟩
  case round=>
   obtain⟨h,HBr⟩:=hrel
   rcases h with rfl | ⟨rfl,hf⟩ | ⟨rfl,hf,hg⟩
   ·have hI:=hI.out wr
    cases f2 with
    | true=>
     go_wp2_with (go_at_call 88;refine hI.mono ?_;clear hI;rintro e ua ⟨rfl,hBa⟩)
     have hm2:=hm.out
     simp at hm2
     subst hm2
     exact bodyPost_ret (v:=iI 2) (by simp[results,Tryz.results62,go_sem]) rfl ⟨rfl,Zg HBr hBa⟩
    | false=>
     go_wp2_with (go_at_call 88;refine hI.mono ?_;clear hI;rintro e ua ⟨rfl,hBa⟩)
     exact⟨⟨.inr (.inl ⟨by simp,by simp⟩),Zg HBr hBa⟩,by simp[intOf]⟩
   ·subst hf
    have hJ:=hJ.out wr
    cases f9 with
    | true=>
     go_wp2_with (go_at_call 88;refine hJ.mono ?_;clear hJ;rintro e ua ⟨rfl,hBa⟩)
     have hm2:=hm.out
     simp at hm2
     subst hm2
     exact bodyPost_ret (v:=iI 90) (by simp[results,Tryz.results62,go_sem]) rfl ⟨rfl,Zg HBr hBa⟩
    | false=>
     go_wp2_with (go_at_call 88;refine hJ.mono ?_;clear hJ;rintro e ua ⟨rfl,hBa⟩)
     exact⟨⟨.inr (.inr ⟨by simp,by simp,by simp⟩),Zg HBr hBa⟩,by simp[intOf]⟩
   ·subst hf hg
    go_wp2
    have hm2:=hm.out
    simp at hm2
    subst hm2
    exact bodyPost_ret (v:=iI 0) (by simp[results,Tryz.results62,go_sem]) rfl ⟨rfl,HBr⟩
theorem gToldN(w:World):CC 62 #[.nilIface] w (iI 0):=
 gTold_core _ false false 0 w (.inl rfl) rfl (fun u=>cIsN 2 u) (fun u=>cIsN 90 u)
theorem gTold9(v:Value)(w:World)(h:EW 90 v):CC 62 #[v] w (iI 90):=
 gTold_core _ false true 90 w (.inr h.some) rfl (fun u=>cIsGq 2 90 u v h _ rfl) (fun u=>cIsGq 90 90 u v h _ rfl)
end
section
open Go.RowKit
def mlB(p q:Int)(ns:List Int):Bool:=decide (gOk p q)&&ns.all (isB p q)
def mlE(p q:Int)(ns:List Int):Int:=if mlB p q ns then 0 else 90
def mlX(p q:Int)(ns:List Int):Int:=if mlB p q ns then gat (fun a b=>(a*b)%p) (1%p) ns ns.length else 0
section
def txG(n:Int):ByteArray:=strOfNums (txl (D0 n) (D1 n) (D2 n) (D3 n) (nd (D0 n) (D1 n) (D2 n) (D3 n)))
theorem nTextG(n:Int)(w:World):CC 104 #[NV n] w (.string (txG n)):=Text_any _ _ _ _ w (W_D0 n) (W_D1 n) (W_D2 n) (W_D3 n)
theorem tx_szG(n:Int):(txG n).size<=64:=by
 unfold txG
 rw[strOfNums_size]
 unfold txl
 rw[List.length_map,List.length_range]
 have:=blen_bd _ _ _ _ (W_D0 n) (W_D1 n) (W_D2 n) (W_D3 n)
 unfold nd
 split<;>omega
structure GT(w:World):Prop where
 sz:1<w.heap.size
 tab:Lib.TabIs Tryz.prog w "internal/strconv.uint64pow10" .u64 Lib.pow10Tab
theorem gPowG:Tryz.prog.globalNamed "internal/strconv.uint64pow10" =some 1:=by kernel_rfl
theorem GT.below{w u:World}(h:GT w)(hB:Bw w u):GT u where
 sz:=Nat.lt_of_lt_of_le h.sz hB.size
 tab:=Go.Joins.tab_stays gPowG h.tab hB (Nat.le_refl _)
theorem below_growG(w:World)(k:Nat)(os:Array Obj):Bw w (Go.Sort.grow (w.drewN k) os):=by
 have h1:(w.drewN k).heap=w.heap:=rfl
 exact⟨rfl,rfl,rfl,by simp[Go.Sort.grow,h1],fun i hi=>by simp[Go.Sort.grow,h1,Array.getElem?_append_left hi]⟩
def iaG(n:Int):ByteArray:=⟨(Lib.itoa n).toArray⟩
theorem ia_szG(n:Int)(h0: -9223372036854775808<=n)(h1:n<=9223372036854775807):(iaG n).size<=21:=by
 have:=Lib.itoa_length_le n h0 h1
 simpa [iaG,ByteArray.size] using this
theorem cItoaG(n:Int)(w:World)(h0: -9223372036854775808<=n)(h1:n<=9223372036854775807)(hG:GT w):CC 87 #[iI n] w (.string (iaG n)):=by
 refine(Tryz.strconv_Itoa n h0 h1 w hG.tab).mono ?_
 rintro e u ⟨rfl,k,os,rfl⟩
 exact⟨rfl,below_growG w k os⟩
section
variable {R:Rg} {P:Program} {Q:Exit->Act->World->Prop} {ops:Array Oper} {i:Nat} {o:Oper}
theorem U0{T:TypeId}{x:Operand}{vx v:Value}(hr: ∀w,(Instr.makeInterface T vx).run P w= .ok v w)(hop:o.op= .makeInterface T x:=by rfl)(hx:evR R i o x=some vx:=by rfl)(hv:some v=Zv i R.G:=by rfl)(hc:R.chk ops i o=true:=by rfl):OG R P ops Q i o:=
 g_op (fun ev u he=>by
  unfold execOp;rw[hop];simp only[he _ _ hx]
  rw[Sem.run_bind,hr,Result.andThen_ok,Sem.run_pure]) hv hc
end
theorem miEG(n:Int)(w:World):(Instr.makeInterface 31 (iI n)).run Tryz.prog w= .ok (.iface 31 (iI n)) w:=by kernel_rfl
theorem miFG(s:ByteArray)(T:TypeId)(x:Value)(w:World):(Instr.makeInterface 125 (.agg #[.string s,.iface T x])).run Tryz.prog w= .ok (.iface 125 (.agg #[.string s,.iface T x])) w:=by kernel_rfl
theorem bdFlG(s:ByteArray)(T:TypeId)(x:Value)(w:World):(Instr.build 125 [(0,.string s),(1,.iface T x)].toArray).run Tryz.prog w= .ok (.agg #[.string s,.iface T x]) w:=by kernel_rfl
theorem add_stG(p q:Operand)(s t:ByteArray)(w:World)(h:s.size+t.size<=1000):(do eqGuard .add 9 p q (.string s) (.string t);binOp .add 9 (.string s) (.string t):Sem Value).run Tryz.prog w= .ok (.string (s++t)) w:=by
 have h2: ¬9223372036854775807<s.size+t.size:=by omega
 go_simp
theorem neq_noG(p:Operand)(c:Value)(w:World):(do eqGuard .neq 90 p (.const c) .nilIface .nilIface;binOp .neq 90 .nilIface .nilIface:Sem Value).run Tryz.prog w= .ok (.bool false) w:=by go_simp
theorem neq_erG(p q:Operand)(T:TypeId)(x:Value)(w:World):(do eqGuard .neq 90 p q (.iface T x) .nilIface;binOp .neq 90 (.iface T x) .nilIface:Sem Value).run Tryz.prog w= .ok (.bool true) w:=by go_simp
theorem lss_z(p q:Operand)(x y:Int)(b:Bool)(w:World)(h:decide (x<y)=b):(do eqGuard .lss 3 p q (iI x) (iI y);binOp .lss 3 (iI x) (iI y):Sem Value).run Tryz.prog w= .ok (.bool b) w:=by
 subst h;go_simp
theorem geq_y(p q:Operand)(x y:Int)(b:Bool)(w:World)(h:decide (y<=x)=b):(do eqGuard .geq 3 p q (iI x) (iI y);binOp .geq 3 (iI x) (iI y):Sem Value).run Tryz.prog w= .ok (.bool b) w:=by
 subst h;go_simp
theorem neq_w8(p q:Operand)(a b c d e f g h a' b' c' d' e' f' g' h':Int)(w:World):(do eqGuard .neq 86 p q (A8 a b c d e f g h) (A8 a' b' c' d' e' f' g' h');binOp .neq 86 (A8 a b c d e f g h) (A8 a' b' c' d' e' f' g' h'):Sem Value).run Tryz.prog w= .ok (.bool (!eq8 a b c d e f g h a' b' c' d' e' f' g' h')) w:=by
 go_simp
theorem neq_ww(p q:Operand){n m:Int}(hn:In n)(hm:In m)(b:Bool)(hb:decide (n=m)=!b)(w:World):(do eqGuard .neq 86 p q (WV n) (WV m);binOp .neq 86 (WV n) (WV m):Sem Value).run Tryz.prog w= .ok (.bool b) w:=by
 have e1:D4 n=0:=by unfold D4;exact Int.ediv_eq_zero_of_lt hn.1 hn.2
 have e2:D4 m=0:=by unfold D4;exact Int.ediv_eq_zero_of_lt hm.1 hm.2
 have e3:eq8 (D0 n) (D1 n) (D2 n) (D3 n) (D0 0) (D1 0) (D2 0) (D3 0) (D0 m) (D1 m) (D2 m) (D3 m) (D0 0) (D1 0) (D2 0) (D3 0)=!b:=by
  rw[<-hb,<-eq4_N hn hm];simp[eq8,eq4]
 rw[neq_w8,e1,e2,e3,Bool.not_not]
theorem Yz:EnT 104:=fun _ _=>by kernel_rfl
theorem Uh:EnT 87:=fun _ _=>by kernel_rfl
theorem Wg:EnT 75:=fun _ _=>by kernel_rfl
theorem Ve:EnT 86:=fun _ _=>by kernel_rfl
theorem Y4:EnT 61:=fun _ _=>by kernel_rfl
theorem Xq:EnT 62:=fun _ _=>by kernel_rfl
def sP1:ByteArray:=⟨#[80,32,105,115,32,111,110,108,121,32]⟩
def sX1:ByteArray:=⟨#[32,105,115,32,110,111,116,32,102,114,111,109,32,49,32,116,111,32,80,32,45,32,49]⟩
def sX2:ByteArray:=⟨#[32,116,111,32,116,104,101,32,81,32,105,115,32,110,111,116,32,49]⟩
def sM2:ByteArray:=⟨#[110,117,109,98,101,114,32]⟩
def grV(p q:Int):Value:=if p<7 then .iface 125 (.agg #[.string (sP1++txG p),(.iface 31 (iI 90))]) else if p%2=0 then .iface 125 (.agg #[.string ⟨#[80,32,105,115,32,101,118,101,110]⟩,(.iface 31 (iI 90))]) else if p/2=q then .nilIface else .iface 125 (.agg #[.string ⟨#[80,32,105,115,32,110,111,116,32,50,32,81,32,97,110,100,32,49]⟩,(.iface 31 (iI 90))])
def mbV(p q x:Int):Value:=if x=0\/p<=x then .iface 125 (.agg #[.string (txG x++sX1),(.iface 31 (iI 90))]) else if x^q.toNat%p=1 then .nilIface else .iface 125 (.agg #[.string (txG x++sX2),(.iface 31 (iI 90))])
theorem group_0(p q g h c:Int)(re:Value)(w:World)(hp:In p)(hq:In q)(i2:In 2)(iq:In (p/2))(hC:Hid (∀u,CC 103 #[NV p,NV 7] u (iI c)))(im:In (p%2))(hR:Hid (re=if decide (c<0) then .iface 125 (.agg #[.string (sP1++txG p),(.iface 31 (iI 90))]) else if decide (p%2=0) then .iface 125 (.agg #[.string ⟨#[80,32,105,115,32,101,118,101,110]⟩,(.iface 31 (iI 90))]) else if decide (p/2=q) then .nilIface else .iface 125 (.agg #[.string ⟨#[80,32,105,115,32,110,111,116,32,50,32,81,32,97,110,100,32,49]⟩,(.iface 31 (iI 90))]))):CC 75 #[GX p q g h] w re:=by
 go_enter Tryz.func75,Tryz.ntmps75
 go_upto_region 1 with fail
 obtain⟨v0,hC,HB0,K0⟩:=bx1 w (GE p q g h) 26
 rw[hC]
 clear hC
 go_upto_region 1 with fail
 refine Rp K0 HB0 [] [(9,3,L0w,some (11,LW (p/2))),(10,4,L0s,some (12,LN (p%2)))] (cG 0 7 [_,_,_,_,_] [(5,6,_),(6,12,_),(7,13,_),(8,14,_),(13,5,_)]) [(11,9),(12,10)] [] [] (oc (g_fd (fdG0 _))<|oc (g_lo 0 0 uN iN)<|oc (g_cl Z9 (fun uZ=>Xi p uZ hp))<|oc (g_cl Z7 (fun uZ=>nOf 2 uZ (by decide) (by decide)))<|oc (g_cl Wy (fun uZ=>nDivide p 2 uZ hp.wide i2 (by decide)))<|oc g_mv<|oc g_ex<|oc g_ex<|oc g_ex<|oc (g_al 0 aW)<|oc (g_al 1 aN)<|oc (g_sn 0 iW)<|oc (g_sn 1 iN)<|oc g_as on) fun u1 b1_9 b1_10 HB1 _ K1=>?_
 simp only[sQ] at K1⊢
 cases hc:decide (c<0)
 ·skip
  go_upto_region 2 with fail
  refine Rm K1 HB1 (cG 0 16 [_,_,_,_,_] [(5,15,_)]) (oc (g_fd (fdG0 _))<|oc (g_lo 0 0 uN iN)<|oc (g_cl Z7 (fun uZ=>nOf 7 uZ (by decide) (by decide)))<|oc (g_cl Zu hC.out)<|oc (g_bn (fun uZ=>lss_z _ _ _ _ _ uZ hc))<|oc g_as on) fun u2 HB2 sz2 K2=>?_
  simp only[sQ] at K2⊢
  cases h2:decide (p%2=0)
  ·skip
   go_upto_region 4 with fail
   refine Rp K2 HB2 [] [] (cG 0 29 [_,_,_] [(3,28,_)]) [] [] [true,true,false] (oc (g_ld 2 uN iN)<|oc (g_bd zN)<|oc (g_bn (eql_0 _ _ im _ h2))<|oc g_as on) fun u3 HB3 sz3 K3=>?_
   simp only[sQ] at K3⊢
   cases h3:decide (p/2=q)
   ·skip
    go_upto_region 6 with fail
    refine Rd K3 HB3 [] [] (cG 0 36 [_,_,_,_,_] [(5,35,_)]) [] [] [false,false] (oc (g_ld 1 uW iW)<|oc (g_fd (fdG1 _))<|oc (g_lo 0 4 uN iN)<|oc (g_cl Z9 (fun uZ=>Xi q uZ hq))<|oc (g_bn (neq_ww _ _ iq hq true h3))<|oc g_as on) fun u4 HB4 sz4 K4=>?_
    simp only[sQ] at K4⊢
    go_upto_region 7 with fail
    refine Rn K4 HB4 (cG 0 41 [_,_,_] [(3,2,_)]) (oc (U0 (miEG 90))<|oc (g_bd (bdFlG ⟨#[80,32,105,115,32,110,111,116,32,50,32,81,32,97,110,100,32,49]⟩ _ _))<|oc (U0 (miFG ⟨#[80,32,105,115,32,110,111,116,32,50,32,81,32,97,110,100,32,49]⟩ _ _))<|oc g_as on) fun u5 HB5 sz5 K5=>?_
    simp only[sQ] at K5⊢
    go_wp2
    refine bodyPost_ret (v:= .iface 125 (.agg #[.string ⟨#[80,32,105,115,32,110,111,116,32,50,32,81,32,97,110,100,32,49]⟩,(.iface 31 (iI 90))])) (by simp[results,Tryz.results75,go_sem,]) rfl ⟨by rw[hR.out,hc,h2,h3];rfl,HB5⟩
   ·skip
    go_upto_region 6 with fail
    refine Rd K3 HB3 [] [] (cG 0 36 [_,_,_,_,_] [(5,35,_)]) [] [] [false,false] (oc (g_ld 1 uW iW)<|oc (g_fd (fdG1 _))<|oc (g_lo 0 4 uN iN)<|oc (g_cl Z9 (fun uZ=>Xi q uZ hq))<|oc (g_bn (neq_ww _ _ iq hq false h3))<|oc g_as on) fun u4 HB4 sz4 K4=>?_
    simp only[sQ] at K4⊢
    go_upto_region 8 with fail
    refine Rn K4 HB4 [(0,2,_)] (oc g_as on) fun u5 HB5 sz5 K5=>?_
    simp only[sQ] at K5⊢
    go_wp2
    refine bodyPost_ret (v:= .nilIface) (by simp[results,Tryz.results75,go_sem,]) rfl ⟨by rw[hR.out,hc,h2,h3];rfl,HB5⟩
  ·skip
   go_upto_region 4 with fail
   refine Rp K2 HB2 [] [] (cG 0 29 [_,_,_] [(3,28,_)]) [] [] [false,false,false] (oc (g_ld 2 uN iN)<|oc (g_bd zN)<|oc (g_bn (eql_0 _ _ im _ h2))<|oc g_as on) fun u3 HB3 sz3 K3=>?_
   simp only[sQ] at K3⊢
   go_upto_region 5 with fail
   refine Rn K3 HB3 (cG 0 32 [_,_,_] [(3,2,_)]) (oc (U0 (miEG 90))<|oc (g_bd (bdFlG ⟨#[80,32,105,115,32,101,118,101,110]⟩ _ _))<|oc (U0 (miFG ⟨#[80,32,105,115,32,101,118,101,110]⟩ _ _))<|oc g_as on) fun u4 HB4 sz4 K4=>?_
   simp only[sQ] at K4⊢
   go_wp2
   refine bodyPost_ret (v:= .iface 125 (.agg #[.string ⟨#[80,32,105,115,32,101,118,101,110]⟩,(.iface 31 (iI 90))])) (by simp[results,Tryz.results75,go_sem,]) rfl ⟨by rw[hR.out,hc,h2];rfl,HB4⟩
 ·skip
  go_upto_region 2 with fail
  refine Rd K1 HB1 [] [] (cG 0 16 [_,_,_,_,_] [(5,15,_)]) [] [] [true,false,false] (oc (g_fd (fdG0 _))<|oc (g_lo 0 0 uN iN)<|oc (g_cl Z7 (fun uZ=>nOf 7 uZ (by decide) (by decide)))<|oc (g_cl Zu hC.out)<|oc (g_bn (fun uZ=>lss_z _ _ _ _ _ uZ hc))<|oc g_as on) fun u2 HB2 sz2 K2=>?_
  simp only[sQ] at K2⊢
  go_upto_region 3 with fail
  refine Rp K2 HB2 [] [] (cG 0 21 [_,_,_,_,_,_,_] [(7,2,_)]) [] [] [false] (oc (g_fd (fdG0 _))<|oc (g_lo 0 0 uN iN)<|oc (g_cl Yz (nTextG p))<|oc (g_bn (fun uZ=>add_stG _ _ sP1 (txG p) uZ (by have:=tx_szG p;have:sP1.size=10:=rfl;omega)))<|oc (U0 (miEG 90))<|oc (g_bd (bdFlG (sP1++txG p) _ _))<|oc (U0 (miFG (sP1++txG p) _ _))<|oc g_as on) fun u3 HB3 sz3 K3=>?_
  simp only[sQ] at K3⊢
  go_wp2
  refine bodyPost_ret (v:= .iface 125 (.agg #[.string (sP1++txG p),(.iface 31 (iI 90))])) (by simp[results,Tryz.results75,go_sem,]) rfl ⟨by rw[hR.out,hc];rfl,HB3⟩
theorem gGroup(p q g h:Int)(w:World)(hp:In p)(hq:In q):CC 75 #[GX p q g h] w (grV p q):=by
 have i2:In 2:=⟨by decide,by decide⟩
 have i7:In 7:=⟨by decide,by decide⟩
 have iq:In (p/2):=by have:=hp.1;have:=hp.2;exact⟨by omega,by omega⟩
 have im:In (p%2):=Zi i2 (by decide)
 have hC:Hid (∀u,CC 103 #[NV p,NV 7] u (iI (cmpI p 7))):=fun u=>nCompare p 7 u hp i7
 refine group_0 p q g h _ _ w hp hq i2 iq hC im ?_
 show grV p q=_
 have hc:decide (cmpI p 7<0)=decide (p<7):=by
  unfold cmpI
  by_cases h1:p<7
  ·rw[if_pos h1,decide_eq_true h1];rfl
  ·rw[if_neg h1,decide_eq_false h1];split<;>rfl
 rw[hc];simp only[grV,decide_eq_true_eq]
theorem grV_is(p q:Int):(gOk p q/\grV p q= .nilIface)\/(¬gOk p q/\EW 90 (grV p q)):=by
 unfold grV gOk
 by_cases h1:p<7
 ·rw[if_pos h1];exact .inr ⟨by omega,.wrap _ _ .leaf⟩
 ·rw[if_neg h1]
  by_cases h2:p%2=0
  ·rw[if_pos h2];exact .inr ⟨by omega,.wrap _ _ .leaf⟩
  ·rw[if_neg h2]
   by_cases h3:p/2=q
   ·rw[if_pos h3];exact .inl ⟨by omega,rfl⟩
   ·rw[if_neg h3];exact .inr ⟨by omega,.wrap _ _ .leaf⟩
end
theorem member_1(p q g h x c v:Int)(w:World)(hp:In p)(hq:In q)(hx:In x)(h0:decide (x=0)=true):CC 86 #[GX p q g h,NV x] w (.iface 125 (.agg #[.string (txG x++sX1),(.iface 31 (iI 90))])):=by
 go_enter Tryz.func86,Tryz.ntmps86
 go_upto_region 1 with fail
 obtain⟨v0,hC,HB0,K0⟩:=bx2 w (GE p q g h) 26 (LN x) 24
 rw[hC]
 clear hC
 refine Rp K0 HB0 [] [] (cG 0 7 [_,_,_,_,undef,undef,undef,undef,undef,_] []) [] [] [false] (oc (g_ld 1 uN iN)<|oc (g_bd zN)<|oc (g_bn (eql_0 _ _ hx _ h0))<|oc g_mv<|oc g_sk<|oc g_sk<|oc g_sk<|oc g_sk<|oc g_sk<|oc g_pk on) fun u1 HB1 _ K1=>?_
 simp only[sQ] at K1⊢
 go_upto_region 2 with fail
 refine Rp K1 HB1 [] [] (cG 0 17 [_,_,_,_,_,_] [(6,4,_)]) [] [] [false] (oc (g_ld 0 uN iN)<|oc (g_cl Yz (nTextG x))<|oc (g_bn (fun uZ=>add_stG _ _ (txG x) sX1 uZ (by have:=tx_szG x;have:sX1.size=23:=rfl;omega)))<|oc (U0 (miEG 90))<|oc (g_bd (bdFlG (txG x++sX1) _ _))<|oc (U0 (miFG (txG x++sX1) _ _))<|oc g_as on) fun u2 HB2 _ K2=>?_
 simp only[sQ] at K2⊢
 go_wp2
 refine bodyPost_ret (v:= .iface 125 (.agg #[.string (txG x++sX1),(.iface 31 (iI 90))])) (by simp[results,Tryz.results86,go_sem,]) rfl ⟨rfl,HB2⟩
theorem member_2(p q g h x c v:Int)(w:World)(hp:In p)(hq:In q)(hx:In x)(h0:decide (x=0)=false)(hC:Hid (∀u,CC 103 #[NV x,NV p] u (iI c)))(hc:decide (0<=c)=true):CC 86 #[GX p q g h,NV x] w (.iface 125 (.agg #[.string (txG x++sX1),(.iface 31 (iI 90))])):=by
 go_enter Tryz.func86,Tryz.ntmps86
 go_upto_region 1 with fail
 obtain⟨v0,hC,HB0,K0⟩:=bx2 w (GE p q g h) 26 (LN x) 24
 rw[hC]
 clear hC
 refine Rp K0 HB0 [] [] (cG 0 7 [_,_,_,_,_,_,_,_,_,_] []) [] [] [false] (oc (g_ld 1 uN iN)<|oc (g_bd zN)<|oc (g_bn (eql_0 _ _ hx _ h0))<|oc g_mv<|oc (g_ld 1 uN iN)<|oc (g_fd (fdG0 _))<|oc (g_lo 0 0 uN iN)<|oc (g_cl Zu hC.out)<|oc (g_bn (fun uZ=>geq_y _ _ _ _ _ uZ hc))<|oc g_pk on) fun u1 HB1 _ K1=>?_
 simp only[sQ] at K1⊢
 go_upto_region 2 with fail
 refine Rp K1 HB1 [] [] (cG 0 17 [_,_,_,_,_,_] [(6,4,_)]) [] [] [false] (oc (g_ld 0 uN iN)<|oc (g_cl Yz (nTextG x))<|oc (g_bn (fun uZ=>add_stG _ _ (txG x) sX1 uZ (by have:=tx_szG x;have:sX1.size=23:=rfl;omega)))<|oc (U0 (miEG 90))<|oc (g_bd (bdFlG (txG x++sX1) _ _))<|oc (U0 (miFG (txG x++sX1) _ _))<|oc g_as on) fun u2 HB2 _ K2=>?_
 simp only[sQ] at K2⊢
 go_wp2
 refine bodyPost_ret (v:= .iface 125 (.agg #[.string (txG x++sX1),(.iface 31 (iI 90))])) (by simp[results,Tryz.results86,go_sem,]) rfl ⟨rfl,HB2⟩
theorem member_3(p q g h x c v:Int)(w:World)(hp:In p)(hq:In q)(hx:In x)(h0:decide (x=0)=false)(hC:Hid (∀u,CC 103 #[NV x,NV p] u (iI c)))(hc:decide (0<=c)=false)(hE:Hid (∀u,CC 92 #[NV x,NV q,NV p] u (.tuple #[NV v,iI 0])))(hv:In v)(i1:In 1)(h1:decide (v=1)=!true):CC 86 #[GX p q g h,NV x] w (.iface 125 (.agg #[.string (txG x++sX2),(.iface 31 (iI 90))])):=by
 go_enter Tryz.func86,Tryz.ntmps86
 go_upto_region 1 with fail
 obtain⟨v0,hC,HB0,K0⟩:=bx2 w (GE p q g h) 26 (LN x) 24
 rw[hC]
 clear hC
 refine Rn K0 HB0 (cG 0 7 [_,_,_,_,_,_,_,_,_,_] []) (oc (g_ld 1 uN iN)<|oc (g_bd zN)<|oc (g_bn (eql_0 _ _ hx _ h0))<|oc g_mv<|oc (g_ld 1 uN iN)<|oc (g_fd (fdG0 _))<|oc (g_lo 0 0 uN iN)<|oc (g_cl Zu hC.out)<|oc (g_bn (fun uZ=>geq_y _ _ _ _ _ uZ hc))<|oc g_pk on) fun u1 HB1 _ K1=>?_
 simp only[sQ] at K1⊢
 go_upto_region 3 with fail
 refine Rp K1 HB1 [] [(9,5,L0s,some (10,LN v))] (cG 0 24 [_,_,_,_,_,_] [(6,23,_),(7,30,_),(8,31,_),(11,6,_)]) [(10,9)] [] [false] (oc (g_ld 1 uN iN)<|oc (g_fd (fdG1 _))<|oc (g_lo 0 4 uN iN)<|oc (g_fd (fdG0 _))<|oc (g_lo 0 0 uN iN)<|oc (g_cl Vp hE.out)<|oc g_mv<|oc g_ex<|oc g_ex<|oc (g_al 0 aN)<|oc (g_sn 0 iN)<|oc g_as on) fun u2 b2_9 HB2 _ K2=>?_
 simp only[sQ] at K2⊢
 go_upto_region 4 with fail
 refine Rd K2 HB2 [] [] (cG 0 32 [_,_,_] []) [] [] [true,false] (oc (g_ld 1 uN iN)<|oc (g_cl Z7 (fun uZ=>nOf 1 uZ (by decide) (by decide)))<|oc (g_bn (Vx _ _ hv i1 _ h1)) on) fun u3 HB3 _ K3=>?_
 simp only[sQ] at K3⊢
 go_upto_region 5 with fail
 refine Rp K3 HB3 [] [] (cG 0 35 [_,_,_,_,_,_] [(6,4,_)]) [] [] [false] (oc (g_ld 0 uN iN)<|oc (g_cl Yz (nTextG x))<|oc (g_bn (fun uZ=>add_stG _ _ (txG x) sX2 uZ (by have:=tx_szG x;have:sX2.size=18:=rfl;omega)))<|oc (U0 (miEG 90))<|oc (g_bd (bdFlG (txG x++sX2) _ _))<|oc (U0 (miFG (txG x++sX2) _ _))<|oc g_as on) fun u4 HB4 _ K4=>?_
 simp only[sQ] at K4⊢
 go_wp2
 refine bodyPost_ret (v:= .iface 125 (.agg #[.string (txG x++sX2),(.iface 31 (iI 90))])) (by simp[results,Tryz.results86,go_sem,]) rfl ⟨rfl,HB4⟩
theorem member_4(p q g h x c v:Int)(w:World)(hp:In p)(hq:In q)(hx:In x)(h0:decide (x=0)=false)(hC:Hid (∀u,CC 103 #[NV x,NV p] u (iI c)))(hc:decide (0<=c)=false)(hE:Hid (∀u,CC 92 #[NV x,NV q,NV p] u (.tuple #[NV v,iI 0])))(hv:In v)(i1:In 1)(h1:decide (v=1)=!false):CC 86 #[GX p q g h,NV x] w (.nilIface):=by
 go_enter Tryz.func86,Tryz.ntmps86
 go_upto_region 1 with fail
 obtain⟨v0,hC,HB0,K0⟩:=bx2 w (GE p q g h) 26 (LN x) 24
 rw[hC]
 clear hC
 refine Rn K0 HB0 (cG 0 7 [_,_,_,_,_,_,_,_,_,_] []) (oc (g_ld 1 uN iN)<|oc (g_bd zN)<|oc (g_bn (eql_0 _ _ hx _ h0))<|oc g_mv<|oc (g_ld 1 uN iN)<|oc (g_fd (fdG0 _))<|oc (g_lo 0 0 uN iN)<|oc (g_cl Zu hC.out)<|oc (g_bn (fun uZ=>geq_y _ _ _ _ _ uZ hc))<|oc g_pk on) fun u1 HB1 _ K1=>?_
 simp only[sQ] at K1⊢
 go_upto_region 3 with fail
 refine Rp K1 HB1 [] [(9,5,L0s,some (10,LN v))] (cG 0 24 [_,_,_,_,_,_] [(6,23,_),(7,30,_),(8,31,_),(11,6,_)]) [(10,9)] [] [false,false] (oc (g_ld 1 uN iN)<|oc (g_fd (fdG1 _))<|oc (g_lo 0 4 uN iN)<|oc (g_fd (fdG0 _))<|oc (g_lo 0 0 uN iN)<|oc (g_cl Vp hE.out)<|oc g_mv<|oc g_ex<|oc g_ex<|oc (g_al 0 aN)<|oc (g_sn 0 iN)<|oc g_as on) fun u2 b2_9 HB2 _ K2=>?_
 simp only[sQ] at K2⊢
 go_upto_region 4 with fail
 refine Rd K2 HB2 [] [] (cG 0 32 [_,_,_] []) [] [] [false] (oc (g_ld 0 uN iN)<|oc (g_cl Z7 (fun uZ=>nOf 1 uZ (by decide) (by decide)))<|oc (g_bn (Vx _ _ hv i1 _ h1)) on) fun u3 HB3 _ K3=>?_
 simp only[sQ] at K3⊢
 go_upto_region 6 with fail
 refine Rn K3 HB3 [(0,4,_)] (oc g_as on) fun u4 HB4 _ K4=>?_
 simp only[sQ] at K4⊢
 go_wp2
 refine bodyPost_ret (v:= .nilIface) (by simp[results,Tryz.results86,go_sem,]) rfl ⟨rfl,HB4⟩
theorem cMember(p q g h x:Int)(w:World)(hp:In p)(hq:In q)(hx:In x)(hp0:p≠0):CC 86 #[GX p q g h,NV x] w (mbV p q x):=by
 have hC:Hid (∀u,CC 103 #[NV x,NV p] u (iI (cmpI x p))):=fun u=>nCompare x p u hx hp
 by_cases h0:x=0
 ·rw[show mbV p q x=_ from if_pos (.inl h0)]
  exact member_1 p q g h x 0 0 w hp hq hx (decide_eq_true h0)
 ·by_cases h1:p<=x
  ·have hc:decide (0<=cmpI x p)=true:=by unfold cmpI;rw[if_neg (by omega)];split<;>rfl
   rw[show mbV p q x=_ from if_pos (.inr h1)]
   exact member_2 p q g h x _ 0 w hp hq hx (decide_eq_false h0) hC hc
  ·have hc:decide (0<=cmpI x p)=false:=by unfold cmpI;rw[if_pos (by omega)];rfl
   rw[show mbV p q x=_ from if_neg (by omega)]
   have hE:Hid (∀u,CC 92 #[NV x,NV q,NV p] u (.tuple #[NV (x^q.toNat%p),iI 0])):=fun u=>mExp x q p u hx hq hp hp0
   have i1:In 1:=⟨by decide,by decide⟩
   by_cases h2:x^q.toNat%p=1
   ·rw[if_pos h2]
    exact member_4 p q g h x _ _ w hp hq hx (decide_eq_false h0) hC hc hE (Zi hp hp0) i1 (decide_eq_true h2)
   ·rw[if_neg h2]
    exact member_3 p q g h x _ _ w hp hq hx (decide_eq_false h0) hC hc hE (Zi hp hp0) i1 (decide_eq_false h2)
theorem mbV_is(p q x:Int)(hx:In x):(Mb p q x/\mbV p q x= .nilIface)\/(¬Mb p q x/\EW 90 (mbV p q x)):=by
 have h0:=hx.1
 unfold mbV Mb
 by_cases h1:x=0\/p<=x
 ·rw[if_pos h1];exact .inr ⟨fun h=>by have:=h.1;have:=h.2.1;omega,.wrap _ _ .leaf⟩
 ·rw[if_neg h1]
  by_cases h2:x^q.toNat%p=1
  ·rw[if_pos h2];exact .inl ⟨⟨by omega,by omega,h2⟩,rfl⟩
  ·rw[if_neg h2];exact .inr ⟨fun h=>h2 h.2.2,.wrap _ _ .leaf⟩
theorem members_c(p q g h:Int)(T:TypeId)(x:Value)(sl:Option Addr)(n cap:Nat)(w:World)(hC:Hid (∀u,CC 75 #[GX p q g h] u (.iface T x))):
 CC 61 #[GX p q g h,.slice sl n cap] w (.iface 125 (.agg #[.string ⟨#[103,114,111,117,112]⟩,.iface T x])):=by
 go_enter Tryz.func61,Tryz.ntmps61
 go_upto_region 1 with fail
 obtain⟨v0,hC,HB0,K0⟩:=bx1 w (GE p q g h) 26
 rw[hC]
 clear hC
 refine Rp K0 HB0 [] [] [(0,9,_),(1,10,_),(2,5,_)] [] [] [false] (oc (g_ld 0 Tryz.underlying26 Z0)<|oc (g_cl Wg hC.out)<|oc g_as on) fun u1 HB1 _ K1=>?_
 simp only[sQ] at K1⊢
 go_upto_region 2 with fail
 refine Rn K1 HB1 [(0,11,_),(1,12,_)] (oc g_mv<|oc (g_bn (neq_erG _ _ _ _)) on) fun u2 HB2 _ K2=>?_
 simp only[sQ] at K2⊢
 go_upto_region 3 with fail
 refine Rn K2 HB2 (cG 0 13 [_,_,_] [(3,4,_)]) (oc g_mv<|oc (g_bd (bdFlG ⟨#[103,114,111,117,112]⟩ T x))<|oc (U0 (miFG ⟨#[103,114,111,117,112]⟩ T x))<|oc g_as on) fun u3 HB3 _ K3=>?_
 simp only[sQ] at K3⊢
 go_wp2
 refine bodyPost_ret (v:= .iface 125 (.agg #[.string ⟨#[103,114,111,117,112]⟩,.iface T x])) (by simp[results,Tryz.results61,go_sem,]) rfl ⟨rfl,HB3⟩
theorem members_k(p q g h:Int)(rv:Value)(sl:Option Addr)(gb go cap:Nat)(ns:List Int)(w:World)(hG:GT w)(hns:ns.length<=50)(hp:In p)(hq:In q)(hp0:p≠0)(hn:Hid (∀k,k<ns.length->In (ns.getD k 0)))(hix:Hid (∀j,j<ns.length-> ∀W,(Instr.indexAt 27 (.slice sl ns.length cap) (iI j)).run Tryz.prog W= .ok (.pointer (some ⟨gb,go+4*j,none⟩)) W))(hg0:ns.length=0\/gb<w.heap.size)(hS:Hid (SN w gb go ns))(hC:Hid (∀u,CC 75 #[GX p q g h] u (.nilIface)))
 (hE:Hid (∀k,k<ns.length->(∀j,j<k->Mb p q (ns.getD j 0))-> ¬Mb p q (ns.getD k 0)->rv= .iface 125 (.agg #[.string (sM2++iaG (k:Int)),mbV p q (ns.getD k 0)])))(hE2:Hid ((∀j,j<ns.length->Mb p q (ns.getD j 0))->rv= .nilIface)):
 CC 61 #[GX p q g h,.slice sl ns.length cap] w rv:=by
 go_enter Tryz.func61,Tryz.ntmps61
 go_upto_region 1 with fail
 obtain⟨v0,hC,HB0,K0⟩:=bx1 w (GE p q g h) 26
 rw[hC]
 clear hC
 refine Rn K0 HB0 [(0,9,_),(1,10,_),(2,5,_)] (oc (g_ld 0 Tryz.underlying26 Z0)<|oc (g_cl Wg hC.out)<|oc g_as on) fun u1 HB1 _ K1=>?_
 simp only[sQ] at K1⊢
 go_upto_region 2 with fail
 refine Rn K1 HB1 [(0,11,_),(1,12,_)] (oc g_mv<|oc (g_bn (neq_noG _ _)) on) fun u2 HB2 _ K2=>?_
 simp only[sQ] at K2⊢
 go_upto_region 4 with fail
 refine Rn K2 HB2 (cG 0 16 [_,_,_] []) (oc g_mv<|oc (g_ln Tryz.underlying27)<|oc g_mv on) fun u3 HB3 _ K3=>?_
 simp only[sQ] at K3⊢
 go_wp2_with fail
 go_loopw [18] (fun s18 wr=> ∃(k:Nat),k<=ns.length/\s18=iI (k:Int)/\Hid (∀j,j<k->Mb p q (ns.getD j 0))/\Bw w wr/\CV wr (w.heap.size) (GE p q g h)/\w.heap.size<wr.heap.size) (fun s18 _=>ns.length -(intOf s18).toNat)
 case atStart=>exact⟨0,by omega,rfl,fun j hj=>absurd hj (by omega),HB3,(K3.cv 0),(K3.lt 0)⟩
 case round=>
  obtain⟨k,hk,rfl,hall,HBr,Kg,lg⟩:=hrel
  by_cases hj:k<ns.length
  ·have hl:decide ((k:Int)<(ns.length:Int))=true:=by simp;omega
   have iy:=hn.out k hj
   have hX:=hix.out k hj
   have hX:Hid _:=hX
   have hR:=hS.out.at k hj
   have hR:Hid _:=hR
   have hlen:(k:Int)<1000:=by omega
   have hev:=hE.out k hj hall.out
   have hev:Hid _:=hev
   have hI:Hid (∀u,CC 86 #[GX p q g h,NV (ns.getD k 0)] u (mbV p q (ns.getD k 0))):=fun u=>cMember p q g h _ u hp hq iy hp0
   have hmb:=mbV_is p q _ iy
   have hall2:Mb p q (ns.getD k 0)->Hid (∀j,j<k+1->Mb p q (ns.getD j 0)):=fun hb j hj2=>by
    by_cases e:j=k
    ·subst e;exact hb
    ·exact hall.out j (by omega)
   rcases hmb with⟨hb,hm⟩ | ⟨hb,hm⟩
   ·have hev2:Hid _:=hall2 hb
    rw[hm] at hI
    clear hm hb hall2 hev
    obtain⟨y,ey⟩: ∃y,ns.getD k 0=y:=⟨_,rfl⟩
    rw[ey] at iy hR hI
    clear ey
    have K3_1:Bk w.heap.size wr [(false,w.heap.size,GE p q g h)]:=⟨.c lg Kg<|trivial,by simp⟩
    go_upto_region 5 with fail
    refine Rn K3_1 HBr [(0,19,_)] (oc (g_bn (fun uZ=>lss_z _ _ (k:Int) (ns.length:Int) _ uZ hl)) on) fun u4 HB4 sz4 K4=>?_
    simp only[sQ] at K4⊢
    go_upto_region 6 with fail
    refine Rp K4 HB4 [] [(3,7,L0s,some (5,LN y))] (cG 0 20 [_,_,_] [(4,6,_)]) [(5,3)] [] [] (oc g_mv<|oc (g_ix hX.out)<|oc (g_lf hR.out (hg0.resolve_left (by omega)) uN iN)<|oc (g_al 0 aN)<|oc g_as<|oc (g_sn 0 iN) on) fun u5 b5_3 HB5 sz5 K5=>?_
    simp only[sQ] at K5⊢
    go_upto_region 7 with fail
    refine Rp K5 HB5 [] [] (cG 0 23 [_,_,_] [(3,8,_)]) [] [] [true,false] (oc (g_ld 0 Tryz.underlying26 Z0)<|oc (g_ld 1 uN iN)<|oc (g_cl Ve hI.out)<|oc g_as on) fun u6 HB6 sz6 K6=>?_
    simp only[sQ] at K6⊢
    go_upto_region 8 with fail
    refine Rn K6 HB6 [(0,26,_),(1,27,_)] (oc g_mv<|oc (g_bn (neq_noG _ _)) on) fun u7 HB7 sz7 K7=>?_
    simp only[sQ] at K7⊢
    go_upto_region 10 with fail
    refine Rp K7 HB7 [] [] [(0,34,_),(1,18,_)] [(1,0)] [(1,18)] [] (oc (g_bn (fun uZ=>Zm _ _ (k:Int) 1 ((k+1:Nat):Int) uZ (by omega) (by omega) (by omega)))<|oc g_mv on) fun u8 HB8 sz8 K8=>?_
    simp only[sQ] at K8⊢
    go_wp2
    refine⟨⟨k+1,by omega,rfl,hev2,HB8,(K8.cv 0),(K8.lt 0)⟩,?_⟩
    simp[intOf]<;>omega
   ·have hev2:=hev.out hb
    obtain⟨T,x,ex⟩:=hm.some
    rw[ex] at hI hev2
    have hev2:Hid _:=hev2
    clear hm hb hall2 hev ex
    obtain⟨y,ey⟩: ∃y,ns.getD k 0=y:=⟨_,rfl⟩
    rw[ey] at iy hR hI
    clear ey
    have K3_1:Bk w.heap.size wr [(false,w.heap.size,GE p q g h)]:=⟨.c lg Kg<|trivial,by simp⟩
    go_upto_region 5 with fail
    refine Rn K3_1 HBr [(0,19,_)] (oc (g_bn (fun uZ=>lss_z _ _ (k:Int) (ns.length:Int) _ uZ hl)) on) fun u4 HB4 sz4 K4=>?_
    simp only[sQ] at K4⊢
    go_upto_region 6 with fail
    refine Rp K4 HB4 [] [(3,7,L0s,some (5,LN y))] (cG 0 20 [_,_,_] [(4,6,_)]) [(5,3)] [] [] (oc g_mv<|oc (g_ix hX.out)<|oc (g_lf hR.out (hg0.resolve_left (by omega)) uN iN)<|oc (g_al 0 aN)<|oc g_as<|oc (g_sn 0 iN) on) fun u5 b5_3 HB5 sz5 K5=>?_
    simp only[sQ] at K5⊢
    go_upto_region 7 with fail
    refine Rp K5 HB5 [] [] (cG 0 23 [_,_,_] [(3,8,_)]) [] [] [false,false] (oc (g_ld 0 Tryz.underlying26 Z0)<|oc (g_ld 1 uN iN)<|oc (g_cl Ve hI.out)<|oc g_as on) fun u6 HB6 sz6 K6=>?_
    simp only[sQ] at K6⊢
    go_upto_region 8 with fail
    refine Rn K6 HB6 [(0,26,_),(1,27,_)] (oc g_mv<|oc (g_bn (neq_erG _ _ _ _)) on) fun u7 HB7 sz7 K7=>?_
    simp only[sQ] at K7⊢
    go_upto_region 9 with fail
    refine Rn K7 HB7 (cG 0 28 [_,_,_,_,_,_] [(6,4,_)]) (oc g_mv<|oc (g_cb Uh (fun uZ bZ=>cItoaG (k:Int) uZ (by omega) (by omega) (hG.below bZ)))<|oc (g_bn (fun uZ=>add_stG _ _ sM2 (iaG (k:Int)) uZ (by have:=ia_szG (k:Int) (by omega) (by omega);have:sM2.size=7:=rfl;omega)))<|oc g_mv<|oc (g_bd (bdFlG (sM2++iaG (k:Int)) T x))<|oc (U0 (miFG (sM2++iaG (k:Int)) T x))<|oc g_as on) fun u8 HB8 sz8 K8=>?_
    simp only[sQ] at K8⊢
    have hev2:=hev2.out
    subst hev2
    go_wp2
    refine bodyPost_ret (v:= .iface 125 (.agg #[.string (sM2++iaG (k:Int)),.iface T x])) (by simp[results,Tryz.results61,go_sem,]) rfl ⟨rfl,HB8⟩
  ·have hl:decide ((k:Int)<(ns.length:Int))=false:=by simp;omega
   have hkn:k=ns.length:=by omega
   have hrv:=hE2.out (by rw[<-hkn];exact hall.out)
   clear hkn
   subst hrv
   have K3_1:Bk w.heap.size wr [(false,w.heap.size,GE p q g h)]:=⟨.c lg Kg<|trivial,by simp⟩
   go_upto_region 5 with fail
   refine Rp K3_1 HBr [] [] [(0,19,_)] [] [] [false] (oc (g_bn (fun uZ=>lss_z _ _ (k:Int) (ns.length:Int) _ uZ hl)) on) fun u4 HB4 sz4 K4=>?_
   simp only[sQ] at K4⊢
   go_upto_region 11 with fail
   refine Rn K4 HB4 [(0,4,_)] (oc g_as on) fun u5 HB5 sz5 K5=>?_
   simp only[sQ] at K5⊢
   go_wp2
   refine bodyPost_ret (v:= .nilIface) (by simp[results,Tryz.results61,go_sem,]) rfl ⟨rfl,HB5⟩
theorem first_no(P:Nat->Prop): ∀n:Nat,(∀j,j<n->P j)\/ ∃k,k<n/\(∀j,j<k->P j)/\ ¬P k
 | 0=>.inl fun j hj=>absurd hj (by omega)
 | n+1=>by
  rcases first_no P n with h | ⟨k,h1,h2,h3⟩
  ·by_cases e:P n
   ·exact .inl fun j hj=>by
     by_cases ej:j=n
     ·subst ej;exact e
     ·exact h j (by omega)
   ·exact .inr ⟨n,by omega,h,e⟩
  ·exact .inr ⟨k,by omega,h2,h3⟩
theorem cMembers(p q g h:Int)(ns:List Int)(hns:ns.length<=50)(hp:In p)(hq:In q)(hn: ∀k,k<ns.length->In (ns.getD k 0)):
 ∃v,((mlB p q ns=true/\v= .nilIface)\/(mlB p q ns=false/\EW 90 v))/\ ∀(y:Value) (w:World),GT w->NL w y ns->CC 61 #[GX p q g h,y] w v:=by
 have hC:=fun u=>gGroup p q g h u hp hq
 have hgd: ∀k,k<ns.length->ns.getD k 0∈ns:=fun k hk=>by
  rw[List.getD_eq_getElem?_getD,List.getElem?_eq_getElem hk];exact List.getElem_mem hk
 rcases grV_is p q with⟨hg,he⟩ | ⟨hg,he⟩
 ·rw[he] at hC
  have h7:=hg.2
  have hix: ∀(sl:Option Addr) (gb go cap:Nat),(ns=[]\/sl=some ⟨gb,go,none⟩)->Hid (∀j,j<ns.length-> ∀W,(Instr.indexAt 27 (.slice sl ns.length cap) (iI j)).run Tryz.prog W= .ok (.pointer (some ⟨gb,go+4*j,none⟩)) W):=fun sl gb go cap hsl j hj W=>by
   have e:=hsl.resolve_left (fun e=>by subst e;simp at hj)
   subst e
   exact ixS gb go ns.length cap j hj W
  rcases first_no (fun j=>Mb p q (ns.getD j 0)) ns.length with ha | ⟨k,h1,h2,h3⟩
  ·refine⟨.nilIface,.inl ⟨?_,rfl⟩,fun y w hG hy=>?_⟩
   ·unfold mlB
    rw[Bool.and_eq_true,decide_eq_true_iff,List.all_eq_true]
    refine⟨hg,fun x hx=>?_⟩
    obtain⟨j,hj,rfl⟩:=List.mem_iff_getElem.1 hx
    have:=ha j hj
    rw[List.getD_eq_getElem?_getD,List.getElem?_eq_getElem hj] at this
    exact decide_eq_true ⟨hg,this⟩
   ·obtain⟨sl,gb,go,cap,rfl,_,_,hsl,hg0,hS⟩:=hy
    exact members_k p q g h _ sl gb go cap ns w hG hns hp hq (by omega) hn (hix sl gb go cap hsl) hg0 hS hC (fun k hk _ hb=>absurd (ha k hk) hb) (fun _=>rfl)
  ·have iy:=hn k h1
   have hb2:isB p q (ns.getD k 0)=false:=decide_eq_false fun h=>h3 h.2
   refine⟨.iface 125 (.agg #[.string (sM2++iaG (k:Int)),mbV p q (ns.getD k 0)]),.inr ⟨?_,.wrap _ _ ((mbV_is p q _ iy).resolve_left fun h=>h3 h.1).2⟩,fun y w hG hy=>?_⟩
   ·unfold mlB
    rw[Bool.and_eq_false_iff]
    refine .inr ?_
    rw[List.all_eq_false]
    exact⟨_,hgd k h1,by rw[hb2];decide⟩
   ·obtain⟨sl,gb,go,cap,rfl,_,_,hsl,hg0,hS⟩:=hy
    refine members_k p q g h _ sl gb go cap ns w hG hns hp hq (by omega) hn (hix sl gb go cap hsl) hg0 hS hC (fun k' hk' ha hb=>?_) (fun ha=>absurd (ha k h1) h3)
    have:k'=k:=by
     rcases Nat.lt_trichotomy k' k with e | e | e
     ·exact absurd (h2 k' e) hb
     ·exact e
     ·exact absurd (ha k e) h3
    subst this;rfl
 ·obtain⟨T,x,ex⟩:=he.some
  rw[ex] at hC he
  refine⟨_,.inr ⟨?_,.wrap ⟨#[103,114,111,117,112]⟩ _ he⟩,fun y w hG hy=>?_⟩
  ·unfold mlB;rw[decide_eq_false hg];rfl
  ·obtain⟨sl,gb,go,cap,rfl,_,_,hsl,hg0,hS⟩:=hy
   exact members_c p q g h T x sl _ cap w hC
theorem Wf:EnT 64:=fun _ _=>by kernel_rfl
theorem Wz:EnT 63:=fun _ _=>by kernel_rfl
theorem cPower(p q g h x e:Int)(w:World)(hp:In p)(hq:In q)(hx:In x)(he:In e)(hp0:p≠0)(hq0:q≠0):
 CC 64 #[GX p q g h,NV x,NV e] w (NV (x^(e%q).toNat%p)):=by
 go_enter Tryz.func64,Tryz.ntmps64
 go_upto_region 1 with fail
 obtain⟨v0,hC,HB0,K0⟩:=bx4 w (GE p q g h) 26 (LN x) 24 (LN e) 24 L0s 24
 rw[hC]
 clear hC
 refine Rd K0 HB0 [.no,.no,.all 8 (LN (e%q))] [] (cG 0 10 [_,_,_,_,_] [(5,9,_),(6,15,_),(7,16,_)]) [(8,0)] [] [] (oc (g_ld 2 uN iN)<|oc (g_cl Z9 (fun uZ=>Xi e uZ he))<|oc (g_fd (fdG1 _))<|oc (g_lo 0 4 uN iN)<|oc (g_cl Zc (fun uZ=>Yu e q uZ he.wide hq hq0))<|oc g_mv<|oc g_ex<|oc g_ex<|oc (g_st 2 iN) on) fun u1 HB1 _ K1=>?_
 simp only[sQ] at K1⊢
 go_upto_region 2 with fail
 refine Rp K1 HB1 [] [(8,7,L0s,some (9,LN (x^(e%q).toNat%p)))] (cG 0 18 [_,_,_,_,_] [(5,17,_),(6,23,_),(7,24,_),(10,8,_)]) [(9,8)] [] [false,false,false] (oc (g_ld 1 uN iN)<|oc (g_ld 2 uN iN)<|oc (g_fd (fdG0 _))<|oc (g_lo 0 0 uN iN)<|oc (g_cl Vp (fun uZ=>mExp x (e%q) p uZ hx (Zi hq hq0) hp hp0))<|oc g_mv<|oc g_ex<|oc g_ex<|oc (g_al 0 aN)<|oc (g_sn 0 iN)<|oc g_as on) fun u2 b2_8 HB2 _ K2=>?_
 simp only[sQ] at K2⊢
 go_upto_region 3 with fail
 refine Rp K2 HB2 [.all 1 (LN (x^(e%q).toNat%p))] [] [(0,25,_)] [] [] [true,false] (oc (g_ld 1 uN iN)<|oc (g_st 0 iN) on) fun u3 HB3 _ K3=>?_
 simp only[sQ] at K3⊢
 have c6:=(K3.cv 0).n4
 go_wp2
 refine bodyPost_ret (v:=NV (x^(e%q).toNat%p)) (by simp[results,Tryz.results64,go_sem,c6]) rfl ⟨rfl,HB3⟩
theorem product_core(p q g h c:Int)(sl:Option Addr)(n cap:Nat)(w:World)(hP:Hid (∀u,Bw w u->CC 89 #[NV p,.slice sl n cap] u (.tuple #[NV c,iI 0]))):
 CC 63 #[GX p q g h,.slice sl n cap] w (NV c):=by
 go_enter Tryz.func63,Tryz.ntmps63
 go_upto_region 1 with fail
 obtain⟨v0,hC,HB0,K0⟩:=bx2 w (GE p q g h) 26 L0s 24
 rw[hC]
 clear hC
 refine Rp K0 HB0 [] [(7,5,L0s,some (8,LN c))] (cG 0 8 [_,_,_,_] [(4,7,_),(5,12,_),(6,13,_),(9,6,_)]) [(8,7)] [] [false] (oc (g_fd (fdG0 _))<|oc (g_lo 0 0 uN iN)<|oc g_mv<|oc (g_cb ent_mod_Product hP.out)<|oc g_mv<|oc g_ex<|oc g_ex<|oc (g_al 0 aN)<|oc (g_sn 0 iN)<|oc g_as on) fun u1 b1_7 HB1 _ K1=>?_
 simp only[sQ] at K1⊢
 go_upto_region 2 with fail
 refine Rp K1 HB1 [.all 1 (LN c)] [] [(0,14,_)] [] [] [true,false] (oc (g_ld 1 uN iN)<|oc (g_st 0 iN) on) fun u2 HB2 _ K2=>?_
 simp only[sQ] at K2⊢
 have c4:=(K2.cv 0).n4
 go_wp2
 refine bodyPost_ret (v:=NV c) (by simp[results,Tryz.results63,go_sem,c4]) rfl ⟨rfl,HB2⟩
def prN(p:Int)(ns:List Int):Int:=gat (fun a b=>(a*b)%p) (1%p) ns ns.length
theorem cProduct(p q g h:Int)(ns:List Int)(y:Value)(w:World)(hns:ns.length<=50)(hp:In p)(hp0:p≠0)(hn: ∀k,k<ns.length->In (ns.getD k 0))(hy:NL w y ns):
 CC 63 #[GX p q g h,y] w (NV (prN p ns)):=by
 obtain⟨sl,gb,go,cap,rfl,_,_,hsl,hg0,hS⟩:=hy
 refine product_core p q g h _ sl _ cap w fun u hB=>?_
 refine mProduct p sl gb go cap ns u hns hp hp0 hn (fun j hj W=>?_) (hg0.imp id fun e=>Nat.lt_of_lt_of_le e hB.size) (SN.below2 hS hB hg0)
 have e:=hsl.resolve_left (fun e=>by subst e;simp at hj)
 subst e
 exact ixS gb go ns.length cap j hj W
theorem check_core(p q g h r:Int)(V:Value)(w:World)(hG:Hid (∀u,Bw w u->CC 75 #[GX p q g h] u V))(hT:Hid (∀u,Bw w u->CC 62 #[V] u (iI r))):
 CC 50 #[GX p q g h] w (iI r):=by
 go_enter Tryz.func50,Tryz.ntmps50
 go_upto_region 1 with fail
 obtain⟨v0,hC,HB0,K0⟩:=bx1 w (GE p q g h) 26
 rw[hC]
 clear hC
 refine Rp K0 HB0 [] [] (cG 0 3 [_,V,_] [(3,2,_)]) [] [] [false] (oc (g_ld 0 Tryz.underlying26 Z0)<|oc (g_cb Wg hG.out)<|oc (g_cb Xq hT.out)<|oc g_as on) fun u1 HB1 _ K1=>?_
 simp only[sQ] at K1⊢
 go_wp2
 refine bodyPost_ret (v:=iI r) (by simp[results,Tryz.results50,go_sem,]) rfl ⟨rfl,HB1⟩
theorem cCheckG(p q g h:Int)(w:World)(hp:In p)(hq:In q):CC 50 #[GX p q g h] w (iI (chE p q)):=by
 refine check_core p q g h _ (grV p q) w (fun u _=>gGroup p q g h u hp hq) (fun u _=>?_)
 rcases grV_is p q with⟨h1,h2⟩ | ⟨h1,h2⟩
 ·rw[h2,show chE p q=0 from if_pos h1];exact gToldN u
 ·rw[show chE p q=90 from if_neg h1];exact gTold9 _ u h2
theorem exp_n(p q g h x e:Int)(T:TypeId)(xv:Value)(w:World)(hM:Hid (∀u y,Bw w u->N1x x u y->CC 61 #[GX p q g h,y] u (.iface T xv)))(hT:Hid (∀u,Bw w u->CC 62 #[.iface T xv] u (iI 90))):
 CC 46 #[GX p q g h,NV x,NV e] w (.tuple #[A4 0 0 0 0,iI 90]):=by
 go_enter Tryz.func46,Tryz.ntmps46
 go_upto_region 1 with fail
 obtain⟨v0,hC,HB0,K0⟩:=bx4 w (GE p q g h) 26 (LN x) 24 (LN e) 24 L0s 24
 rw[hC]
 clear hC
 refine Rf K0 HB0 [] [] [(0,9,_),(1,10,_),(3,12,_),(4,8,_)] [] [] [⟨2,11,some 3,N1x x⟩] [false,false,false] (oc (g_ld 0 Tryz.underlying26 Z0)<|oc (g_ld 1 uN iN)<|oc (g_bR 0 (N1x x) [0] [NV x] (flN [x]) (bsNx1 x) (fun u hu=>inNx1 x u))<|oc (g_c2 0 (N1x x) Y4 (fun uZ yZ bZ hZ=>hM.out uZ yZ bZ hZ))<|oc g_as on) fun u1 v1_2 hv1_2 HB1 _ K1=>?_
 simp only[sQ] at K1⊢
 go_upto_region 2 with fail
 refine Rn K1 HB1 [(0,13,_),(1,14,_)] (oc g_mv<|oc (g_bn (neq_erG _ _ _ _)) on) fun u2 HB2 _ K2=>?_
 simp only[sQ] at K2⊢
 go_upto_region 3 with fail
 refine Rp K2 HB2 [.all 3 ([iU (0),iU (0),iU (0),iU (0)])] [] (cG 0 15 [_,_,_] [(4,7,_)]) [] [] [] (oc (g_bd zN)<|oc g_mv<|oc (g_cb Xq hT.out)<|oc (g_st 0 iN)<|oc g_as on) fun u3 HB3 _ K3=>?_
 simp only[sQ] at K3⊢
 have c6:=(K3.cv 0).n4
 go_wp2
 refine bodyPost_ret (v:= .tuple #[A4 0 0 0 0,iI 90]) (by simp[results,Tryz.results46,go_sem,c6]) rfl ⟨rfl,HB3⟩
theorem mulG_n(p q g h:Int)(sl:Option Addr)(n cap:Nat)(T:TypeId)(xv:Value)(w:World)(hM:Hid (∀u,Bw w u->CC 61 #[GX p q g h,.slice sl n cap] u (.iface T xv)))(hT:Hid (∀u,Bw w u->CC 62 #[.iface T xv] u (iI 90))):
 CC 47 #[GX p q g h,.slice sl n cap] w (.tuple #[A4 0 0 0 0,iI 90]):=by
 go_enter Tryz.func47,Tryz.ntmps47
 go_upto_region 1 with fail
 obtain⟨v0,hC,HB0,K0⟩:=bx2 w (GE p q g h) 26 L0s 24
 rw[hC]
 clear hC
 refine Rp K0 HB0 [] [] (cG 0 7 [_,_,_] [(3,6,_)]) [] [] [false] (oc (g_ld 0 Tryz.underlying26 Z0)<|oc g_mv<|oc (g_cb Y4 hM.out)<|oc g_as on) fun u1 HB1 _ K1=>?_
 simp only[sQ] at K1⊢
 go_upto_region 2 with fail
 refine Rn K1 HB1 [(0,10,_),(1,11,_)] (oc g_mv<|oc (g_bn (neq_erG _ _ _ _)) on) fun u2 HB2 _ K2=>?_
 simp only[sQ] at K2⊢
 go_upto_region 3 with fail
 refine Rp K2 HB2 [.all 3 ([iU (0),iU (0),iU (0),iU (0)])] [] (cG 0 12 [_,_,_] [(4,5,_)]) [] [] [] (oc (g_bd zN)<|oc g_mv<|oc (g_cb Xq hT.out)<|oc (g_st 0 iN)<|oc g_as on) fun u3 HB3 _ K3=>?_
 simp only[sQ] at K3⊢
 have c4:=(K3.cv 0).n4
 go_wp2
 refine bodyPost_ret (v:= .tuple #[A4 0 0 0 0,iI 90]) (by simp[results,Tryz.results47,go_sem,c4]) rfl ⟨rfl,HB3⟩
theorem com_n(p q g h s t:Int)(T:TypeId)(xv:Value)(w:World)(hM:Hid (∀u y,Bw w u->N2 g h u y->CC 61 #[GX p q g h,y] u (.iface T xv)))(hT:Hid (∀u,Bw w u->CC 62 #[.iface T xv] u (iI 90))):
 CC 36 #[GX p q g h,NV s,NV t] w (.tuple #[A4 0 0 0 0,iI 90]):=by
 go_enter Tryz.func36,Tryz.ntmps36
 go_upto_region 1 with fail
 obtain⟨v0,hC,HB0,K0⟩:=bx4 w (GE p q g h) 26 (LN s) 24 (LN t) 24 L0s 24
 rw[hC]
 clear hC
 refine Rf K0 HB0 [] [] (cG 0 9 [_,_,_,_,_] [(6,15,_),(7,8,_)]) [] [] [⟨5,14,some 6,N2 g h⟩] [false,false,false] (oc (g_ld 0 Tryz.underlying26 Z0)<|oc (g_fd (fdG2 _))<|oc (g_lo 0 8 uN iN)<|oc (g_fd (fdG3 _))<|oc (g_lo 0 12 uN iN)<|oc (g_bR 0 (N2 g h) [0,1] [NV g,NV h] (flN [g,h]) (bsN2 g h) (fun u hu=>inN2 g h u))<|oc (g_c2 0 (N2 g h) Y4 (fun uZ yZ bZ hZ=>hM.out uZ yZ bZ hZ))<|oc g_as on) fun u1 v1_5 hv1_5 HB1 _ K1=>?_
 simp only[sQ] at K1⊢
 go_upto_region 2 with fail
 refine Rn K1 HB1 [(0,16,_),(1,17,_)] (oc g_mv<|oc (g_bn (neq_erG _ _ _ _)) on) fun u2 HB2 _ K2=>?_
 simp only[sQ] at K2⊢
 go_upto_region 3 with fail
 refine Rp K2 HB2 [.all 3 ([iU (0),iU (0),iU (0),iU (0)])] [] (cG 0 18 [_,_,_] [(4,7,_)]) [] [] [] (oc (g_bd zN)<|oc g_mv<|oc (g_cb Xq hT.out)<|oc (g_st 0 iN)<|oc g_as on) fun u3 HB3 _ K3=>?_
 simp only[sQ] at K3⊢
 have c6:=(K3.cv 0).n4
 go_wp2
 refine bodyPost_ret (v:= .tuple #[A4 0 0 0 0,iI 90]) (by simp[results,Tryz.results36,go_sem,c6]) rfl ⟨rfl,HB3⟩
theorem exp_k(p q g h x e r:Int)(w:World)(hM:Hid (∀u y,Bw w u->N1x x u y->CC 61 #[GX p q g h,y] u (.nilIface)))(hP:Hid (∀u,Bw w u->CC 64 #[GX p q g h,NV x,NV e] u (NV r))):
 CC 46 #[GX p q g h,NV x,NV e] w (.tuple #[NV r,iI 0]):=by
 go_enter Tryz.func46,Tryz.ntmps46
 go_upto_region 1 with fail
 obtain⟨v0,hC,HB0,K0⟩:=bx4 w (GE p q g h) 26 (LN x) 24 (LN e) 24 L0s 24
 rw[hC]
 clear hC
 refine Rf K0 HB0 [] [] [(0,9,_),(1,10,_),(3,12,_),(4,8,_)] [] [] [⟨2,11,some 3,N1x x⟩] [] (oc (g_ld 0 Tryz.underlying26 Z0)<|oc (g_ld 1 uN iN)<|oc (g_bR 0 (N1x x) [0] [NV x] (flN [x]) (bsNx1 x) (fun u hu=>inNx1 x u))<|oc (g_c2 0 (N1x x) Y4 (fun uZ yZ bZ hZ=>hM.out uZ yZ bZ hZ))<|oc g_as on) fun u1 v1_2 hv1_2 HB1 _ K1=>?_
 simp only[sQ] at K1⊢
 go_upto_region 2 with fail
 refine Rn K1 HB1 [(0,13,_),(1,14,_)] (oc g_mv<|oc (g_bn (neq_noG _ _)) on) fun u2 HB2 _ K2=>?_
 simp only[sQ] at K2⊢
 go_upto_region 4 with fail
 refine Rp K2 HB2 [.no,.no,.no,.all 4 (LN r)] [] (cG 0 18 [_,_,_,_] [(5,7,_)]) [] [] [false,false,false] (oc (g_ld 0 Tryz.underlying26 Z0)<|oc (g_ld 1 uN iN)<|oc (g_ld 2 uN iN)<|oc (g_cb Wf hP.out)<|oc (g_st 3 iN)<|oc g_as on) fun u3 HB3 _ K3=>?_
 simp only[sQ] at K3⊢
 have c6:=(K3.cv 0).n4
 go_wp2
 refine bodyPost_ret (v:= .tuple #[NV r,iI 0]) (by simp[results,Tryz.results46,go_sem,c6]) rfl ⟨rfl,HB3⟩
theorem mulG_k(p q g h r:Int)(sl:Option Addr)(n cap:Nat)(w:World)(hM:Hid (∀u,Bw w u->CC 61 #[GX p q g h,.slice sl n cap] u (.nilIface)))(hP:Hid (∀u,Bw w u->CC 63 #[GX p q g h,.slice sl n cap] u (NV r))):
 CC 47 #[GX p q g h,.slice sl n cap] w (.tuple #[NV r,iI 0]):=by
 go_enter Tryz.func47,Tryz.ntmps47
 go_upto_region 1 with fail
 obtain⟨v0,hC,HB0,K0⟩:=bx2 w (GE p q g h) 26 L0s 24
 rw[hC]
 clear hC
 refine Rn K0 HB0 (cG 0 7 [_,_,_] [(3,6,_)]) (oc (g_ld 0 Tryz.underlying26 Z0)<|oc g_mv<|oc (g_cb Y4 hM.out)<|oc g_as on) fun u1 HB1 _ K1=>?_
 simp only[sQ] at K1⊢
 go_upto_region 2 with fail
 refine Rn K1 HB1 [(0,10,_),(1,11,_)] (oc g_mv<|oc (g_bn (neq_noG _ _)) on) fun u2 HB2 _ K2=>?_
 simp only[sQ] at K2⊢
 go_upto_region 4 with fail
 refine Rp K2 HB2 [.no,.all 3 (LN r)] [] (cG 0 15 [_,_,_] [(4,5,_)]) [] [] [false] (oc (g_ld 0 Tryz.underlying26 Z0)<|oc g_mv<|oc (g_cb Wz hP.out)<|oc (g_st 1 iN)<|oc g_as on) fun u3 HB3 _ K3=>?_
 simp only[sQ] at K3⊢
 have c4:=(K3.cv 0).n4
 go_wp2
 refine bodyPost_ret (v:= .tuple #[NV r,iI 0]) (by simp[results,Tryz.results47,go_sem,c4]) rfl ⟨rfl,HB3⟩
theorem com_k(p q g h s t a b r:Int)(w:World)(hM:Hid (∀u y,Bw w u->N2 g h u y->CC 61 #[GX p q g h,y] u (.nilIface)))(hP:Hid (∀u,Bw w u->CC 64 #[GX p q g h,NV g,NV s] u (NV a)))(hQ:Hid (∀u,Bw w u->CC 64 #[GX p q g h,NV h,NV t] u (NV b)))(hR:Hid (∀u y,Bw w u->N2 a b u y->CC 63 #[GX p q g h,y] u (NV r))):
 CC 36 #[GX p q g h,NV s,NV t] w (.tuple #[NV r,iI 0]):=by
 go_enter Tryz.func36,Tryz.ntmps36
 go_upto_region 1 with fail
 obtain⟨v0,hC,HB0,K0⟩:=bx4 w (GE p q g h) 26 (LN s) 24 (LN t) 24 L0s 24
 rw[hC]
 clear hC
 refine Rf K0 HB0 [] [] (cG 0 9 [_,_,_,_,_] [(6,15,_),(7,8,_)]) [] [] [⟨5,14,some 6,N2 g h⟩] [] (oc (g_ld 0 Tryz.underlying26 Z0)<|oc (g_fd (fdG2 _))<|oc (g_lo 0 8 uN iN)<|oc (g_fd (fdG3 _))<|oc (g_lo 0 12 uN iN)<|oc (g_bR 0 (N2 g h) [0,1] [NV g,NV h] (flN [g,h]) (bsN2 g h) (fun u hu=>inN2 g h u))<|oc (g_c2 0 (N2 g h) Y4 (fun uZ yZ bZ hZ=>hM.out uZ yZ bZ hZ))<|oc g_as on) fun u1 v1_5 hv1_5 HB1 _ K1=>?_
 simp only[sQ] at K1⊢
 go_upto_region 2 with fail
 refine Rn K1 HB1 [(0,16,_),(1,17,_)] (oc g_mv<|oc (g_bn (neq_noG _ _)) on) fun u2 HB2 _ K2=>?_
 simp only[sQ] at K2⊢
 go_upto_region 4 with fail
 refine Re K2 HB2 [.no,.no,.no,.all 13 (LN r)] [] (cG 0 21 [_,_,_,_,_,_,_,_,_,_,_] [(12,33,_),(14,7,_)]) [] [] [⟨11,32,some 12,N2 a b⟩] [false,false,false] (oc (g_ld 0 Tryz.underlying26 Z0)<|oc (g_ld 0 Tryz.underlying26 Z0)<|oc (g_fd (fdG2 _))<|oc (g_lo 0 8 uN iN)<|oc (g_ld 1 uN iN)<|oc (g_cb Wf hP.out)<|oc (g_ld 0 Tryz.underlying26 Z0)<|oc (g_fd (fdG3 _))<|oc (g_lo 0 12 uN iN)<|oc (g_ld 2 uN iN)<|oc (g_cb Wf hQ.out)<|oc (g_bR 0 (N2 a b) [0,1] [NV a,NV b] (flN [a,b]) (bsN2 a b) (fun u hu=>inN2 a b u))<|oc (g_c2 0 (N2 a b) Wz (fun uZ yZ bZ hZ=>hR.out uZ yZ bZ hZ))<|oc (g_st 3 iN)<|oc g_as on) fun u3 v3_11 hv3_11 HB3 _ K3=>?_
 simp only[sQ] at K3⊢
 have c6:=(K3.cv 0).n4
 go_wp2
 refine bodyPost_ret (v:= .tuple #[NV r,iI 0]) (by simp[results,Tryz.results36,go_sem,c6]) rfl ⟨rfl,HB3⟩
theorem ml_1(p q x:Int):mlB p q [x]=isB p q x:=by
 unfold mlB isB
 rw[Bool.eq_iff_iff]
 simp[isB]
theorem ml_2(p q x y:Int):mlB p q [x,y]=(isB p q x&&isB p q y):=by
 unfold mlB isB
 rw[Bool.eq_iff_iff]
 simp[isB]
 grind
theorem In_1s{x:Int}(hx:In x): ∀k,k<[x].length->In ([x].getD k 0):=fun k hk=>by
 simp at hk;subst hk;exact hx
theorem In_2s{x y:Int}(hx:In x)(hy:In y): ∀k,k<[x,y].length->In ([x,y].getD k 0):=fun k hk=>by
 simp at hk
 match k,hk with
 | 0,_=>exact hx
 | 1,_=>exact hy
theorem cExpG(p q g h x e:Int)(w:World)(hG:GT w)(hp:In p)(hq:In q)(hx:In x)(he:In e):CC 46 #[GX p q g h,NV x,NV e] w (.tuple #[NV (exPX p q x e),iI (exPE p q x)]):=by
 obtain⟨v,hv,hM⟩:=cMembers p q g h [x] (by simp) hp hq (In_1s hx)
 rw[ml_1] at hv
 unfold exPX exPE
 rcases hv with⟨h1,rfl⟩ | ⟨h1,h2⟩
 ·have h3:=(Ug h1).1.q3
  have h7:=(Ug h1).1.2
  rw[h1,if_pos rfl,if_pos rfl];exact exp_k p q g h x e _ w (fun u y hB hy=>hM y u (hG.below hB) hy) (fun u _=>cPower p q g h x e u hp hq hx he (by omega) (by omega))
 ·obtain⟨T,xv,rfl⟩:=h2.some
  rw[h1,if_neg (by decide),if_neg (by decide),NV_0];exact exp_n p q g h x e T xv w (fun u y hB hy=>hM y u (hG.below hB) hy) (fun u _=>gTold9 _ u h2)
theorem cMulG(p q g h:Int)(ns:List Int)(y:Value)(w:World)(hG:GT w)(hns:ns.length<=50)(hp:In p)(hq:In q)(hn: ∀k,k<ns.length->In (ns.getD k 0))(hy:NL w y ns):CC 47 #[GX p q g h,y] w (.tuple #[NV (mlX p q ns),iI (mlE p q ns)]):=by
 obtain⟨v,hv,hM⟩:=cMembers p q g h ns hns hp hq hn
 have hyu:=fun u (hB:Bw w u)=>hy.up hB
 obtain⟨sl,gb,go,cap,rfl,_⟩:=hy
 unfold mlX mlE
 rcases hv with⟨h1,rfl⟩ | ⟨h1,h2⟩
 ·have hgk:gOk p q:=by
   unfold mlB at h1;rw[Bool.and_eq_true] at h1;exact of_decide_eq_true h1.1
  have h7:=hgk.2
  rw[h1,if_pos rfl,if_pos rfl];exact mulG_k p q g h _ sl _ cap w (fun u hB=>hM _ u (hG.below hB) (hyu u hB)) (fun u hB=>cProduct p q g h ns _ u hns hp (by omega) hn (hyu u hB))
 ·obtain⟨T,xv,rfl⟩:=h2.some
  rw[h1,if_neg (by decide),if_neg (by decide),NV_0];exact mulG_n p q g h sl _ cap T xv w (fun u hB=>hM _ u (hG.below hB) (hyu u hB)) (fun u _=>gTold9 _ u h2)
theorem cComG(p q g h s t:Int)(w:World)(hG:GT w)(hp:In p)(hq:In q)(hg:In g)(hh:In h)(hs:In s)(ht:In t):CC 36 #[GX p q g h,NV s,NV t] w (.tuple #[NV (coX p q g h s t),iI (coE p q g h)]):=by
 obtain⟨v,hv,hM⟩:=cMembers p q g h [g,h] (by simp) hp hq (In_2s hg hh)
 rw[ml_2] at hv
 unfold coX coE
 rcases hv with⟨h1,rfl⟩ | ⟨h1,h2⟩
 ·have hgk:gOk p q:=by rw[Bool.and_eq_true] at h1;exact(Ug h1.1).1
  have h3:=hgk.q3
  have h7:=hgk.2
  rw[h1,if_pos rfl,if_pos rfl]
  refine com_k p q g h s t _ _ _ w (fun u y hB hy=>hM y u (hG.below hB) hy) (fun u _=>cPower p q g h g s u hp hq hg hs (by omega) (by omega)) (fun u _=>cPower p q g h h t u hp hq hh ht (by omega) (by omega)) (fun u y hB hy=>?_)
  have:=cProduct p q g h _ y u (by simp) hp (by omega) (In_2s (Zi hp (by omega)) (Zi hp (by omega))) hy
  have e: ∀a b:Int,prN p [a,b]=a*b%p:=fun a b=>by
   show gat (fun a b=>(a*b)%p) (1%p) [a,b] 2=_
   rw[gat,gat,gat]
   simp only[List.getD_cons_zero,List.getD_cons_succ]
   rw[Vi (by omega),Int.one_mul,Int.mul_emod,Int.emod_emod,<-Int.mul_emod]
  rw[e] at this
  exact this
 ·obtain⟨T,xv,rfl⟩:=h2.some
  rw[h1,if_neg (by decide),if_neg (by decide),NV_0];exact com_n p q g h s t T xv w (fun u y hB hy=>hM y u (hG.below hB) hy) (fun u _=>gTold9 _ u h2)
theorem vNumber(n:Int)(w:World)(h0:0<=n)(h1:n<=9223372036854775807):
 CC 43 #[iI n] w (NV n):=by
 go_enter Tryz.func43,Tryz.ntmps43
 go_upto_region 1 with fail
 obtain⟨v0,hC,HB0,K0⟩:=bx1 w L0s 24
 rw[hC]
 clear hC
 refine Rp K0 HB0 [.all 3 (LN n)] [] (cG 0 3 [_,_,_] []) [] [] [] (oc g_mv<|oc (g_op (fun ev uZ he=>cviP uZ h0 h1 rfl (he _ _ rfl)))<|oc (g_bd (fun uZ=>bdNk n h0 (by omega) uZ))<|oc (g_st 0 iN) on) fun u1 HB1 _ K1=>?_
 simp only[sQ] at K1⊢
 have c2:=(K1.cv 0).n4
 go_wp2
 refine bodyPost_ret (v:=NV n) (by simp[results,Tryz.results43,go_sem,c2]) rfl ⟨rfl,HB1⟩
theorem vNode_0(n:Int)(w:World)(h:decide (1<=n)=false):
 CC 35 #[iI n] w (.bool false):=by
 go_enter Tryz.func35,Tryz.ntmps35
 have HB0:Bw w w:=Below.refl _ _
 have K0_1:=Bk.nil (w.heap.size) w
 go_upto_region 1 with fail
 refine Rn K0_1 HB0 (cG 0 3 [_,_,_,undef,undef,_] [(6,2,_)]) (oc g_mv<|oc (g_bn (fun uZ=>Wv _ _ n 1 _ uZ h))<|oc g_mv<|oc g_sk<|oc g_sk<|oc g_pk<|oc g_as on) fun u1 HB1 _ K1=>?_
 simp only[sQ] at K1⊢
 go_wp2
 refine bodyPost_ret (v:= .bool false) (by simp[results,Tryz.results35,go_sem,]) rfl ⟨rfl,HB1⟩
theorem vNode_1(n:Int)(b:Bool)(w:World)(h:decide (1<=n)=true)(h2:decide (n<=16)=b):
 CC 35 #[iI n] w (.bool b):=by
 go_enter Tryz.func35,Tryz.ntmps35
 have HB0:Bw w w:=Below.refl _ _
 have K0_1:=Bk.nil (w.heap.size) w
 go_upto_region 1 with fail
 refine Rn K0_1 HB0 (cG 0 3 [_,_,_,_,_,_] [(6,2,_)]) (oc g_mv<|oc (g_bn (fun uZ=>Wv _ _ n 1 _ uZ h))<|oc g_mv<|oc g_mv<|oc (g_bn (fun uZ=>leq_p _ _ n 16 _ uZ h2))<|oc g_pk<|oc g_as on) fun u1 HB1 _ K1=>?_
 simp only[sQ] at K1⊢
 go_wp2
 refine bodyPost_ret (v:= .bool b) (by simp[results,Tryz.results35,go_sem,]) rfl ⟨rfl,HB1⟩
theorem vNode(n:Int)(w:World):CC 35 #[iI n] w (.bool (decide (1<=n/\n<=16))):=by
 by_cases h:1<=n
 ·rw[show decide (1<=n/\n<=16)=decide (n<=16) by simp[h]]
  exact vNode_1 n _ w (decide_eq_true h) rfl
 ·rw[show decide (1<=n/\n<=16)=false by simp[h]]
  exact vNode_0 n w (decide_eq_false h)
theorem vSize_0(n:Int)(w:World)(h:decide (1<=n)=false):
 CC 51 #[iI n] w (.bool false):=by
 go_enter Tryz.func51,Tryz.ntmps51
 have HB0:Bw w w:=Below.refl _ _
 have K0_1:=Bk.nil (w.heap.size) w
 go_upto_region 1 with fail
 refine Rn K0_1 HB0 (cG 0 3 [_,_,_,undef,undef,_] [(6,2,_)]) (oc g_mv<|oc (g_bn (fun uZ=>Wv _ _ n 1 _ uZ h))<|oc g_mv<|oc g_sk<|oc g_sk<|oc g_pk<|oc g_as on) fun u1 HB1 _ K1=>?_
 simp only[sQ] at K1⊢
 go_wp2
 refine bodyPost_ret (v:= .bool false) (by simp[results,Tryz.results51,go_sem,]) rfl ⟨rfl,HB1⟩
theorem vSize_1(n:Int)(b:Bool)(w:World)(h:decide (1<=n)=true)(h2:decide (n<=6)=b):
 CC 51 #[iI n] w (.bool b):=by
 go_enter Tryz.func51,Tryz.ntmps51
 have HB0:Bw w w:=Below.refl _ _
 have K0_1:=Bk.nil (w.heap.size) w
 go_upto_region 1 with fail
 refine Rn K0_1 HB0 (cG 0 3 [_,_,_,_,_,_] [(6,2,_)]) (oc g_mv<|oc (g_bn (fun uZ=>Wv _ _ n 1 _ uZ h))<|oc g_mv<|oc g_mv<|oc (g_bn (fun uZ=>leq_p _ _ n 6 _ uZ h2))<|oc g_pk<|oc g_as on) fun u1 HB1 _ K1=>?_
 simp only[sQ] at K1⊢
 go_wp2
 refine bodyPost_ret (v:= .bool b) (by simp[results,Tryz.results51,go_sem,]) rfl ⟨rfl,HB1⟩
theorem vSize(n:Int)(w:World):CC 51 #[iI n] w (.bool (decide (1<=n/\n<=6))):=by
 by_cases h:1<=n
 ·rw[show decide (1<=n/\n<=6)=decide (n<=6) by simp[h]]
  exact vSize_1 n _ w (decide_eq_true h) rfl
 ·rw[show decide (1<=n/\n<=6)=false by simp[h]]
  exact vSize_0 n w (decide_eq_false h)
theorem Yx:EnT 43:=fun _ _=>by kernel_rfl
theorem Zj:EnT 35:=fun _ _=>by kernel_rfl
theorem Yy:EnT 51:=fun _ _=>by kernel_rfl
theorem Xm:EnT 52:=fun _ _=>by kernel_rfl
theorem Zk:EnT 34:=fun _ _=>by kernel_rfl
theorem Wd:EnT 19:=fun _ _=>by kernel_rfl
theorem Ux:EnT 50:=fun _ _=>by kernel_rfl
theorem ent_V2:EnT 47:=fun _ _=>by kernel_rfl
theorem ent_V3:EnT 42:=fun _ _=>by kernel_rfl
theorem ent_V4:EnT 36:=fun _ _=>by kernel_rfl
theorem ent_V5:EnT 46:=fun _ _=>by kernel_rfl
theorem ent_V6:EnT 55:=fun _ _=>by kernel_rfl
theorem vmem_core(p q g h x er:Int)(sa:Option Addr)(n ca:Nat)(b:Bool)(w:World)(hb:(er==0)=b)(hM:Hid (∀u,Bw w u->CC 47 #[GX p q g h,.slice sa n ca] u (.tuple #[NV x,iI er]))):
 CC 52 #[GX p q g h,.slice sa n ca] w (.bool b):=by
 go_enter Tryz.func52,Tryz.ntmps52
 go_upto_region 1 with fail
 obtain⟨v0,hC,HB0,K0⟩:=bx1 w (GE p q g h) 26
 rw[hC]
 clear hC
 refine Rp K0 HB0 [] [(6,5,L0s,some (7,LN x))] (cG 0 8 [_,_,_] [(3,7,_),(4,11,_),(5,12,_),(8,6,_)]) [(7,6)] [] [] (oc (g_ld 0 Tryz.underlying26 Z0)<|oc g_mv<|oc (g_cb ent_V2 hM.out)<|oc g_mv<|oc g_ex<|oc g_ex<|oc (g_al 0 aN)<|oc (g_sn 0 iN)<|oc g_as on) fun u1 b1_6 HB1 _ K1=>?_
 simp only[sQ] at K1⊢
 go_upto_region 2 with fail
 refine Rn K1 HB1 [(0,13,_),(1,14,_),(2,4,_)] (oc g_mv<|oc (g_bn (fun uZ=>T4 _ _ _ er 0 _ uZ hb))<|oc g_as on) fun u2 HB2 _ K2=>?_
 simp only[sQ] at K2⊢
 go_wp2
 refine bodyPost_ret (v:= .bool b) (by simp[results,Tryz.results52,go_sem,]) rfl ⟨rfl,HB2⟩
theorem vMembers(p q g h:Int)(ns:List Int)(v:Value)(w:World)(hG:GT w)(hp:In p)(hq:In q)(hns: ∀z∈ns,In z)(hl:ns.length<=50)(hv:NL w v ns):CC 52 #[GX p q g h,v] w (.bool (mlB p q ns)):=by
 have a':=hv
 obtain⟨sa,_,_,ca,rfl,_⟩:=hv
 refine vmem_core p q g h _ _ sa _ ca _ w ?_ fun u hB=>cMulG p q g h ns _ u (hG.below hB) hl hp hq (Yc hns) (a'.up hB)
 unfold mlE;cases mlB p q ns<;>rfl
theorem vpol(p q g h c re:Int)(sa sb:Option Addr)(n m ca cb:Nat)(b:Bool)(w:World)(hR:Hid (re=if c !=0 then 90 else if ((n:Int) !=(m:Int)) then 110 else if b then 0 else 110))(hC:Hid (∀u,CC 50 #[GX p q g h] u (iI c)))(hZ:Hid (∀u,CC 51 #[iI (n:Int)] u (.bool b))):
 CC 34 #[GX p q g h,.slice sa n ca,.slice sb m cb] w (iI re):=by
 go_enter Tryz.func34,Tryz.ntmps34
 go_upto_region 1 with fail
 obtain⟨v0,hC,HB0,K0⟩:=bx1 w (GE p q g h) 26
 rw[hC]
 clear hC
 cases hc:(c !=0)
 ·skip
  refine Rn K0 HB0 (cG 0 8 [_,_,_] [(3,7,_)]) (oc (g_ld 0 Tryz.underlying26 Z0)<|oc (g_cl Ux hC.out)<|oc (g_bn (fun uZ=>Zw _ _ _ c 0 _ uZ hc))<|oc g_as on) fun u1 HB1 sz1 K1=>?_
  simp only[sQ] at K1⊢
  cases hlen:((n:Int) !=(m:Int))
  ·skip
   go_upto_region 2 with fail
   refine Rn K1 HB1 (cG 0 12 [_,_,_,_,_] [(5,11,_)]) (oc g_mv<|oc (g_ln Tryz.underlying27)<|oc g_mv<|oc (g_ln Tryz.underlying27)<|oc (g_bn (fun uZ=>Zw _ _ _ (n:Int) (m:Int) _ uZ hlen))<|oc g_as on) fun u2 HB2 sz2 K2=>?_
   simp only[sQ] at K2⊢
   cases b
   ·skip
    go_upto_region 3 with fail
    refine Rn K2 HB2 (cG 0 18 [_,_,_,_] [(4,17,_)]) (oc g_mv<|oc (g_ln Tryz.underlying27)<|oc (g_cl Yy hZ.out)<|oc (g_un Ue)<|oc g_as on) fun u3 HB3 sz3 K3=>?_
    simp only[sQ] at K3⊢
    go_upto_region 5 with fail
    refine Rn K3 HB3 [(0,6,_)] (oc g_as on) fun u4 HB4 sz4 K4=>?_
    simp only[sQ] at K4⊢
    go_wp2
    refine bodyPost_ret (v:=iI 110) (by simp[results,Tryz.results34,go_sem,]) rfl ⟨by rw[hR.out,hc,hlen];rfl,HB4⟩
   ·skip
    go_upto_region 3 with fail
    refine Rn K2 HB2 (cG 0 18 [_,_,_,_] [(4,17,_)]) (oc g_mv<|oc (g_ln Tryz.underlying27)<|oc (g_cl Yy hZ.out)<|oc (g_un Vj)<|oc g_as on) fun u3 HB3 sz3 K3=>?_
    simp only[sQ] at K3⊢
    go_upto_region 6 with fail
    refine Rn K3 HB3 [(0,6,_)] (oc g_as on) fun u4 HB4 sz4 K4=>?_
    simp only[sQ] at K4⊢
    go_wp2
    refine bodyPost_ret (v:=iI 0) (by simp[results,Tryz.results34,go_sem,]) rfl ⟨by rw[hR.out,hc,hlen];rfl,HB4⟩
  ·skip
   go_upto_region 2 with fail
   refine Rn K1 HB1 (cG 0 12 [_,_,_,_,_] [(5,11,_)]) (oc g_mv<|oc (g_ln Tryz.underlying27)<|oc g_mv<|oc (g_ln Tryz.underlying27)<|oc (g_bn (fun uZ=>Zw _ _ _ (n:Int) (m:Int) _ uZ hlen))<|oc g_as on) fun u2 HB2 sz2 K2=>?_
   simp only[sQ] at K2⊢
   go_upto_region 5 with fail
   refine Rn K2 HB2 [(0,6,_)] (oc g_as on) fun u3 HB3 sz3 K3=>?_
   simp only[sQ] at K3⊢
   go_wp2
   refine bodyPost_ret (v:=iI 110) (by simp[results,Tryz.results34,go_sem,]) rfl ⟨by rw[hR.out,hc,hlen];rfl,HB3⟩
 ·skip
  refine Rn K0 HB0 (cG 0 8 [_,_,_] [(3,7,_)]) (oc (g_ld 0 Tryz.underlying26 Z0)<|oc (g_cl Ux hC.out)<|oc (g_bn (fun uZ=>Zw _ _ _ c 0 _ uZ hc))<|oc g_as on) fun u1 HB1 sz1 K1=>?_
  simp only[sQ] at K1⊢
  go_upto_region 4 with fail
  refine Rn K1 HB1 [(0,6,_)] (oc g_as on) fun u2 HB2 sz2 K2=>?_
  simp only[sQ] at K2⊢
  go_wp2
  refine bodyPost_ret (v:=iI 90) (by simp[results,Tryz.results34,go_sem,]) rfl ⟨by rw[hR.out,hc];rfl,HB2⟩
def plE(p q:Int)(n m:Nat):Int:=if gOk p q then (if shB n m then 0 else 110) else 90
theorem vPolys(p q g h:Int)(sa sb:Option Addr)(n m ca cb:Nat)(w:World)(hp:In p)(hq:In q):CC 34 #[GX p q g h,.slice sa n ca,.slice sb m cb] w (iI (plE p q n m)):=by
 refine vpol p q g h _ _ sa sb n m ca cb _ w ?_ (fun u=>cCheckG p q g h u hp hq) (fun u=>vSize (n:Int) u)
 show _=_
 unfold chE plE
 by_cases c1:gOk p q
 ·by_cases c2:n=m
  ·subst c2
   simp[c1,shB]
   by_cases c3:1<=n/\n<=6
   ·rw[if_pos c3,if_pos (by omega)]
   ·rw[if_neg c3,if_neg (by omega)]
  ·have:((n:Int) !=(m:Int))=true:=by rw[bne_iff_ne];omega
   simp[c1,c2,shB,this]
 ·simp[c1]
theorem vchk(p q g h d c re:Int)(sl:Option Addr)(cap n:Nat)(b1 b2 b3:Bool)(w:World)(hR:Hid (re=if c !=0 then 90 else if b1&&b2&&b3 then 0 else 110))(hC:Hid (∀u,CC 50 #[GX p q g h] u (iI c)))(hN:Hid (∀u,CC 35 #[iI d] u (.bool b1)))(hZ:Hid (∀u,CC 51 #[iI (n:Int)] u (.bool b2)))(hM:Hid (∀u,Bw w u->CC 52 #[GX p q g h,.slice sl n cap] u (.bool b3))):
 CC 19 #[GX p q g h,DX d (.slice sl n cap)] w (iI re):=by
 go_enter Tryz.func19,Tryz.ntmps19
 go_upto_region 1 with fail
 obtain⟨v0,hC,HB0,K0⟩:=bx2 w (GE p q g h) 26 (DE d (.slice sl n cap)) 30
 rw[hC]
 clear hC
 cases hc:(c !=0)
 ·skip
  refine Rn K0 HB0 (cG 0 6 [_,_,_] [(3,5,_)]) (oc (g_ld 0 Tryz.underlying26 Z0)<|oc (g_cl Ux hC.out)<|oc (g_bn (fun uZ=>Zw _ _ _ c 0 _ uZ hc))<|oc g_as on) fun u1 HB1 sz1 K1=>?_
  simp only[sQ] at K1⊢
  cases b1
  ·skip
   go_upto_region 2 with fail
   refine Rn K1 HB1 (cG 0 10 [_,_,_,_] [(4,9,_)]) (oc (g_fd (fdD0 _))<|oc (g_lc 1 0 lI)<|oc (g_cl Zj hN.out)<|oc (g_un Ue)<|oc g_as on) fun u2 HB2 sz2 K2=>?_
   simp only[sQ] at K2⊢
   go_upto_region 6 with fail
   refine Rn K2 HB2 [(0,4,_)] (oc g_as on) fun u3 HB3 sz3 K3=>?_
   simp only[sQ] at K3⊢
   go_wp2
   refine bodyPost_ret (v:=iI 110) (by simp[results,Tryz.results19,go_sem,]) rfl ⟨by rw[hR.out,hc];rfl,HB3⟩
  ·skip
   go_upto_region 2 with fail
   refine Rn K1 HB1 (cG 0 10 [_,_,_,_] [(4,9,_)]) (oc (g_fd (fdD0 _))<|oc (g_lc 1 0 lI)<|oc (g_cl Zj hN.out)<|oc (g_un Vj)<|oc g_as on) fun u2 HB2 sz2 K2=>?_
   simp only[sQ] at K2⊢
   cases b2
   ·skip
    go_upto_region 3 with fail
    refine Rn K2 HB2 (cG 0 15 [_,_,_,_,_] [(5,14,_)]) (oc (g_fd (fdD1 _))<|oc (g_lc 1 1 lSN)<|oc (g_ln Tryz.underlying27)<|oc (g_cl Yy hZ.out)<|oc (g_un Ue)<|oc g_as on) fun u3 HB3 sz3 K3=>?_
    simp only[sQ] at K3⊢
    go_upto_region 6 with fail
    refine Rn K3 HB3 [(0,4,_)] (oc g_as on) fun u4 HB4 sz4 K4=>?_
    simp only[sQ] at K4⊢
    go_wp2
    refine bodyPost_ret (v:=iI 110) (by simp[results,Tryz.results19,go_sem,]) rfl ⟨by rw[hR.out,hc];rfl,HB4⟩
   ·skip
    go_upto_region 3 with fail
    refine Rn K2 HB2 (cG 0 15 [_,_,_,_,_] [(5,14,_)]) (oc (g_fd (fdD1 _))<|oc (g_lc 1 1 lSN)<|oc (g_ln Tryz.underlying27)<|oc (g_cl Yy hZ.out)<|oc (g_un Vj)<|oc g_as on) fun u3 HB3 sz3 K3=>?_
    simp only[sQ] at K3⊢
    cases b3
    ·skip
     go_upto_region 4 with fail
     refine Rn K3 HB3 (cG 0 21 [_,_,_,_,_] [(5,20,_)]) (oc (g_ld 0 Tryz.underlying26 Z0)<|oc (g_fd (fdD1 _))<|oc (g_lc 1 1 lSN)<|oc (g_cb Xm hM.out)<|oc (g_un Ue)<|oc g_as on) fun u4 HB4 sz4 K4=>?_
     simp only[sQ] at K4⊢
     go_upto_region 6 with fail
     refine Rn K4 HB4 [(0,4,_)] (oc g_as on) fun u5 HB5 sz5 K5=>?_
     simp only[sQ] at K5⊢
     go_wp2
     refine bodyPost_ret (v:=iI 110) (by simp[results,Tryz.results19,go_sem,]) rfl ⟨by rw[hR.out,hc];rfl,HB5⟩
    ·skip
     go_upto_region 4 with fail
     refine Rn K3 HB3 (cG 0 21 [_,_,_,_,_] [(5,20,_)]) (oc (g_ld 0 Tryz.underlying26 Z0)<|oc (g_fd (fdD1 _))<|oc (g_lc 1 1 lSN)<|oc (g_cb Xm hM.out)<|oc (g_un Vj)<|oc g_as on) fun u4 HB4 sz4 K4=>?_
     simp only[sQ] at K4⊢
     go_upto_region 7 with fail
     refine Rn K4 HB4 [(0,4,_)] (oc g_as on) fun u5 HB5 sz5 K5=>?_
     simp only[sQ] at K5⊢
     go_wp2
     refine bodyPost_ret (v:=iI 0) (by simp[results,Tryz.results19,go_sem,]) rfl ⟨by rw[hR.out,hc];rfl,HB5⟩
 ·skip
  refine Rn K0 HB0 (cG 0 6 [_,_,_] [(3,5,_)]) (oc (g_ld 0 Tryz.underlying26 Z0)<|oc (g_cl Ux hC.out)<|oc (g_bn (fun uZ=>Zw _ _ _ c 0 _ uZ hc))<|oc g_as on) fun u1 HB1 sz1 K1=>?_
  simp only[sQ] at K1⊢
  go_upto_region 5 with fail
  refine Rn K1 HB1 [(0,4,_)] (oc g_as on) fun u2 HB2 sz2 K2=>?_
  simp only[sQ] at K2⊢
  go_wp2
  refine bodyPost_ret (v:=iI 90) (by simp[results,Tryz.results19,go_sem,]) rfl ⟨by rw[hR.out,hc];rfl,HB2⟩
theorem vCheck(p q g h d:Int)(ns:List Int)(v:Value)(w:World)(hG:GT w)(hp:In p)(hq:In q)(hv:NL w v ns)(hns: ∀z∈ns,In z)(hl:ns.length<=50):CC 19 #[GX p q g h,DX d v] w (iI (dcE p q d ns)):=by
 have a':=hv
 obtain⟨sl,gb,go,cap,rfl,_⟩:=hv
 refine vchk p q g h d _ _ sl cap _ _ _ _ w ?_ (fun u=>cCheckG p q g h u hp hq) (fun u=>vNode d u) (fun u=>vSize (ns.length:Int) u) (fun u (hB:Bw w u)=>vMembers p q g h ns _ u (hG.below hB) hp hq hns hl (a'.up hB))
 show _=_
 unfold chE dcE mlB ndB
 have e1:decide (1<=ns.length/\ns.length<=6)=decide (1<=(ns.length:Int)/\(ns.length:Int)<=6):=by rw[decide_eq_decide];omega
 rw[e1]
 by_cases c1:gOk p q
 ·rw[if_pos c1,if_pos c1,decide_eq_true c1,Bool.true_and];rfl
 ·rw[if_neg c1,if_neg c1];rfl
theorem vshr_c(p q g h nd c:Int)(sa sb:Option Addr)(n m ca cb:Nat)(w:World)(hc:(c !=0)=true)(hP:Hid (∀u,CC 34 #[GX p q g h,.slice sa n ca,.slice sb m cb] u (iI c))):
 CC 12 #[GX p q g h,iI nd,.slice sa n ca,.slice sb m cb] w (.tuple #[SZ,iI c]):=by
 go_enter Tryz.func12,Tryz.ntmps12
 go_upto_region 1 with fail
 obtain⟨v0,hC,HB0,K0⟩:=bx2 w (GE p q g h) 26 L0h 35
 rw[hC]
 clear hC
 refine Rn K0 HB0 (cG 0 15 [_,_,_,_] [(4,10,_)]) (oc (g_ld 0 Tryz.underlying26 Z0)<|oc g_mv<|oc g_mv<|oc (g_cl Zk hP.out)<|oc g_as on) fun u1 HB1 _ K1=>?_
 simp only[sQ] at K1⊢
 go_upto_region 2 with fail
 refine Rn K1 HB1 [(0,20,_),(1,21,_),(2,19,_)] (oc g_mv<|oc (g_bn (fun uZ=>Zw _ _ _ c 0 _ uZ hc))<|oc g_as on) fun u2 HB2 _ K2=>?_
 simp only[sQ] at K2⊢
 go_upto_region 3 with fail
 refine Rp K2 HB2 [.no,.all 2 L0h] [] [(0,22,_),(1,23,_),(3,9,_)] [] [] [] (oc (g_bd zSh)<|oc g_mv<|oc (g_st 1 Zb)<|oc g_as on) fun u3 HB3 _ K3=>?_
 simp only[sQ] at K3⊢
 have c8_0:=((K3.cv 1) 0 _ rfl).1
 have c8_1:=((K3.cv 1) 1 _ rfl).1
 have c8_2:=((K3.cv 1) 2 _ rfl).1
 have c8_3:=((K3.cv 1) 3 _ rfl).1
 have c8_4:=((K3.cv 1) 4 _ rfl).1
 have c8_5:=((K3.cv 1) 5 _ rfl).1
 have c8_6:=((K3.cv 1) 6 _ rfl).1
 have c8_7:=((K3.cv 1) 7 _ rfl).1
 have c8_8:=((K3.cv 1) 8 _ rfl).1
 go_wp2
 refine bodyPost_ret (v:= .tuple #[SZ,iI c]) (by simp[results,Tryz.results12,go_sem,c8_0,c8_1,c8_2,c8_3,c8_4,c8_5,c8_6,c8_7,c8_8]) rfl ⟨rfl,HB3⟩
theorem vshr_n(p q g h nd:Int)(sa sb:Option Addr)(n m ca cb:Nat)(w:World)(hP:Hid (∀u,CC 34 #[GX p q g h,.slice sa n ca,.slice sb m cb] u (iI 0)))(hN:Hid (∀u,CC 35 #[iI nd] u (.bool false))):
 CC 12 #[GX p q g h,iI nd,.slice sa n ca,.slice sb m cb] w (.tuple #[SZ,iI 2]):=by
 go_enter Tryz.func12,Tryz.ntmps12
 go_upto_region 1 with fail
 obtain⟨v0,hC,HB0,K0⟩:=bx2 w (GE p q g h) 26 L0h 35
 rw[hC]
 clear hC
 refine Rn K0 HB0 (cG 0 15 [_,_,_,_] [(4,10,_)]) (oc (g_ld 0 Tryz.underlying26 Z0)<|oc g_mv<|oc g_mv<|oc (g_cl Zk hP.out)<|oc g_as on) fun u1 HB1 _ K1=>?_
 simp only[sQ] at K1⊢
 go_upto_region 2 with fail
 refine Rn K1 HB1 [(0,20,_),(1,21,_),(2,19,_)] (oc g_mv<|oc (g_bn (fun uZ=>Zw _ _ _ 0 0 _ uZ rfl))<|oc g_as on) fun u2 HB2 _ K2=>?_
 simp only[sQ] at K2⊢
 go_upto_region 4 with fail
 refine Rn K2 HB2 (cG 0 25 [_,_,_] [(3,24,_)]) (oc g_mv<|oc (g_cl Zj hN.out)<|oc (g_un Ue)<|oc g_as on) fun u3 HB3 _ K3=>?_
 simp only[sQ] at K3⊢
 go_upto_region 5 with fail
 refine Rp K3 HB3 [.no,.all 1 L0h] [] [(0,28,_),(2,9,_)] [] [] [] (oc (g_bd zSh)<|oc (g_st 1 Zb)<|oc g_as on) fun u4 HB4 _ K4=>?_
 simp only[sQ] at K4⊢
 have c8_0:=((K4.cv 1) 0 _ rfl).1
 have c8_1:=((K4.cv 1) 1 _ rfl).1
 have c8_2:=((K4.cv 1) 2 _ rfl).1
 have c8_3:=((K4.cv 1) 3 _ rfl).1
 have c8_4:=((K4.cv 1) 4 _ rfl).1
 have c8_5:=((K4.cv 1) 5 _ rfl).1
 have c8_6:=((K4.cv 1) 6 _ rfl).1
 have c8_7:=((K4.cv 1) 7 _ rfl).1
 have c8_8:=((K4.cv 1) 8 _ rfl).1
 go_wp2
 refine bodyPost_ret (v:= .tuple #[SZ,iI 2]) (by simp[results,Tryz.results12,go_sem,c8_0,c8_1,c8_2,c8_3,c8_4,c8_5,c8_6,c8_7,c8_8]) rfl ⟨rfl,HB4⟩
theorem vshr_k(p q g h nd x y e1 e2:Int)(sa sb:Option Addr)(n m ca cb:Nat)(w:World)(h0:0<=nd)(h1:nd<=16)(hP:Hid (∀u,CC 34 #[GX p q g h,.slice sa n ca,.slice sb m cb] u (iI 0)))(hN:Hid (∀u,CC 35 #[iI nd] u (.bool true)))(hE1:Hid (∀u,Bw w u->CC 42 #[NV q,.slice sa n ca,NV nd] u (.tuple #[NV x,iI e1])))(hE2:Hid (∀u,Bw w u->CC 42 #[NV q,.slice sb m cb,NV nd] u (.tuple #[NV y,iI e2]))):
 CC 12 #[GX p q g h,iI nd,.slice sa n ca,.slice sb m cb] w (.tuple #[SX nd x y,iI 0]):=by
 go_enter Tryz.func12,Tryz.ntmps12
 go_upto_region 1 with fail
 obtain⟨v0,hC,HB0,K0⟩:=bx2 w (GE p q g h) 26 L0h 35
 rw[hC]
 clear hC
 refine Rn K0 HB0 (cG 0 15 [_,_,_,_] [(4,10,_)]) (oc (g_ld 0 Tryz.underlying26 Z0)<|oc g_mv<|oc g_mv<|oc (g_cl Zk hP.out)<|oc g_as on) fun u1 HB1 _ K1=>?_
 simp only[sQ] at K1⊢
 go_upto_region 2 with fail
 refine Rn K1 HB1 [(0,20,_),(1,21,_),(2,19,_)] (oc g_mv<|oc (g_bn (fun uZ=>Zw _ _ _ 0 0 _ uZ rfl))<|oc g_as on) fun u2 HB2 _ K2=>?_
 simp only[sQ] at K2⊢
 go_upto_region 4 with fail
 refine Rn K2 HB2 (cG 0 25 [_,_,_] [(3,24,_)]) (oc g_mv<|oc (g_cl Zj hN.out)<|oc (g_un Vj)<|oc g_as on) fun u3 HB3 _ K3=>?_
 simp only[sQ] at K3⊢
 go_upto_region 6 with fail
 refine Rd K3 HB3 [] [(9,11,L0s,some (10,LN x))] (cG 0 30 [_,_,_,_,_,_] [(6,29,_),(7,36,_),(8,37,_),(11,12,_)]) [(10,9)] [] [] (oc (g_fd (fdG1 _))<|oc (g_lo 0 4 uN iN)<|oc g_mv<|oc g_mv<|oc (g_cl Yx (fun uZ=>vNumber nd uZ h0 (by omega)))<|oc (g_cb ent_V3 hE1.out)<|oc g_mv<|oc g_ex<|oc g_ex<|oc (g_al 0 aN)<|oc (g_sn 0 iN)<|oc g_as on) fun u4 b4_9 HB4 _ K4=>?_
 simp only[sQ] at K4⊢
 go_upto_region 7 with fail
 refine Rd K4 HB4 [] [(9,13,L0s,some (10,LN y))] (cG 0 39 [_,_,_,_,_,_] [(6,38,_),(7,45,_),(8,46,_),(11,14,_)]) [(10,9)] [] [] (oc (g_fd (fdG1 _))<|oc (g_lo 0 4 uN iN)<|oc g_mv<|oc g_mv<|oc (g_cl Yx (fun uZ=>vNumber nd uZ h0 (by omega)))<|oc (g_cb ent_V3 hE2.out)<|oc g_mv<|oc g_ex<|oc g_ex<|oc (g_al 0 aN)<|oc (g_sn 0 iN)<|oc g_as on) fun u5 b5_9 HB5 _ K5=>?_
 simp only[sQ] at K5⊢
 go_upto_region 8 with fail
 refine Rp K5 HB5 [.no,.all 4 (SE nd x y)] [] (cG 0 47 [_,_,_,_] [(5,9,_)]) [] [] [] (oc g_mv<|oc (g_ld 2 uN iN)<|oc (g_ld 3 uN iN)<|oc (g_bd (bdSh nd x y))<|oc (g_st 1 Zb)<|oc g_as on) fun u6 HB6 _ K6=>?_
 simp only[sQ] at K6⊢
 have c8_0:=((K6.cv 1) 0 _ rfl).1
 have c8_1:=((K6.cv 1) 1 _ rfl).1
 have c8_2:=((K6.cv 1) 2 _ rfl).1
 have c8_3:=((K6.cv 1) 3 _ rfl).1
 have c8_4:=((K6.cv 1) 4 _ rfl).1
 have c8_5:=((K6.cv 1) 5 _ rfl).1
 have c8_6:=((K6.cv 1) 6 _ rfl).1
 have c8_7:=((K6.cv 1) 7 _ rfl).1
 have c8_8:=((K6.cv 1) 8 _ rfl).1
 go_wp2
 refine bodyPost_ret (v:= .tuple #[SX nd x y,iI 0]) (by simp[results,Tryz.results12,go_sem,c8_0,c8_1,c8_2,c8_3,c8_4,c8_5,c8_6,c8_7,c8_8]) rfl ⟨rfl,HB6⟩
theorem vShare(p q g h nd:Int)(ss ts:List Int)(v v2:Value)(w:World)(hG:GP w)(hp:In p)(hq:In q)(hv:NL w v ss)(hv2:NL w v2 ts)(hs: ∀z∈ss,In z)(ht: ∀z∈ts,In z):CC 12 #[GX p q g h,iI nd,v,v2] w (.tuple #[shV p q nd ss ts,iI (shO p q nd ss ts)]):=by
 have a':=hv
 have b':=hv2
 obtain⟨sa,ga,oa,ca,rfl,_⟩:=hv
 obtain⟨sb,gb,ob,cb,rfl,_⟩:=hv2
 have hP:=fun u=>vPolys p q g h sa sb ss.length ts.length ca cb u hp hq
 have hN:=fun u=>vNode nd u
 unfold plE at hP
 by_cases c1:gOk p q
 ·simp only[if_pos c1] at hP
  by_cases c2:shB ss.length ts.length=true
  ·simp only[if_pos c2] at hP
   by_cases c3:ndB nd=true
   ·rw[show decide (1<=nd/\nd<=16)=true from c3] at hN
    have hb:=ndB_iff.1 c3
    have hb2:=shB_iff.1 c2
    have hq3:=c1.q3
    have e0:shO p q nd ss ts=0:=by simp[shO,c1,c2,c3]
    rw[shV,if_pos e0,e0]
    exact vshr_k p q g h nd _ _ _ _ sa sb _ _ ca cb w (by omega) (by omega) hP hN (fun u hB=>cEval q nd ss _ u (hG.below hB) hq (by omega) ⟨by omega,by omega⟩ (a'.up hB) hs (by omega) (by omega)) (fun u hB=>cEval q nd ts _ u (hG.below hB) hq (by omega) ⟨by omega,by omega⟩ (b'.up hB) ht (by omega) (by omega))
   ·rw[Bool.not_eq_true] at c3
    rw[show decide (1<=nd/\nd<=16)=false from c3] at hN
    have e0:shO p q nd ss ts=2:=by simp[shO,c1,c2,c3]
    rw[shV,e0]
    exact vshr_n p q g h nd sa sb _ _ ca cb w hP hN
  ·simp only[if_neg c2] at hP
   have e0:shO p q nd ss ts=110:=by simp[shO,c1,c2]
   rw[shV,e0]
   exact vshr_c p q g h nd _ sa sb _ _ ca cb w (by decide) hP
 ·simp only[if_neg c1] at hP
  have e0:shO p q nd ss ts=90:=by simp[shO,c1]
  rw[shV,e0]
  exact vshr_c p q g h nd _ sa sb _ _ ca cb w (by decide) hP
end
end Go.Proofs.YtmoimodkopjeeaaGreatDoor
