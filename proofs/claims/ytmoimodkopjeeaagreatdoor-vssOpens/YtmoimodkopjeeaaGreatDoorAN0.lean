import Derived.Test.YtmoimodkopjeeaaGreatDoorCTG
import Derived.Test.YtmoimodkopjeeaaGreatDoorAF0
import Derived.Test.YtmoimodkopjeeaaGreatDoorRN5
namespace Go.Proofs.YtmoimodkopjeeaaGreatDoor
set_option linter.unusedVariables false
set_option linter.unusedSimpArgs false
set_option maxRecDepth 100000
set_option maxHeartbeats 4000000
section
theorem Xl(n m:Int)(k:Nat):(n%m)^k%m=n^k%m:=by
 induction k with
 | zero=>rw[Int.pow_zero,Int.pow_zero]
 | succ k ih=>rw[Int.pow_succ,Int.pow_succ,Int.mul_emod,ih,Int.emod_emod,<-Int.mul_emod]
theorem mul_powG(a b:Int)(k:Nat):(a*b)^k=a^k*b^k:=by
 induction k with
 | zero=>rw[Int.pow_zero,Int.pow_zero,Int.pow_zero,Int.one_mul]
 | succ k ih=>rw[Int.pow_succ,Int.pow_succ,Int.pow_succ,ih];grind
def gOk(p q:Int):Prop:=p=2*q+1/\7<=p
def Mb(p q x:Int):Prop:=0<x/\x<p/\x^q.toNat%p=1
instance (p q:Int):Decidable (gOk p q):=by unfold gOk;infer_instance
instance (p q x:Int):Decidable (Mb p q x):=by unfold Mb;infer_instance
theorem gOk.q3{p q:Int}(h:gOk p q):3<=q:=by have:=h.1;have:=h.2;omega
theorem pow_red{x p:Int}{Q:Nat}(h1:1<p)(h:x^Q%p=1)(n:Nat):x^n%p=x^(n%Q)%p:=by
 have e:x^n=(x^Q)^(n/Q)*x^(n%Q):=by rw[<-Int.pow_mul,<-Int.pow_add,Nat.div_add_mod]
 rw[e,Int.mul_emod,<-Xl,h,Int.one_pow,<-Int.mul_emod,Int.one_mul]
theorem Vi{p:Int}(h:1<p):(1:Int)%p=1:=Int.emod_eq_of_lt (by omega) h
theorem Mb.nz{p q x:Int}(hg:gOk p q)(h:x^q.toNat%p=1):x%p≠0:=fun e=>by
 have h3:=hg.q3
 have h2:(x%p)^q.toNat%p=1:=by rw[Xl];exact h
 obtain⟨k,hk⟩: ∃k,q.toNat=k+1:=⟨q.toNat -1,by omega⟩
 rw[e,hk,Int.pow_succ,Int.mul_zero,Int.zero_emod] at h2
 cases h2
theorem Mb.of{p q x:Int}(hg:gOk p q)(h:x^q.toNat%p=1):Mb p q (x%p):=by
 have h7:=hg.2
 have h1:=Int.emod_nonneg x (show p≠0 by omega)
 have h2:=Int.emod_lt_of_pos x (show 0<p by omega)
 have h3:=Mb.nz hg h
 exact⟨by omega,h2,by rw[Xl];exact h⟩
theorem Mb.mul{p q x y:Int}(hg:gOk p q)(hx:Mb p q x)(hy:Mb p q y):Mb p q (x*y%p):=by
 refine Mb.of hg ?_
 rw[mul_powG,Int.mul_emod,hx.2.2,hy.2.2,Int.one_mul]
 exact Vi (by have:=hg.2;omega)
theorem Mb.pow{p q x:Int}(hg:gOk p q)(hx:Mb p q x)(n:Nat):Mb p q (x^n%p):=by
 refine Mb.of hg ?_
 rw[<-Int.pow_mul,Nat.mul_comm,Int.pow_mul,<-Xl,hx.2.2,Int.one_pow]
 exact Vi (by have:=hg.2;omega)
def invN(p q x:Int):Int:=x^(q.toNat -1)%p
theorem Mb.inv{p q x:Int}(hg:gOk p q)(hx:Mb p q x):IsInv (x%p) p (invN p q x):=by
 have h7:=hg.2
 have h3:=hg.q3
 have hxx:x%p=x:=Int.emod_eq_of_lt (by have:=hx.1;omega) hx.2.1
 refine⟨Int.emod_nonneg _ (by omega),Int.emod_lt_of_pos _ (by omega),?_⟩
 rw[hxx]
 have e:invN p q x*x%p=1:=by
  unfold invN
  rw[Int.mul_emod,Int.emod_emod,<-Int.mul_emod,<-Int.pow_succ,show (q.toNat -1).succ=q.toNat by omega];exact hx.2.2
 have:=Int.emod_add_mul_ediv (invN p q x*x) p
 rw[e] at this
 exact⟨invN p q x*x/p,by omega⟩
theorem IsInv.gcd{a m x:Int}(h:IsInv a m x)(ha:0<=a)(hm:0<m):gI m a=1:=by
 obtain⟨c,hc⟩:=h.2.2
 have h0:=h.1
 have hd1:((Nat.gcd m.toNat a.toNat:Nat):Int)∣m:=by
  have:=Int.ofNat_dvd.2 (Nat.gcd_dvd_left m.toNat a.toNat)
  rwa [Int.toNat_of_nonneg (by omega)] at this
 have hd2:((Nat.gcd m.toNat a.toNat:Nat):Int)∣a:=by
  have:=Int.ofNat_dvd.2 (Nat.gcd_dvd_right m.toNat a.toNat)
  rwa [Int.toNat_of_nonneg ha] at this
 have hd:((Nat.gcd m.toNat a.toNat:Nat):Int)∣1:=by
  have e:(1:Int)=x*a -m*c:=by omega
  rw[e]
  exact Int.dvd_sub (Int.dvd_mul_of_dvd_right hd2) (Int.dvd_mul_of_dvd_left hd1)
 unfold gI
 have:=Int.le_of_dvd (by decide) hd
 have hp:0<Nat.gcd m.toNat a.toNat:=Nat.gcd_pos_of_pos_left _ (by omega)
 omega
end
section
open Go.RowKit
theorem W0:EnT 37:=fun _ _=>by kernel_rfl
theorem In_7:In 7:=⟨by omega,by omega⟩
def chE(p q:Int):Int:=if gOk p q then 0 else 90
theorem xchk_o(p q g h:Int)(w:World)(hp:In p)(hq:In q)(i2:In (q+q -0x10000000000000000000000000000000000000000000000000000000000000000))(h2:0x10000000000000000000000000000000000000000000000000000000000000000<=q+q):
 CC 37 #[GX p q g h] w (iI 90):=by
 go_enter Tryz.func37,Tryz.ntmps37
 go_upto_region 1 with fail
 obtain⟨v0,hC,HB0,K0⟩:=bx1 w (GE p q g h) 26
 rw[hC]
 clear hC
 refine Rp K0 HB0 [] [(8,3,L0s,some (9,LN (q+q -0x10000000000000000000000000000000000000000000000000000000000000000)))] (cG 0 8 [_,_,_,_,_] [(5,7,_),(6,13,_),(7,14,_),(10,4,_)]) [(9,8)] [] [false] (oc (g_fd (fdG1 _))<|oc (g_lo 0 4 uN iN)<|oc (g_fd (fdG1 _))<|oc (g_lo 0 4 uN iN)<|oc (g_cl Z2 (fun uZ=>nrAdd_ge q q uZ hq hq h2))<|oc g_mv<|oc g_ex<|oc g_ex<|oc (g_al 0 aN)<|oc (g_sn 0 iN)<|oc g_as on) fun u1 b1_8 HB1 _ K1=>?_
 simp only[sQ] at K1⊢
 go_upto_region 2 with fail
 refine Rp K1 HB1 [] [(6,5,L0s,some (7,LN (q+q -0x10000000000000000000000000000000000000000000000000000000000000000+1)))] (cG 0 16 [_,_,_] [(3,15,_),(4,19,_),(5,20,_),(8,6,_)]) [(7,6)] [] [false,false] (oc (g_ld 0 uN iN)<|oc (g_bd (fun uZ=>bdX 1 (by omega) (by omega) uZ))<|oc (g_cl Z2 (fun uZ=>nrAdd (q+q -0x10000000000000000000000000000000000000000000000000000000000000000) 1 uZ i2 In_1))<|oc g_mv<|oc g_ex<|oc g_ex<|oc (g_al 0 aN)<|oc (g_sn 0 iN)<|oc g_as on) fun u2 b2_6 HB2 _ K2=>?_
 simp only[sQ] at K2⊢
 go_upto_region 3 with fail
 refine Rn K2 HB2 (cG 0 21 [_,_,undef,_,_,undef,undef,undef,undef,_,_,undef,undef,undef,undef,undef,_,_,undef,undef,undef,undef,undef,_] []) (oc g_mv<|oc g_mv<|oc g_sk<|oc g_pk<|oc g_mv<|oc g_sk<|oc g_sk<|oc g_sk<|oc g_sk<|oc g_pk<|oc g_mv<|oc g_sk<|oc g_sk<|oc g_sk<|oc g_sk<|oc g_sk<|oc g_pk<|oc g_mv<|oc g_sk<|oc g_sk<|oc g_sk<|oc g_sk<|oc g_sk<|oc g_pk on) fun u3 HB3 _ K3=>?_
 simp only[sQ] at K3⊢
 go_upto_region 4 with fail
 refine Rn K3 HB3 [(0,2,_)] (oc g_as on) fun u4 HB4 _ K4=>?_
 simp only[sQ] at K4⊢
 go_wp2
 refine bodyPost_ret (v:=iI 90) (by simp[results,Tryz.results37,go_sem,]) rfl ⟨rfl,HB4⟩
theorem xchk_n(p q g h:Int)(w:World)(hp:In p)(hq:In q)(i2:In (q+q))(i3:In (q+q+1))(d0:0<=D0 p)(d1:D0 p<18446744073709551616)(h2:q+q<0x10000000000000000000000000000000000000000000000000000000000000000)(h3:q+q+1<0x10000000000000000000000000000000000000000000000000000000000000000)(h4:decide (q+q+1=p)=!true):
 CC 37 #[GX p q g h] w (iI 90):=by
 go_enter Tryz.func37,Tryz.ntmps37
 go_upto_region 1 with fail
 obtain⟨v0,hC,HB0,K0⟩:=bx1 w (GE p q g h) 26
 rw[hC]
 clear hC
 refine Rp K0 HB0 [] [(8,3,L0s,some (9,LN (q+q)))] (cG 0 8 [_,_,_,_,_] [(5,7,_),(6,13,_),(7,14,_),(10,4,_)]) [(9,8)] [] [] (oc (g_fd (fdG1 _))<|oc (g_lo 0 4 uN iN)<|oc (g_fd (fdG1 _))<|oc (g_lo 0 4 uN iN)<|oc (g_cl Z2 (fun uZ=>W9 q q uZ hq hq h2))<|oc g_mv<|oc g_ex<|oc g_ex<|oc (g_al 0 aN)<|oc (g_sn 0 iN)<|oc g_as on) fun u1 b1_8 HB1 _ K1=>?_
 simp only[sQ] at K1⊢
 go_upto_region 2 with fail
 refine Rp K1 HB1 [] [(6,5,L0s,some (7,LN (q+q+1)))] (cG 0 16 [_,_,_] [(3,15,_),(4,19,_),(5,20,_),(8,6,_)]) [(7,6)] [] [true,false] (oc (g_ld 1 uN iN)<|oc (g_bd (fun uZ=>bdX 1 (by omega) (by omega) uZ))<|oc (g_cl Z2 (fun uZ=>W9 (q+q) 1 uZ i2 In_1 h3))<|oc g_mv<|oc g_ex<|oc g_ex<|oc (g_al 0 aN)<|oc (g_sn 0 iN)<|oc g_as on) fun u2 b2_6 HB2 _ K2=>?_
 simp only[sQ] at K2⊢
 go_upto_region 3 with fail
 refine Rp K2 HB2 [] [] (cG 0 21 [_,_,_,_,_,_,_,_,_,_,_,undef,undef,undef,undef,undef,_,_,undef,undef,undef,undef,undef,_] []) [] [] [false,false] (oc g_mv<|oc g_mv<|oc g_mv<|oc g_pk<|oc g_mv<|oc (g_ld 1 uN iN)<|oc (g_fd (fdG0 _))<|oc (g_lo 0 0 uN iN)<|oc (g_bn (Vx _ _ i3 hp _ h4))<|oc g_pk<|oc g_mv<|oc g_sk<|oc g_sk<|oc g_sk<|oc g_sk<|oc g_sk<|oc g_pk<|oc g_mv<|oc g_sk<|oc g_sk<|oc g_sk<|oc g_sk<|oc g_sk<|oc g_pk on) fun u3 HB3 _ K3=>?_
 simp only[sQ] at K3⊢
 go_upto_region 4 with fail
 refine Rn K3 HB3 [(0,2,_)] (oc g_as on) fun u4 HB4 _ K4=>?_
 simp only[sQ] at K4⊢
 go_wp2
 refine bodyPost_ret (v:=iI 90) (by simp[results,Tryz.results37,go_sem,]) rfl ⟨rfl,HB4⟩
theorem xchk_7(p q g h:Int)(w:World)(hp:In p)(hq:In q)(i2:In (q+q))(i3:In (q+q+1))(d0:0<=D0 p)(d1:D0 p<18446744073709551616)(h2:q+q<0x10000000000000000000000000000000000000000000000000000000000000000)(h3:q+q+1<0x10000000000000000000000000000000000000000000000000000000000000000)(h4:decide (q+q+1=p)=!false)(h5:decide (cmpI p 7<0)=true):
 CC 37 #[GX p q g h] w (iI 90):=by
 go_enter Tryz.func37,Tryz.ntmps37
 go_upto_region 1 with fail
 obtain⟨v0,hC,HB0,K0⟩:=bx1 w (GE p q g h) 26
 rw[hC]
 clear hC
 refine Rp K0 HB0 [] [(8,3,L0s,some (9,LN (q+q)))] (cG 0 8 [_,_,_,_,_] [(5,7,_),(6,13,_),(7,14,_),(10,4,_)]) [(9,8)] [] [] (oc (g_fd (fdG1 _))<|oc (g_lo 0 4 uN iN)<|oc (g_fd (fdG1 _))<|oc (g_lo 0 4 uN iN)<|oc (g_cl Z2 (fun uZ=>W9 q q uZ hq hq h2))<|oc g_mv<|oc g_ex<|oc g_ex<|oc (g_al 0 aN)<|oc (g_sn 0 iN)<|oc g_as on) fun u1 b1_8 HB1 _ K1=>?_
 simp only[sQ] at K1⊢
 go_upto_region 2 with fail
 refine Rp K1 HB1 [] [(6,5,L0s,some (7,LN (q+q+1)))] (cG 0 16 [_,_,_] [(3,15,_),(4,19,_),(5,20,_),(8,6,_)]) [(7,6)] [] [true,false] (oc (g_ld 1 uN iN)<|oc (g_bd (fun uZ=>bdX 1 (by omega) (by omega) uZ))<|oc (g_cl Z2 (fun uZ=>W9 (q+q) 1 uZ i2 In_1 h3))<|oc g_mv<|oc g_ex<|oc g_ex<|oc (g_al 0 aN)<|oc (g_sn 0 iN)<|oc g_as on) fun u2 b2_6 HB2 _ K2=>?_
 simp only[sQ] at K2⊢
 go_upto_region 3 with fail
 refine Rp K2 HB2 [] [] (cG 0 21 [_,_,_,_,_,_,_,_,_,_,_,_,_,_,_,_,_,_,undef,undef,undef,undef,undef,_] []) [] [] [false,false] (oc g_mv<|oc g_mv<|oc g_mv<|oc g_pk<|oc g_mv<|oc (g_ld 1 uN iN)<|oc (g_fd (fdG0 _))<|oc (g_lo 0 0 uN iN)<|oc (g_bn (Vx _ _ i3 hp _ h4))<|oc g_pk<|oc g_mv<|oc (g_fd (fdG0 _))<|oc (g_lo 0 0 uN iN)<|oc (g_bd (fun uZ=>bdX 7 (by omega) (by omega) uZ))<|oc (g_cl Zn (fun uZ=>nrCompare p 7 uZ hp In_7))<|oc (g_bn (fun uZ=>Z6 _ _ (cmpI p 7) 0 _ uZ h5))<|oc g_pk<|oc g_mv<|oc g_sk<|oc g_sk<|oc g_sk<|oc g_sk<|oc g_sk<|oc g_pk on) fun u3 HB3 _ K3=>?_
 simp only[sQ] at K3⊢
 go_upto_region 4 with fail
 refine Rn K3 HB3 [(0,2,_)] (oc g_as on) fun u4 HB4 _ K4=>?_
 simp only[sQ] at K4⊢
 go_wp2
 refine bodyPost_ret (v:=iI 90) (by simp[results,Tryz.results37,go_sem,]) rfl ⟨rfl,HB4⟩
theorem xchk_k(p q g h:Int)(w:World)(hp:In p)(hq:In q)(i2:In (q+q))(i3:In (q+q+1))(d0:0<=D0 p)(d1:D0 p<18446744073709551616)(h2:q+q<0x10000000000000000000000000000000000000000000000000000000000000000)(h3:q+q+1<0x10000000000000000000000000000000000000000000000000000000000000000)(h4:decide (q+q+1=p)=!false)(h5:decide (cmpI p 7<0)=false)(h6:(D0 p%2==0)=false):
 CC 37 #[GX p q g h] w (iI 0):=by
 go_enter Tryz.func37,Tryz.ntmps37
 go_upto_region 1 with fail
 obtain⟨v0,hC,HB0,K0⟩:=bx1 w (GE p q g h) 26
 rw[hC]
 clear hC
 refine Rp K0 HB0 [] [(8,3,L0s,some (9,LN (q+q)))] (cG 0 8 [_,_,_,_,_] [(5,7,_),(6,13,_),(7,14,_),(10,4,_)]) [(9,8)] [] [] (oc (g_fd (fdG1 _))<|oc (g_lo 0 4 uN iN)<|oc (g_fd (fdG1 _))<|oc (g_lo 0 4 uN iN)<|oc (g_cl Z2 (fun uZ=>W9 q q uZ hq hq h2))<|oc g_mv<|oc g_ex<|oc g_ex<|oc (g_al 0 aN)<|oc (g_sn 0 iN)<|oc g_as on) fun u1 b1_8 HB1 _ K1=>?_
 simp only[sQ] at K1⊢
 go_upto_region 2 with fail
 refine Rp K1 HB1 [] [(6,5,L0s,some (7,LN (q+q+1)))] (cG 0 16 [_,_,_] [(3,15,_),(4,19,_),(5,20,_),(8,6,_)]) [(7,6)] [] [true,false] (oc (g_ld 1 uN iN)<|oc (g_bd (fun uZ=>bdX 1 (by omega) (by omega) uZ))<|oc (g_cl Z2 (fun uZ=>W9 (q+q) 1 uZ i2 In_1 h3))<|oc g_mv<|oc g_ex<|oc g_ex<|oc (g_al 0 aN)<|oc (g_sn 0 iN)<|oc g_as on) fun u2 b2_6 HB2 _ K2=>?_
 simp only[sQ] at K2⊢
 go_upto_region 3 with fail
 refine Rp K2 HB2 [] [] (cG 0 21 [_,_,_,_,_,_,_,_,_,_,_,_,_,_,_,_,_,_,_,_,_,_,_,_] []) [] [] [false,false] (oc g_mv<|oc g_mv<|oc g_mv<|oc g_pk<|oc g_mv<|oc (g_ld 1 uN iN)<|oc (g_fd (fdG0 _))<|oc (g_lo 0 0 uN iN)<|oc (g_bn (Vx _ _ i3 hp _ h4))<|oc g_pk<|oc g_mv<|oc (g_fd (fdG0 _))<|oc (g_lo 0 0 uN iN)<|oc (g_bd (fun uZ=>bdX 7 (by omega) (by omega) uZ))<|oc (g_cl Zn (fun uZ=>nrCompare p 7 uZ hp In_7))<|oc (g_bn (fun uZ=>Z6 _ _ (cmpI p 7) 0 _ uZ h5))<|oc g_pk<|oc g_mv<|oc (g_fd (fdG0 _))<|oc (g_ix (jN 0))<|oc (g_lc 0 0 lU)<|oc (g_bn (fun uZ=>rem_u _ _ (D0 p) 2 (D0 p%2) uZ d0 d1 (by omega) rfl))<|oc (g_bn (fun uZ=>eql_u _ _ _ (D0 p%2) 0 _ uZ h6))<|oc g_pk on) fun u3 HB3 _ K3=>?_
 simp only[sQ] at K3⊢
 go_upto_region 5 with fail
 refine Rn K3 HB3 [(0,2,_)] (oc g_as on) fun u4 HB4 _ K4=>?_
 simp only[sQ] at K4⊢
 go_wp2
 refine bodyPost_ret (v:=iI 0) (by simp[results,Tryz.results37,go_sem,]) rfl ⟨rfl,HB4⟩
theorem xCheckG(p q g h:Int)(w:World)(hp:In p)(hq:In q):CC 37 #[GX p q g h] w (iI (chE p q)):=by
 have hq0:=hq.1
 have hq1:=hq.2
 have hp1:=hp.2
 have e90: ¬(p=2*q+1/\7<=p)->chE p q=90:=fun h=>if_neg h
 have e0:(p=2*q+1/\7<=p)->chE p q=0:=fun h=>if_pos h
 by_cases h2:0x10000000000000000000000000000000000000000000000000000000000000000<=q+q
 ·rw[e90 (by omega)]
  exact xchk_o p q g h w hp hq ⟨by omega,by omega⟩ h2
 have hd:0<=D0 p/\D0 p<18446744073709551616:=by unfold D0;omega
 have i2:In (q+q):=⟨by omega,by omega⟩
 have i3:In (q+q+1):=⟨by omega,by omega⟩
 by_cases h4:q+q+1=p
 ·have h4':decide (q+q+1=p)=!false:=by simp[h4]
  by_cases h7:p<7
  ·rw[e90 (by omega)]
   exact xchk_7 p q g h w hp hq i2 i3 hd.1 hd.2 (by omega) (by omega) h4' (by rw[cmp_lt0];simp only[h7,decide_true])
  ·rw[e0 (by omega)]
   exact xchk_k p q g h w hp hq i2 i3 hd.1 hd.2 (by omega) (by omega) h4' (by rw[cmp_lt0];simp only[h7,decide_false]) (by rw[D0_odd];simp;omega)
 ·rw[e90 (by omega)]
  exact xchk_n p q g h w hp hq i2 i3 hd.1 hd.2 (by omega) (by omega) (by simp[h4])
def isB(p q x:Int):Bool:=decide (gOk p q/\Mb p q x)
def exPE(p q x:Int):Int:=if isB p q x then 0 else 90
def exPX(p q x e:Int):Int:=if isB p q x then x^(e%q).toNat%p else 0
theorem Ug{p q x:Int}(h:isB p q x=true):gOk p q/\Mb p q x:=of_decide_eq_true h
def coE(p q g h:Int):Int:=if isB p q g&&isB p q h then 0 else 90
def coX(p q g h s t:Int):Int:=if isB p q g&&isB p q h then g^(s%q).toNat%p*(h^(t%q).toNat%p)%p else 0
end
end Go.Proofs.YtmoimodkopjeeaaGreatDoor
