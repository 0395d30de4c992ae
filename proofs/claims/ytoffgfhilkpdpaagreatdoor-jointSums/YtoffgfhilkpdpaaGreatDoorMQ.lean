import Derived.Test.YtoffgfhilkpdpaaGreatDoorMO5
namespace Go.Proofs.YtoffgfhilkpdpaaGreatDoor
set_option linter.unusedVariables false
set_option linter.unusedSimpArgs false
set_option maxRecDepth 100000
set_option maxHeartbeats 4000000
section
theorem and_low(x:Nat)(k:Nat)(hx:x<2^k)(h0:x≠0): ∃s,s<k/\x&&&(2^k -x)=2^s/\x%2^s=0/\x/2^s%2=1:=by
 induction k generalizing x with
 | zero=>simp at hx;omega
 | succ k ih=>
  by_cases h:x%2=1
  ·refine⟨0,Z1,?_,by simp[Nat.mod_one],by simpa using h⟩
   apply Nat.eq_of_testBit_eq
   intro i
   rw[Nat.testBit_and]
   cases i with
   | zero=>
    rw[Nat.testBit_zero,Nat.testBit_zero]
    have:(2^(k+1) -x)%2=1:=by rw[Nat.pow_succ] at *;omega
    simp[h,this]
   | succ i=>
    rw[Nat.testBit_succ,Nat.testBit_succ]
    have e:(2^(k+1) -x)/2=2^k -(x/2+1):=by rw[Nat.pow_succ] at *;omega
    have tb:=Nat.testBit_two_pow_sub_succ (show x/2<2^k by rw[Nat.pow_succ] at hx;omega) i
    rw[e,tb,Nat.testBit_succ]
    cases hb:(x/2).testBit i<;>simp
  ·obtain⟨s,h1,h2,h3,h4⟩:=ih (x/2) (by rw[Nat.pow_succ] at hx;omega) Z1
   refine⟨s+1,Z1,?_,?_,?_⟩
   ·have e1:2^(k+1) -x=2*(2^k -x/2):=by rw[Nat.pow_succ];omega
    have e2:x=2*(x/2):=Z1
    rw[e1]
    conv=>lhs;lhs;rw[e2]
    apply Nat.eq_of_testBit_eq
    intro i
    rw[Nat.testBit_and]
    cases i with
    | zero=>simp[Nat.testBit_zero,Nat.pow_succ]
    | succ i=>
     rw[Nat.testBit_succ,Nat.testBit_succ,Nat.testBit_succ,Nat.mul_div_cancel_left _ Z1,Nat.mul_div_cancel_left _ Z1,Nat.pow_succ,Nat.mul_div_cancel _ Z1,<-h2,Nat.testBit_and]
   ·rw[Nat.pow_succ,Nat.mul_comm (2^s) 2]
    have:=Nat.mod_mul (a:=2) (b:=2^s) (x:=x)
    rw[this,h3];omega
   ·rw[Nat.pow_succ,Nat.mul_comm (2^s) 2,<-Nat.div_div_eq_div_mul];exact h4
theorem crt_join(A o t i x y:Int)(ho:0<o)(ht:0<t)(hx0:0<=x)(hxo:x<o)(hx:o∣A -x)(hy:t∣A -y)(hi:t∣i*o -1):x+((y -x)%t*i%t)*o=A%(o*t):=by
 have n0:t≠0:=Z1
 have e1:=Int.mul_ediv_add_emod (y -x) t
 have e2:=Int.mul_ediv_add_emod ((y -x)%t*i) t
 have h1:=Int.emod_nonneg ((y -x)%t*i) n0
 have h2:=Int.emod_lt_of_pos ((y -x)%t*i) ht
 obtain⟨p,hp⟩:=hx
 obtain⟨q,hq⟩:=hy
 obtain⟨r,hr⟩:=hi
 generalize (y -x)%t*i/t=b2 at *
 generalize (y -x)%t*i%t=k at *
 generalize (y -x)/t=b1 at *
 generalize (y -x)%t=d at *
 have hd:d=y -x -t*b1:=Z1
 have hk:k=d*i -t*b2:=Z1
 have hA: ∃z,A=x+k*o+o*t*z:=by
  have e3:o*(p -k)=t*(q+b1 -d*r+b2*o):=by
   have:A=y+t*q:=Z1
   rw[hk]
   have e4:o*p=A -x:=Z1
   grind
  refine⟨i*(q+b1 -d*r+b2*o) -r*(p -k),?_⟩
  have e5:p -k=t*(i*(q+b1 -d*r+b2*o) -r*(p -k)):=by
   have:i*o*(p -k)=i*(t*(q+b1 -d*r+b2*o)):=by rw[Int.mul_assoc,e3]
   have h6:i*o=1+t*r:=Z1
   rw[h6] at this
   grind
  have e6:A=x+o*p:=Z1
  rw[e6]
  have e7:p=k+t*(i*(q+b1 -d*r+b2*o) -r*(p -k)):=Z1
  generalize i*(q+b1 -d*r+b2*o) -r*(p -k)=z at *
  rw[e7];grind
 obtain⟨z,hz⟩:=hA
 rw[hz,Int.add_mul_emod_self_left]
 have h5:0<=k*o:=Int.mul_nonneg h1 Z1
 have h6:k*o<=(t -1)*o:=Int.mul_le_mul_of_nonneg_right Z1 Z1
 have h7:(t -1)*o=o*t -o:=by grind
 rw[Int.emod_eq_of_lt Z1 Z1]
def anI(x y:Int):Int:=((x.toNat&&&y.toNat:Nat):Int)
theorem dig_and(x y k:Nat):((x&&&y)/2^k)%2^64=(x/2^k%2^64)&&&(y/2^k%2^64):=by
 rw[Nat.and_div_two_pow,Nat.and_mod_two_pow]
theorem dI(n:Nat)(k:Nat):(((n:Int)/((2^k:Nat):Int)%18446744073709551616)).toNat=n/2^k%2^64:=by
 have:((n:Int)/((2^k:Nat):Int)%18446744073709551616)=((n/2^k%2^64:Nat):Int):=by
  rw[Int.natCast_emod,Int.natCast_ediv];rfl
 rw[this,Int.toNat_natCast]
theorem low_words(m:Int)(hm:In m)(h:m≠0): ∃s:Nat,s<256/\anI (D0 m) (D0 (0 -m+0x10000000000000000000000000000000000000000000000000000000000000000))=D0 (2^s)/\anI (D1 m) (D1 (0 -m+0x10000000000000000000000000000000000000000000000000000000000000000))=D1 (2^s)/\anI (D2 m) (D2 (0 -m+0x10000000000000000000000000000000000000000000000000000000000000000))=D2 (2^s)/\anI (D3 m) (D3 (0 -m+0x10000000000000000000000000000000000000000000000000000000000000000))=D3 (2^s)/\(2:Int)^s∣m/\m/2^s%2=1/\m%2^s=0:=by
 obtain⟨h1,h2⟩:=hm
 obtain⟨n,rfl⟩:=Int.eq_ofNat_of_zero_le h1
 have hn:n<2^256:=by
  have e:(2:Nat)^256=0x10000000000000000000000000000000000000000000000000000000000000000:=Z2
  rw[e];omega
 obtain⟨s,hs,ha,hr,hq⟩:=and_low n 256 hn Z1
 have hl:(0 -(n:Int)+0x10000000000000000000000000000000000000000000000000000000000000000)=((2^256 -n:Nat):Int):=by
  have e:(2:Nat)^256=0x10000000000000000000000000000000000000000000000000000000000000000:=Z2
  rw[e] at hn⊢;omega
 rw[hl]
 generalize hl':2^256 -n=l at *
 have hp:((2:Int)^s)=((2^s:Nat):Int):=by simp
 have w0: ∀x:Nat,D0 (x:Int)=(x:Int)/((2^0:Nat):Int)%18446744073709551616:=fun x=>by simp[D0]
 have w1: ∀x:Nat,D1 (x:Int)=(x:Int)/((2^64:Nat):Int)%18446744073709551616:=fun x=>by simp[D1]
 have w2: ∀x:Nat,D2 (x:Int)=(x:Int)/((2^128:Nat):Int)%18446744073709551616:=fun x=>by simp[D2]
 have w3: ∀x:Nat,D3 (x:Int)=(x:Int)/((2^192:Nat):Int)%18446744073709551616:=fun x=>by simp[D3]
 have key: ∀k:Nat,anI ((n:Int)/((2^k:Nat):Int)%18446744073709551616) ((l:Int)/((2^k:Nat):Int)%18446744073709551616)=((2^s:Nat):Int)/((2^k:Nat):Int)%18446744073709551616:=fun k=>by
  unfold anI
  rw[dI,dI,<-dig_and,ha,Int.natCast_emod,Int.natCast_ediv];rfl
 refine⟨s,hs,?_,?_,?_,?_,?_,?_,?_⟩
 ·rw[hp,w0,w0,w0];exact key 0
 ·rw[hp,w1,w1,w1];exact key 64
 ·rw[hp,w2,w2,w2];exact key 128
 ·rw[hp,w3,w3,w3];exact key 192
 ·rw[hp];exact Int.natCast_dvd_natCast.2 (Nat.dvd_of_mod_eq_zero hr)
 ·rw[hp,<-Int.natCast_ediv];omega
 ·rw[hp,<-Int.natCast_emod];omega
theorem pow_coprime(o:Int)(ho:o%2=1)(h0:0<o)(s:Nat):gI (2^s) (o%2^s)=1:=by
 have hp:(0:Int)<2^s:=Int.pow_pos Z2
 rw[gI_step o (2^s) Z1 Z1 Z1]
 unfold gI
 have:Nat.gcd o.toNat ((2:Int)^s).toNat=1:=by
  have e:((2:Int)^s).toNat=2^s:=by
   rw[show ((2:Int)^s)=((2^s:Nat):Int) by simp,Int.toNat_natCast]
  rw[e]
  have hc:Nat.Coprime o.toNat 2:=by
   have h1:o.toNat%2=1:=Z1
   unfold Nat.Coprime
   rw[Nat.gcd_comm,Nat.gcd_rec,h1];simp
  exact Nat.Coprime.pow_right s hc
 rw[this];rfl
theorem In_pow{s:Nat}(h:s<256):In (2^s):=by
 refine⟨Int.le_of_lt (Int.pow_pos Z2),?_⟩
 have h1:(2:Int)^s<=2^255:=by
  have:=Nat.pow_le_pow_right (show 0<2 by decide) (show s<=255 by omega)
  have e1:((2:Int)^s)=((2^s:Nat):Int):=by simp
  have e2:((2:Int)^255)=((2^255:Nat):Int):=by simp
  rw[e1,e2];omega
 have e:(2:Int)^255=0x8000000000000000000000000000000000000000000000000000000000000000:=Z2
 rw[e] at h1;omega
end
section
open Go.RowKit
theorem and_u(p q:Operand)(x y z:Int)(w:World)(hx:W64 x)(hy:W64 y)(h:anI x y=z):(do eqGuard .and 22 p q (iU x) (iU y);binOp .and 22 (iU x) (iU y):Sem Value).run Tryz.prog w= .ok (iU z) w:=by
 subst h
 have e:bits .and .u64 x y=anI x y:=by
  obtain⟨x1,x2⟩:=hx;obtain⟨y1,y2⟩:=hy
  obtain⟨x,rfl⟩:=Int.eq_ofNat_of_zero_le x1
  obtain⟨y,rfl⟩:=Int.eq_ofNat_of_zero_le y1
  unfold anI
  rw[bits_and_u64_nat x y Z1 Z1,Int.toNat_natCast,Int.toNat_natCast]
 go_simp
theorem nSub0(m:Int)(w:World)(hm:In m)(h:m≠0):CC 152 #[A4 0 0 0 0,NV m] w (.tuple #[NV (0 -m+0x10000000000000000000000000000000000000000000000000000000000000000),.bool true]):=by
 rw[<-NV_0];exact nSub_lt 0 m w In_0 hm (by have:=hm.1;omega)
theorem msplit(m:Int)(s:Nat)(w:World)(hm:In m)(h:m≠0)(hs:s<256)(h0:anI (D0 m) (D0 (0 -m+0x10000000000000000000000000000000000000000000000000000000000000000))=D0 (2^s))(h1:anI (D1 m) (D1 (0 -m+0x10000000000000000000000000000000000000000000000000000000000000000))=D1 (2^s))(h2:anI (D2 m) (D2 (0 -m+0x10000000000000000000000000000000000000000000000000000000000000000))=D2 (2^s))(h3:anI (D3 m) (D3 (0 -m+0x10000000000000000000000000000000000000000000000000000000000000000))=D3 (2^s)):
 CC 135 #[NV m] w (.tuple #[NV (m/2^s),NV (2^s)]):=by
 have hp0:(2:Int)^s≠0:=Int.ne_of_gt (Int.pow_pos Z2)
 have H0:Hid _:=h0;have H1:Hid _:=h1;have H2:Hid _:=h2;have H3:Hid _:=h3
 clear h0 h1 h2 h3
 go_enter Tryz.func135,Tryz.ntmps135
 go_upto_region 1 with fail
 obtain⟨v0,hC,HB0,K0⟩:=bx3 w (LN m) 24 L0s 24 L0s 24
 rw[hC]
 clear hC
 refine Rp K0 HB0 [] [(6,4,L0s,some (7,LN (0 -m+0x10000000000000000000000000000000000000000000000000000000000000000)))] (cG 0 8 [_,_,_] [(3,7,_),(4,11,_),(5,12,_),(8,5,_)]) [(7,6)] [] [] (Oc9 (g_bd zN) (g_ld 0 uN iN) (g_cl Yt (fun uZ=>nSub0 m uZ hm h)) g_mv g_ex g_ex (g_al 0 aN) (g_sn 0 iN) g_as) fun u1 b1_6 HB1 _ K1=>?_
 simp only[sQ] at K1⊢
 go_wp2_with fail
 refine wp_loop_rounds 5 ?_
 rw[rounds_succ]
 go_upto_region 5 with fail
 refine Rd K1 HB1 [.no,.no,.cs [(0,9,iU (D0 (2^s)))]] [] (cG 0 16 [_,_,_,_,_,_,_,_,_] []) [] [] [] (Oc10 g_mv g_mv (g_ix (jN 0)) (g_lc 0 0 lU) g_mv (g_ix (jN 0)) (g_lc 3 0 lU) (g_bn (fun uZ=>and_u _ _ (D0 m) (D0 (0 -m+0x10000000000000000000000000000000000000000000000000000000000000000)) (D0 (2^s)) uZ (W_D0 _) (W_D0 _) H0.out)) (g_ix (jN 0)) (g_sc 2 0 sU)) fun u2 HB2 _ K2=>?_
 simp only[fX,nK,nP,Wr.f,aK,pM,List.foldl,List.set_cons_zero,List.set_cons_succ] at K2
 simp only[sQ]
 go_wp2
 rw[rounds_succ]
 go_upto_region 5 with fail
 refine Rd K2 HB2 [.no,.no,.cs [(1,9,iU (D1 (2^s)))]] [] (cG 0 16 [_,_,_,_,_,_,_,_,_] []) [] [] [] (Oc10 g_mv g_mv (g_ix (jN 1)) (g_lc 0 1 lU) g_mv (g_ix (jN 1)) (g_lc 3 1 lU) (g_bn (fun uZ=>and_u _ _ (D1 m) (D1 (0 -m+0x10000000000000000000000000000000000000000000000000000000000000000)) (D1 (2^s)) uZ (W_D1 _) (W_D1 _) H1.out)) (g_ix (jN 1)) (g_sc 2 0 sU)) fun u3 HB3 _ K3=>?_
 simp only[fX,nK,nP,Wr.f,aK,pM,List.foldl,List.set_cons_zero,List.set_cons_succ] at K3
 simp only[sQ]
 go_wp2
 rw[rounds_succ]
 go_upto_region 5 with fail
 refine Rd K3 HB3 [.no,.no,.cs [(2,9,iU (D2 (2^s)))]] [] (cG 0 16 [_,_,_,_,_,_,_,_,_] []) [] [] [] (Oc10 g_mv g_mv (g_ix (jN 2)) (g_lc 0 2 lU) g_mv (g_ix (jN 2)) (g_lc 3 2 lU) (g_bn (fun uZ=>and_u _ _ (D2 m) (D2 (0 -m+0x10000000000000000000000000000000000000000000000000000000000000000)) (D2 (2^s)) uZ (W_D2 _) (W_D2 _) H2.out)) (g_ix (jN 2)) (g_sc 2 0 sU)) fun u4 HB4 _ K4=>?_
 simp only[fX,nK,nP,Wr.f,aK,pM,List.foldl,List.set_cons_zero,List.set_cons_succ] at K4
 simp only[sQ]
 go_wp2
 rw[rounds_succ]
 go_upto_region 5 with fail
 refine Rd K4 HB4 [.no,.no,.cs [(3,9,iU (D3 (2^s)))]] [] (cG 0 16 [_,_,_,_,_,_,_,_,_] []) [] [] [true,true,true,false] (Oc10 g_mv g_mv (g_ix (jN 3)) (g_lc 0 3 lU) g_mv (g_ix (jN 3)) (g_lc 3 3 lU) (g_bn (fun uZ=>and_u _ _ (D3 m) (D3 (0 -m+0x10000000000000000000000000000000000000000000000000000000000000000)) (D3 (2^s)) uZ (W_D3 _) (W_D3 _) H3.out)) (g_ix (jN 3)) (g_sc 2 0 sU)) fun u5 HB5 _ K5=>?_
 simp only[fX,nK,nP,Wr.f,aK,pM,List.foldl,List.set_cons_zero,List.set_cons_succ] at K5
 simp only[sQ]
 go_wp2
 rw[rounds_succ]
 have Kt:CV u5 (w.heap.size+1+1) (LN (2^s)):=(K5.cv 2)
 have K5_1:Bk w.heap.size u5 [(false,w.heap.size,LN m),(true,w.heap.size+1,L0s),(true,w.heap.size+1+1,LN (2^s))]:=⟨.c (K5.lt 0) (K5.cv 0)<| .o (K5.lt 1) (K5.lo 1) (K5.cv 1)<| .o (K5.lt 2) (K5.lo 2) Kt<|trivial,K5.n⟩
 go_upto_region 7 with fail
 refine Rp K5_1 HB5 [.no,.all 6 (LN (m/2^s))] [] (cG 0 27 [_,_,_] [(3,26,_),(4,30,_),(5,31,_)]) [] [] [false] (Oc7 (g_ld 0 uN iN) (g_ld 2 uN iN) (g_cl Vw (fun uZ=>mdivide m (2^s) uZ hm (In_pow hs) hp0)) g_mv g_ex g_ex (g_st 1 iN)) fun u6 HB6 _ K6=>?_
 simp only[sQ] at K6⊢
 go_upto_region 8 with fail
 refine Rd K6 HB6 [.all 2 (LN (m/2^s)),.all 3 (LN (2^s))] [] [(0,32,_),(1,33,_)] [(2,0),(3,1)] [] [] (Oc4 (g_ld 0 uN iN) (g_ld 1 uN iN) (g_st 0 iN) (g_st 1 iN)) fun u7 HB7 _ K7=>?_
 simp only[sQ] at K7⊢
 have c2:=(K7.cv 0).n4
 have c3:=(K7.cv 1).n4
 go_wp2
 refine bodyPost_ret (v:= .tuple #[NV (m/2^s),NV (2^s)]) (by simp[results,Tryz.results135,go_sem,c2,c3]) rfl ⟨rfl,HB7⟩
theorem mjoin_1(x o y t:Int)(w:World)(ht:In t)(h1:t=1):
 CC 139 #[NV x,NV o,NV y,NV t] w (NV x):=by
 have hz:decide (t=1)=true:=by simp[h1]
 clear h1
 go_enter Tryz.func139,Tryz.ntmps139
 go_upto_region 1 with fail
 obtain⟨v0,hC,HB0,K0⟩:=bx5 w (LN x) 24 (LN o) 24 (LN y) 24 (LN t) 24 L0s 24
 rw[hC]
 clear hC
 refine Rd K0 HB0 [] [] (cG 0 17 [_,_,_] []) [] [] [true,false,false,false] (Oc3 (g_ld 3 uN iN) (g_cl Zn (fun uZ=>nOf 1 uZ Z1 Z1)) (g_bn (eql_n _ _ ht In_1 _ hz))) fun u1 HB1 _ K1=>?_
 simp only[sQ] at K1⊢
 go_upto_region 2 with fail
 refine Rp K1 HB1 [.no,.all 1 (LN x)] [] [(0,20,_)] [] [] [false] (Oc2 (g_ld 0 uN iN) (g_st 1 iN)) fun u2 HB2 _ K2=>?_
 simp only[sQ] at K2⊢
 have c8:=(K2.cv 0).n4
 go_wp2
 refine bodyPost_ret (v:=NV x) (by simp[results,Tryz.results139,go_sem,c8]) rfl ⟨rfl,HB2⟩
theorem mjoin(x o y t i:Int)(w:World)(hx:In x)(ho:In o)(hy:In y)(ht:In t)(h:t≠0)(h1:t≠1)(hg:gI t (o%t)=1)(hi:IsInv (o%t) t i)(hxo:x<o)(hot:o*t<=0x10000000000000000000000000000000000000000000000000000000000000000):
 CC 139 #[NV x,NV o,NV y,NV t] w (NV (x+(y -x)%t*i%t*o)):=by
 have hz:decide (t=1)=false:=by simp[h1]
 have ii:In i:=T7 ht hi.1 (by have:=hi.2.1;omega)
 have ht0:=ht.1;have hx0:=hx.1;have ho0:=ho.1
 have k0:=Int.emod_nonneg ((y -x)%t*i) h
 have k1:=Int.emod_lt_of_pos ((y -x)%t*i) (show 0<t by omega)
 have k2:0<=(y -x)%t*i%t*o:=Int.mul_nonneg k0 ho0
 have k3:(y -x)%t*i%t*o<=(t -1)*o:=Int.mul_le_mul_of_nonneg_right Z1 ho0
 have k4:(t -1)*o=o*t -o:=by grind
 have ip:In ((y -x)%t*i%t*o):=⟨k2,Z1⟩
 have is:x+(y -x)%t*i%t*o<0x10000000000000000000000000000000000000000000000000000000000000000:=Z1
 clear h1 k0 k1 k2 k3 k4 ht0 hx0 ho0
 go_enter Tryz.func139,Tryz.ntmps139
 go_upto_region 1 with fail
 obtain⟨v0,hC,HB0,K0⟩:=bx5 w (LN x) 24 (LN o) 24 (LN y) 24 (LN t) 24 L0s 24
 rw[hC]
 clear hC
 refine Rm K0 HB0 (cG 0 17 [_,_,_] []) (Oc3 (g_ld 3 uN iN) (g_cl Zn (fun uZ=>nOf 1 uZ Z1 Z1)) (g_bn (eql_n _ _ ht In_1 _ hz))) fun u1 HB1 _ K1=>?_
 simp only[sQ] at K1⊢
 go_upto_region 3 with fail
 refine Rp K1 HB1 [] [(6,9,L0s,some (7,LN i))] (cG 0 22 [_,_,_] [(3,21,_),(4,25,_),(5,26,_),(8,10,_)]) [(7,6)] [] [] (Oc9 (g_ld 1 uN iN) (g_ld 3 uN iN) (g_cl ent_mod_Inverse (fun uZ=>mInverse o t i uZ ho ht h hg hi)) g_mv g_ex g_ex (g_al 0 aN) (g_sn 0 iN) g_as) fun u2 b2_6 HB2 _ K2=>?_
 simp only[sQ] at K2⊢
 go_upto_region 4 with fail
 refine Rp K2 HB2 [] [(7,11,L0s,some (8,LN ((y -x)%t)))] (cG 0 28 [_,_,_,_] [(4,27,_),(5,32,_),(6,33,_),(9,12,_)]) [(8,7)] [] [true,true,false] (Oc10 (g_ld 2 uN iN) (g_ld 0 uN iN) (g_ld 3 uN iN) (g_cl ent_mod_Sub (fun uZ=>mSub y x t uZ hy hx ht h)) g_mv g_ex g_ex (g_al 0 aN) (g_sn 0 iN) g_as) fun u3 b3_7 HB3 _ K3=>?_
 simp only[sQ] at K3⊢
 go_upto_region 5 with fail
 refine Rp K3 HB3 [] [(7,13,L0s,some (8,LN ((y -x)%t*i%t)))] (cG 0 35 [_,_,_,_] [(4,34,_),(5,39,_),(6,40,_),(9,14,_)]) [(8,7)] [] [true,true,false,true,false,false] (Oc10 (g_ld 5 uN iN) (g_ld 4 uN iN) (g_ld 2 uN iN) (g_cl ent_mod_Mul (fun uZ=>mMul ((y -x)%t) i t uZ (Zt ht h) ii ht h)) g_mv g_ex g_ex (g_al 0 aN) (g_sn 0 iN) g_as) fun u4 b4_7 HB4 _ K4=>?_
 simp only[sQ] at K4⊢
 go_upto_region 6 with fail
 refine Rd K4 HB4 [] [(9,15,L0s,some (10,LN (x+(y -x)%t*i%t*o)))] (cG 0 42 [_,_,_,_,_,_] [(6,41,_),(7,48,_),(8,49,_),(11,16,_)]) [(10,9)] [] [false,false,true,false] (Od8 (g_ld 0 uN iN) (g_ld 3 uN iN) (g_ld 1 uN iN) (g_cl Xw (fun uZ=>nMul ((y -x)%t*i%t) o uZ (Zt ht h) ho)) (g_cl Wm (fun uZ=>mlowI ((y -x)%t*i%t*o) uZ ip)) (g_cl Xd (fun uZ=>nAdd_lt x ((y -x)%t*i%t*o) uZ hx ip is)) g_mv g_ex<|Oc4 g_ex (g_al 0 aN) (g_sn 0 iN) g_as) fun u5 b5_9 HB5 _ K5=>?_
 simp only[sQ] at K5⊢
 go_upto_region 7 with fail
 refine Rp K5 HB5 [.all 1 (LN (x+(y -x)%t*i%t*o))] [] [(0,50,_)] [] [] [true,false] (Oc2 (g_ld 1 uN iN) (g_st 0 iN)) fun u6 HB6 _ K6=>?_
 simp only[sQ] at K6⊢
 have c8:=(K6.cv 0).n4
 go_wp2
 refine bodyPost_ret (v:=NV (x+(y -x)%t*i%t*o)) (by simp[results,Tryz.results139,go_sem,c8]) rfl ⟨rfl,HB6⟩
theorem In_R4(n:Int):In (n%0x10000000000000000000000000000000000000000000000000000000000000000):=⟨Int.emod_nonneg _ Z2,Int.emod_lt_of_pos _ Z2⟩
theorem mraise_low(a e:Int)(bo:Nat)(w:World)(ha:In a)(he:In e)(lb:bo<w.heap.size):
 CC 136 #[NV a,NV e,NV 1,.func (.func 137) #[] #[]] w (NV (a^e.toNat%0x10000000000000000000000000000000000000000000000000000000000000000)):=by
 have hT:Hid (∀(i j:Nat) (u:World),CV u bo []->bo<u.heap.size->Calls Tryz.prog 137 (([]:List Value)++[NV (a^i%0x10000000000000000000000000000000000000000000000000000000000000000),NV (a^j%0x10000000000000000000000000000000000000000000000000000000000000000)]).toArray u fun en u'=>en= .returned (NV (a^(i+j)%0x10000000000000000000000000000000000000000000000000000000000000000))/\Bw u u'):=fun i j u _ _=>by
  have k:=mlowProduct (a^i%0x10000000000000000000000000000000000000000000000000000000000000000) (a^j%0x10000000000000000000000000000000000000000000000000000000000000000) u (In_R4 _) (In_R4 _)
  rw[<-Int.mul_emod,<-Int.pow_add] at k
  exact k
 have k:=mraise 137 [] (fun k=>a^k%0x10000000000000000000000000000000000000000000000000000000000000000) e bo [] w Ug hT he (fun j v hj=>by simp at hj) lb
 have e0:a^0%0x10000000000000000000000000000000000000000000000000000000000000000=1:=by rw[Int.pow_zero];decide
 have e1:a^1%0x10000000000000000000000000000000000000000000000000000000000000000=a:=by rw[Int.pow_succ,Int.pow_zero,Int.one_mul];exact In_lo ha
 simp only[e0,e1] at k
 exact k
set_option maxHeartbeats 16000000 in
theorem mExp_odd(a e m:Int)(w:World)(ha:In a)(he:In e)(hm:In m)(h:m≠0)(hodd:m%2=1):
 CC 113 #[NV a,NV e,NV m] w (.tuple #[NV (a^e.toNat%m),iI 0]):=by
 have hz:decide (m=0)=false:=by simp[h]
 have hB:Hid (∀u,CC 134 #[NV m,iI 0] u (.bool true)):=fun u=>by
  have k:=nBit m 0 u Z1 Z1
  have e:bitI m 0=true:=by unfold bitI;simp;omega
  rw[e] at k;exact k
 have hJ:Hid (∀u,CC 139 #[NV (a^e.toNat%m),NV m,A4 0 0 0 0,NV 1] u (NV (a^e.toNat%m))):=fun u=>by
  rw[<-NV_0];exact mjoin_1 _ m 0 1 u In_1 rfl
 go_enter Tryz.func113,Tryz.ntmps113
 go_upto_region 1 with fail
 obtain⟨v0,hC,HB0,K0⟩:=bx4 w (LN a) 24 (LN e) 24 (LN m) 24 L0s 24
 rw[hC]
 clear hC
 refine Rd K0 HB0 [] [(2,8,L0s,some (4,LN m)),(3,9,L0s,some (5,LN 1))] [(0,12,_),(1,13,_)] [(4,2),(5,3)] [] [] (Oc6 (g_ld 2 uN iN) (g_cl Zn (fun uZ=>nOf 1 uZ Z1 Z1)) (g_al 0 aN) (g_al 1 aN) (g_sn 0 iN) (g_sn 1 iN)) fun u1 b1_2 b1_3 HB1 _ K1=>?_
 simp only[sQ] at K1⊢
 go_upto_region 2 with fail
 refine Rp K1 HB1 [] [(0,10,L0s,none),(1,11,L0s,none)] [] [] [] [] (Oc2 (g_al 0 aN) (g_al 1 aN)) fun u2 b2_0 b2_1 HB2 _ K2=>?_
 simp only[sQ] at K2⊢
 go_upto_region 3 with fail
 refine Rn K2 HB2 (cG 0 15 [_,_,_] [(3,14,_)]) (Oc4 (g_ld 2 uN iN) (g_bd zN) (g_bn (eql_0 _ _ hm _ hz)) g_as) fun u3 HB3 _ K3=>?_
 simp only[sQ] at K3⊢
 go_upto_region 4 with fail
 refine Rp K3 HB3 [] [] (cG 0 19 [_,_,_] [(3,18,_)]) [] [] [true,true,false] (Oc4 (g_ld 2 uN iN) (g_cl Xx hB.out) (g_un (fun uZ=>rfl)) g_as) fun u4 HB4 _ K4=>?_
 simp only[sQ] at K4⊢
 go_upto_region 8 with fail
 refine Rp K4 HB4 [.no,.no,.no,.no,.no,.all 4 (LN (a^e.toNat%m))] [] (cG 0 32 [_,_,_,_] []) [] [] [false,false] (Oc5 (g_ld 0 uN iN) (g_ld 1 uN iN) (g_ld 3 uN iN) (g_cl Xv (fun uZ=>mpow a e m uZ ha he hm h hodd)) (g_st 5 iN)) fun u5 HB5 _ K5=>?_
 simp only[sQ] at K5⊢
 go_upto_region 9 with fail
 refine Rp K5 HB5 [.all 5 (LN (a^e.toNat%m))] [] (cG 0 36 [_,_,_,_,_] [(6,7,_)]) [] [] [true,false,false,false,false] (Oc7 (g_ld 3 uN iN) (g_ld 1 uN iN) (g_ld 4 uN iN) (g_ld 2 uN iN) (g_cl Tb hJ.out) (g_st 0 iN) g_as) fun u6 HB6 _ K6=>?_
 simp only[sQ] at K6⊢
 have c6:=(K6.cv 0).n4
 go_wp2
 refine bodyPost_ret (v:= .tuple #[NV (a^e.toNat%m),iI 0]) (by simp[results,Tryz.results113,go_sem,c6]) rfl ⟨rfl,HB6⟩
set_option maxHeartbeats 16000000 in
theorem mExp_even(a e m:Int)(w:World)(ha:In a)(he:In e)(hm:In m)(h:m≠0)(hev:m%2=0):
 CC 113 #[NV a,NV e,NV m] w (.tuple #[NV (a^e.toNat%m),iI 0]):=by
 have hz:decide (m=0)=false:=by simp[h]
 have hB:Hid (∀u,CC 134 #[NV m,iI 0] u (.bool false)):=fun u=>by
  have k:=nBit m 0 u Z1 Z1
  have e:bitI m 0=false:=by unfold bitI;simp;omega
  rw[e] at k;exact k
 obtain⟨s,hs,w0,w1,w2,w3,hdv,hod,hmd⟩:=low_words m hm h
 have hSp:Hid (∀u,CC 135 #[NV m] u (.tuple #[NV (m/2^s),NV (2^s)])):=fun u=>msplit m s u hm h hs w0 w1 w2 w3
 have ip:=In_pow hs
 have hp:(0:Int)<2^s:=Int.pow_pos Z2
 have io:In (m/2^s):=In_div hm ip Z1
 have hmot:m/2^s*2^s=m:=Int.ediv_mul_cancel hdv
 have hs1:(2:Int)^s≠1:=by
  intro e1
  rw[e1] at hod
  simp at hod;omega
 have hdR:(2:Int)^s∣0x10000000000000000000000000000000000000000000000000000000000000000:=by
  have e:(0x10000000000000000000000000000000000000000000000000000000000000000:Int)=2^256:=Z2
  rw[e];exact⟨2^(256 -s),by rw[<-Int.pow_add,show s+(256 -s)=256 by omega]⟩
 have hpc:=fun(o:Int) (ho:o%2=1) (h0:0<o)=>pow_coprime o ho h0 s
 clear w0 w1 w2 w3 hmd
 generalize m/2^s=o at *
 generalize (2:Int)^s=t at *
 have ho0:o≠0:=by intro e;subst e;simp at hod
 have hop:0<o:=by have:=io.1;omega
 have hoo:o%2=1:=hod
 have hJ:Hid (∀u,CC 139 #[NV (a^e.toNat%o),NV o,NV (a^e.toNat%0x10000000000000000000000000000000000000000000000000000000000000000),NV t] u (NV (a^e.toNat%m))):=fun u=>by
  have hg:=hpc o hoo hop
  obtain⟨i,hi⟩:=IsInv.ex (m:=t) (a:=o%t) (Int.emod_nonneg _ Z1) (Int.emod_lt_of_pos _ hp) hg
  have k:=mjoin (a^e.toNat%o) o (a^e.toNat%0x10000000000000000000000000000000000000000000000000000000000000000) t i u (Zt io ho0) io (In_R4 _) ip Z1 hs1 hg hi (Int.emod_lt_of_pos _ hop) (by rw[hmot];have:=hm.2;omega)
  have hti:t∣i*o -1:=by
   obtain⟨q,hq⟩:=hi.2.2
   have e3:=Int.mul_ediv_add_emod o t
   refine⟨q+i*(o/t),?_⟩
   generalize o/t=z at *
   generalize o%t=r at *
   have:r=o -t*z:=Z1
   subst this;grind
  have hA:=crt_join (a^e.toNat) o t i (a^e.toNat%o) (a^e.toNat%0x10000000000000000000000000000000000000000000000000000000000000000) hop hp (Int.emod_nonneg _ ho0) (Int.emod_lt_of_pos _ hop) (Int.dvd_self_sub_emod) (Int.dvd_trans hdR Int.dvd_self_sub_emod) hti
  rw[hmot] at hA
  rw[hA] at k
  exact k
 clear hpc hmot hdR hod hs1
 go_enter Tryz.func113,Tryz.ntmps113
 go_upto_region 1 with fail
 obtain⟨v0,hC,HB0,K0⟩:=bx4 w (LN a) 24 (LN e) 24 (LN m) 24 L0s 24
 rw[hC]
 clear hC
 refine Rd K0 HB0 [] [(2,8,L0s,some (4,LN m)),(3,9,L0s,some (5,LN 1))] [(0,12,_),(1,13,_)] [(4,2),(5,3)] [] [] (Oc6 (g_ld 2 uN iN) (g_cl Zn (fun uZ=>nOf 1 uZ Z1 Z1)) (g_al 0 aN) (g_al 1 aN) (g_sn 0 iN) (g_sn 1 iN)) fun u1 b1_2 b1_3 HB1 _ K1=>?_
 simp only[sQ] at K1⊢
 go_upto_region 2 with fail
 refine Rp K1 HB1 [] [(0,10,L0s,none),(1,11,L0s,none)] [] [] [] [] (Oc2 (g_al 0 aN) (g_al 1 aN)) fun u2 b2_0 b2_1 HB2 _ K2=>?_
 simp only[sQ] at K2⊢
 go_upto_region 3 with fail
 refine Rn K2 HB2 (cG 0 15 [_,_,_] [(3,14,_)]) (Oc4 (g_ld 2 uN iN) (g_bd zN) (g_bn (eql_0 _ _ hm _ hz)) g_as) fun u3 HB3 _ K3=>?_
 simp only[sQ] at K3⊢
 go_upto_region 4 with fail
 refine Rn K3 HB3 (cG 0 19 [_,_,_] [(3,18,_)]) (Oc4 (g_ld 2 uN iN) (g_cl Xx hB.out) (g_un (fun uZ=>rfl)) g_as) fun u4 HB4 _ K4=>?_
 simp only[sQ] at K4⊢
 go_upto_region 6 with fail
 refine Rp K4 HB4 [.no,.no,.no,.no,.all 5 (LN o),.all 6 (LN t)] [] [(0,24,_),(1,25,_),(2,23,_),(3,26,_),(4,27,_)] [] [] [true,true,false] (Oc7 (g_ld 2 uN iN) (g_cl ent_mod_split hSp.out) g_mv g_ex g_ex (g_st 4 iN) (g_st 5 iN)) fun u5 HB5 _ K5=>?_
 simp only[sQ] at K5⊢
 go_upto_region 7 with fail
 refine Rd K5 HB5 [.no,.no,.no,.no,.no,.no,.all 4 (LN (a^e.toNat%0x10000000000000000000000000000000000000000000000000000000000000000))] [] (cG 0 28 [_,_,_,_] []) [] [] [] (Oc5 (g_ld 0 uN iN) (g_ld 1 uN iN) (g_cl Zn (fun uZ=>nOf 1 uZ Z1 Z1)) (g_ck Uf (fun fZ uZ kZ sZ=>mraise_low a e (w.heap.size) uZ ha he (kZ.lb sZ 0))) (g_st 6 iN)) fun u6 HB6 _ K6=>?_
 simp only[sQ] at K6⊢
 go_upto_region 8 with fail
 refine Rp K6 HB6 [.no,.no,.no,.no,.no,.all 4 (LN (a^e.toNat%o))] [] (cG 0 32 [_,_,_,_] []) [] [] [false,false] (Oc5 (g_ld 0 uN iN) (g_ld 1 uN iN) (g_ld 3 uN iN) (g_cl Xv (fun uZ=>mpow a e o uZ ha he io ho0 hoo)) (g_st 5 iN)) fun u7 HB7 _ K7=>?_
 simp only[sQ] at K7⊢
 go_upto_region 9 with fail
 refine Rp K7 HB7 [.all 5 (LN (a^e.toNat%m))] [] (cG 0 36 [_,_,_,_,_] [(6,7,_)]) [] [] [true,false,false,false,false] (Oc7 (g_ld 3 uN iN) (g_ld 1 uN iN) (g_ld 4 uN iN) (g_ld 2 uN iN) (g_cl Tb hJ.out) (g_st 0 iN) g_as) fun u8 HB8 _ K8=>?_
 simp only[sQ] at K8⊢
 have c6:=(K8.cv 0).n4
 go_wp2
 refine bodyPost_ret (v:= .tuple #[NV (a^e.toNat%m),iI 0]) (by simp[results,Tryz.results113,go_sem,c6]) rfl ⟨rfl,HB8⟩
theorem mExp(a e m:Int)(w:World)(ha:In a)(he:In e)(hm:In m)(h:m≠0):
 CC 113 #[NV a,NV e,NV m] w (.tuple #[NV (a^e.toNat%m),iI 0]):=by
 rcases Int.emod_two_eq m with h2 | h2
 ·exact mExp_even a e m w ha he hm h h2
 ·exact mExp_odd a e m w ha he hm h h2
theorem addG_lt(a b m0 m1 m2 m3 r0 r1 r2 r3 ec:Int)(w:World)(ha:In a)(hb:In b)(hR:Hid (∀u,CC 103 #[WV (a+b),A4 m0 m1 m2 m3] u (.tuple #[A4 r0 r1 r2 r3,iI ec])))(hl:a+b<0x10000000000000000000000000000000000000000000000000000000000000000):CC 77 #[NV a,NV b,A4 m0 m1 m2 m3] w (.tuple #[A4 r0 r1 r2 r3,iI ec]):=by
 have hi:In (a+b):=⟨by have:=ha.1;have:=hb.1;omega,hl⟩
 go_enter Tryz.func77,Tryz.ntmps77
 go_upto_region 1 with fail
 obtain⟨v0,hC,HB0,K0⟩:=bx4 w (LN a) 24 (LN b) 24 ([iU m0,iU m1,iU m2,iU m3]) 24 L0s 24
 rw[hC]
 clear hC
 refine Rp K0 HB0 [] [(6,8,L0s,some (7,LN (a+b)))] (cG 0 12 [_,_,_] [(3,11,_),(4,15,_),(5,16,_),(8,9,_)]) [(7,6)] [] [false,false] (Oc9 (g_ld 0 uN iN) (g_ld 1 uN iN) (g_cl Xd (fun uZ=>nAdd_lt a b uZ ha hb hl)) g_mv g_ex g_ex (g_al 0 aN) (g_sn 0 iN) g_as) fun u1 b1_6 HB1 _ K1=>?_
 simp only[sQ] at K1⊢
 go_upto_region 2 with fail
 refine Rp K1 HB1 [] [(2,10,L0w,some (3,LW (a+b)))] [(0,17,_),(1,18,_)] [(3,2)] [] [true,true,false] (Oc4 (g_ld 2 uN iN) (g_cl Zl (fun uZ=>W6 (a+b) uZ hi)) (g_al 0 aW) (g_sn 0 iW)) fun u2 b2_2 HB2 _ K2=>?_
 simp only[sQ] at K2⊢
 go_upto_region 5 with fail
 refine Rp K2 HB2 [.no,.all 5 ([iU r0,iU r1,iU r2,iU r3])] [] (cG 0 21 [_,_,_,_,_] [(6,7,_)]) [] [] [false,true,false] (Oc7 (g_ld 2 uW iW) (g_ld 0 uN iN) (g_cl Zp hR.out) g_ex g_ex (g_st 1 iN) g_as) fun u3 HB3 _ K3=>?_
 simp only[sQ] at K3⊢
 have c6:=(K3.cv 0).n4
 go_wp2
 refine bodyPost_ret (v:= .tuple #[A4 r0 r1 r2 r3,iI ec]) (by simp[results,Tryz.results77,go_sem,c6]) rfl ⟨rfl,HB3⟩
theorem addG_ge(a b m0 m1 m2 m3 r0 r1 r2 r3 ec:Int)(w:World)(ha:In a)(hb:In b)(hR:Hid (∀u,CC 103 #[WV (a+b),A4 m0 m1 m2 m3] u (.tuple #[A4 r0 r1 r2 r3,iI ec])))(hl:0x10000000000000000000000000000000000000000000000000000000000000000<=a+b):CC 77 #[NV a,NV b,A4 m0 m1 m2 m3] w (.tuple #[A4 r0 r1 r2 r3,iI ec]):=by
 have ha2:=ha.2;have hb2:=hb.2
 obtain⟨s,hs⟩:=Z3 (a+b -0x10000000000000000000000000000000000000000000000000000000000000000)
 have hA:WV (a+b)=A8 (D0 s) (D1 s) (D2 s) (D3 s) 1 0 0 0:=WV_of (a+b) (D0 s) (D1 s) (D2 s) (D3 s) 1 0 0 0 (W_D0 s) (W_D1 s) (W_D2 s) (W_D3 s) ⟨Z1,Z1⟩ W_0 W_0 W_0 (by rw[V_In ⟨Z1,Z1⟩];simp[V];omega)
 rw[hA] at hR
 have nA:Hid (∀u,CC 102 #[NV a,NV b] u (.tuple #[NV s,.bool true])):=fun u=>by rw[<-hs];exact nAdd_ge a b u ha hb hl
 clear hs hA ha2 hb2
 go_enter Tryz.func77,Tryz.ntmps77
 go_upto_region 1 with fail
 obtain⟨v0,hC,HB0,K0⟩:=bx4 w (LN a) 24 (LN b) 24 ([iU m0,iU m1,iU m2,iU m3]) 24 L0s 24
 rw[hC]
 clear hC
 refine Rp K0 HB0 [] [(6,8,L0s,some (7,LN s))] (cG 0 12 [_,_,_] [(3,11,_),(4,15,_),(5,16,_),(8,9,_)]) [(7,6)] [] [false,false] (Oc9 (g_ld 0 uN iN) (g_ld 1 uN iN) (g_cl Xd nA.out) g_mv g_ex g_ex (g_al 0 aN) (g_sn 0 iN) g_as) fun u1 b1_6 HB1 _ K1=>?_
 simp only[sQ] at K1⊢
 go_upto_region 2 with fail
 refine Rp K1 HB1 [] [(2,10,L0w,some (3,[iU (D0 s),iU (D1 s),iU (D2 s),iU (D3 s),iU (0),iU (0),iU (0),iU (0)]))] [(0,17,_),(1,18,_)] [(3,2)] [] [true,true,false] (Oc4 (g_ld 2 uN iN) (g_cl Zl (Widen_any (D0 s) (D1 s) (D2 s) (D3 s))) (g_al 0 aW) (g_sn 0 iW)) fun u2 b2_2 HB2 _ K2=>?_
 simp only[sQ] at K2⊢
 go_upto_region 4 with fail
 refine Rp K2 HB2 [.no,.no,.cs [(4,1,(Go.Value.int Go.IntKind.u64 1))]] [] [(0,20,_)] [] [] [] (Oc2 (g_ix (jW 4)) (g_sc 2 0 sU)) fun u3 HB3 _ K3=>?_
 simp only[fX,nK,nP,Wr.f,aK,pM,List.foldl,List.set_cons_zero,List.set_cons_succ] at K3
 simp only[sQ]
 go_upto_region 5 with fail
 refine Rp K3 HB3 [.no,.all 5 ([iU r0,iU r1,iU r2,iU r3])] [] (cG 0 21 [_,_,_,_,_] [(6,7,_)]) [] [] [false,true,false] (Oc7 (g_ld 2 uW iW) (g_ld 0 uN iN) (g_cl Zp hR.out) g_ex g_ex (g_st 1 iN) g_as) fun u4 HB4 _ K4=>?_
 simp only[sQ] at K4⊢
 have c6:=(K4.cv 0).n4
 go_wp2
 refine bodyPost_ret (v:= .tuple #[A4 r0 r1 r2 r3,iI ec]) (by simp[results,Tryz.results77,go_sem,c6]) rfl ⟨rfl,HB4⟩
theorem addG(a b m0 m1 m2 m3 r0 r1 r2 r3 ec:Int)(w:World)(ha:In a)(hb:In b)(hR:Hid (∀u,CC 103 #[WV (a+b),A4 m0 m1 m2 m3] u (.tuple #[A4 r0 r1 r2 r3,iI ec]))):CC 77 #[NV a,NV b,A4 m0 m1 m2 m3] w (.tuple #[A4 r0 r1 r2 r3,iI ec]):=by
 by_cases hl:a+b<0x10000000000000000000000000000000000000000000000000000000000000000
 ·exact addG_lt a b m0 m1 m2 m3 r0 r1 r2 r3 ec w ha hb hR hl
 ·exact addG_ge a b m0 m1 m2 m3 r0 r1 r2 r3 ec w ha hb hR Z1
theorem mAdd(a b m:Int)(w:World)(ha:In a)(hb:In b)(hm:In m)(h:m≠0):CC 77 #[NV a,NV b,NV m] w (.tuple #[NV ((a+b)%m),iI 0]):=
 addG a b _ _ _ _ _ _ _ _ 0 w ha hb (fun u=>Xl (a+b) m u ⟨by have:=ha.1;have:=hb.1;omega,by have:=ha.2;have:=hb.2;omega⟩ hm h)
end
end Go.Proofs.YtoffgfhilkpdpaaGreatDoor
