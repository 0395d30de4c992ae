import Derived.Test.YtknpepgonhdbgaaGreatDoorMO5
namespace Go.Proofs.YtknpepgonhdbgaaGreatDoor
set_option linter.unusedVariables false
set_option linter.unusedSimpArgs false
set_option maxRecDepth 100000
set_option maxHeartbeats 4000000
section
theorem and_low(x:Nat)(k:Nat)(hx:x<2^k)(h0:x≠0): ∃s,s<k/\x&&&(2^k -x)=2^s/\x%2^s=0/\x/2^s%2=1:=by
 induction k generalizing x with
 | zero=>simp at hx;omega
 | succ k ih=>
  by_cases h:x%2=1
  ·refine⟨0,by omega,?_,by simp[Nat.mod_one],by simpa using h⟩
   apply Nat.eq_of_testBit_eq
   intro i
   rw[Nat.testBit_and]
   cases i with
   | zero=>
    rw[Nat.testBit_zero,Nat.testBit_zero]
    have:(2^(k+1) -x)%2=1:=by rw[Nat.pow_succ] at *;omega
    simp[h,this]
   | succ i=>
    rw[Nat.testBit_succ,Nat.testBit_succ]
    have e:(2^(k+1) -x)/2=2^k -(x/2+1):=by rw[Nat.pow_succ] at *;omega
    have tb:=Nat.testBit_two_pow_sub_succ (show x/2<2^k by rw[Nat.pow_succ] at hx;omega) i
    rw[e,tb,Nat.testBit_succ]
    cases hb:(x/2).testBit i<;>simp
  ·obtain⟨s,h1,h2,h3,h4⟩:=ih (x/2) (by rw[Nat.pow_succ] at hx;omega) (by omega)
   refine⟨s+1,by omega,?_,?_,?_⟩
   ·have e1:2^(k+1) -x=2*(2^k -x/2):=by rw[Nat.pow_succ];omega
    have e2:x=2*(x/2):=by omega
    rw[e1]
    conv=>lhs;lhs;rw[e2]
    apply Nat.eq_of_testBit_eq
    intro i
    rw[Nat.testBit_and]
    cases i with
    | zero=>simp[Nat.testBit_zero,Nat.pow_succ]
    | succ i=>
     rw[Nat.testBit_succ,Nat.testBit_succ,Nat.testBit_succ,Nat.mul_div_cancel_left _ (by omega),Nat.mul_div_cancel_left _ (by omega),Nat.pow_succ,Nat.mul_div_cancel _ (by omega),<-h2,Nat.testBit_and]
   ·rw[Nat.pow_succ,Nat.mul_comm (2^s) 2]
    have:=Nat.mod_mul (a:=2) (b:=2^s) (x:=x)
    rw[this,h3];omega
   ·rw[Nat.pow_succ,Nat.mul_comm (2^s) 2,<-Nat.div_div_eq_div_mul];exact h4
theorem crt_join(A o t i x y:Int)(ho:0<o)(ht:0<t)(hx0:0<=x)(hxo:x<o)(hx:o∣A -x)(hy:t∣A -y)(hi:t∣i*o -1):x+((y -x)%t*i%t)*o=A%(o*t):=by
 have n0:t≠0:=by omega
 have e1:=Int.mul_ediv_add_emod (y -x) t
 have e2:=Int.mul_ediv_add_emod ((y -x)%t*i) t
 have h1:=Int.emod_nonneg ((y -x)%t*i) n0
 have h2:=Int.emod_lt_of_pos ((y -x)%t*i) ht
 obtain⟨p,hp⟩:=hx
 obtain⟨q,hq⟩:=hy
 obtain⟨r,hr⟩:=hi
 generalize (y -x)%t*i/t=b2 at *
 generalize (y -x)%t*i%t=k at *
 generalize (y -x)/t=b1 at *
 generalize (y -x)%t=d at *
 have hd:d=y -x -t*b1:=by omega
 have hk:k=d*i -t*b2:=by omega
 have hA: ∃z,A=x+k*o+o*t*z:=by
  have e3:o*(p -k)=t*(q+b1 -d*r+b2*o):=by
   have:A=y+t*q:=by omega
   rw[hk]
   have e4:o*p=A -x:=by omega
   grind
  refine⟨i*(q+b1 -d*r+b2*o) -r*(p -k),?_⟩
  have e5:p -k=t*(i*(q+b1 -d*r+b2*o) -r*(p -k)):=by
   have:i*o*(p -k)=i*(t*(q+b1 -d*r+b2*o)):=by rw[Int.mul_assoc,e3]
   have h6:i*o=1+t*r:=by omega
   rw[h6] at this
   grind
  have e6:A=x+o*p:=by omega
  rw[e6]
  have e7:p=k+t*(i*(q+b1 -d*r+b2*o) -r*(p -k)):=by omega
  generalize i*(q+b1 -d*r+b2*o) -r*(p -k)=z at *
  rw[e7];grind
 obtain⟨z,hz⟩:=hA
 rw[hz,Int.add_mul_emod_self_left]
 have h5:0<=k*o:=Int.mul_nonneg h1 (by omega)
 have h6:k*o<=(t -1)*o:=Int.mul_le_mul_of_nonneg_right (by omega) (by omega)
 have h7:(t -1)*o=o*t -o:=by grind
 rw[Int.emod_eq_of_lt (by omega) (by omega)]
def anI(x y:Int):Int:=((x.toNat&&&y.toNat:Nat):Int)
theorem dig_and(x y k:Nat):((x&&&y)/2^k)%2^64=(x/2^k%2^64)&&&(y/2^k%2^64):=by
 rw[Nat.and_div_two_pow,Nat.and_mod_two_pow]
theorem dI(n:Nat)(k:Nat):(((n:Int)/((2^k:Nat):Int)%18446744073709551616)).toNat=n/2^k%2^64:=by
 have:((n:Int)/((2^k:Nat):Int)%18446744073709551616)=((n/2^k%2^64:Nat):Int):=by
  rw[Int.natCast_emod,Int.natCast_ediv];rfl
 rw[this,Int.toNat_natCast]
theorem low_words(m:Int)(hm:In m)(h:m≠0): ∃s:Nat,s<256/\anI (D0 m) (D0 (0 -m+115792089237316195423570985008687907853269984665640564039457584007913129639936))=D0 (2^s)/\anI (D1 m) (D1 (0 -m+115792089237316195423570985008687907853269984665640564039457584007913129639936))=D1 (2^s)/\anI (D2 m) (D2 (0 -m+115792089237316195423570985008687907853269984665640564039457584007913129639936))=D2 (2^s)/\anI (D3 m) (D3 (0 -m+115792089237316195423570985008687907853269984665640564039457584007913129639936))=D3 (2^s)/\(2:Int)^s∣m/\m/2^s%2=1/\m%2^s=0:=by
 obtain⟨h1,h2⟩:=hm
 obtain⟨n,rfl⟩:=Int.eq_ofNat_of_zero_le h1
 have hn:n<2^256:=by
  have e:(2:Nat)^256=115792089237316195423570985008687907853269984665640564039457584007913129639936:=by decide
  rw[e];omega
 obtain⟨s,hs,ha,hr,hq⟩:=and_low n 256 hn (by omega)
 have hl:(0 -(n:Int)+115792089237316195423570985008687907853269984665640564039457584007913129639936)=((2^256 -n:Nat):Int):=by
  have e:(2:Nat)^256=115792089237316195423570985008687907853269984665640564039457584007913129639936:=by decide
  rw[e] at hn⊢;omega
 rw[hl]
 generalize hl':2^256 -n=l at *
 have hp:((2:Int)^s)=((2^s:Nat):Int):=by simp
 have w0: ∀x:Nat,D0 (x:Int)=(x:Int)/((2^0:Nat):Int)%18446744073709551616:=fun x=>by simp[D0]
 have w1: ∀x:Nat,D1 (x:Int)=(x:Int)/((2^64:Nat):Int)%18446744073709551616:=fun x=>by simp[D1]
 have w2: ∀x:Nat,D2 (x:Int)=(x:Int)/((2^128:Nat):Int)%18446744073709551616:=fun x=>by simp[D2]
 have w3: ∀x:Nat,D3 (x:Int)=(x:Int)/((2^192:Nat):Int)%18446744073709551616:=fun x=>by simp[D3]
 have key: ∀k:Nat,anI ((n:Int)/((2^k:Nat):Int)%18446744073709551616) ((l:Int)/((2^k:Nat):Int)%18446744073709551616)=((2^s:Nat):Int)/((2^k:Nat):Int)%18446744073709551616:=fun k=>by
  unfold anI
  rw[dI,dI,<-dig_and,ha,Int.natCast_emod,Int.natCast_ediv];rfl
 refine⟨s,hs,?_,?_,?_,?_,?_,?_,?_⟩
 ·rw[hp,w0,w0,w0];exact key 0
 ·rw[hp,w1,w1,w1];exact key 64
 ·rw[hp,w2,w2,w2];exact key 128
 ·rw[hp,w3,w3,w3];exact key 192
 ·rw[hp];exact Int.natCast_dvd_natCast.2 (Nat.dvd_of_mod_eq_zero hr)
 ·rw[hp,<-Int.natCast_ediv];omega
 ·rw[hp,<-Int.natCast_emod];omega
theorem pow_coprime(o:Int)(ho:o%2=1)(h0:0<o)(s:Nat):gI (2^s) (o%2^s)=1:=by
 have hp:(0:Int)<2^s:=Int.pow_pos (by decide)
 rw[gI_step o (2^s) (by omega) (by omega) (by omega)]
 unfold gI
 have:Nat.gcd o.toNat ((2:Int)^s).toNat=1:=by
  have e:((2:Int)^s).toNat=2^s:=by
   rw[show ((2:Int)^s)=((2^s:Nat):Int) by simp,Int.toNat_natCast]
  rw[e]
  have hc:Nat.Coprime o.toNat 2:=by
   have h1:o.toNat%2=1:=by omega
   unfold Nat.Coprime
   rw[Nat.gcd_comm,Nat.gcd_rec,h1];simp
  exact Nat.Coprime.pow_right s hc
 rw[this];rfl
theorem In_pow{s:Nat}(h:s<256):In (2^s):=by
 refine⟨Int.le_of_lt (Int.pow_pos (by decide)),?_⟩
 have h1:(2:Int)^s<=2^255:=by
  have:=Nat.pow_le_pow_right (show 0<2 by decide) (show s<=255 by omega)
  have e1:((2:Int)^s)=((2^s:Nat):Int):=by simp
  have e2:((2:Int)^255)=((2^255:Nat):Int):=by simp
  rw[e1,e2];omega
 have e:(2:Int)^255=57896044618658097711785492504343953926634992332820282019728792003956564819968:=by decide
 rw[e] at h1;omega
end
section
open Go.RowKit
theorem and_u(p q:Operand)(x y z:Int)(w:World)(hx:W64 x)(hy:W64 y)(h:anI x y=z):(do eqGuard .and 22 p q (.int .u64 x) (.int .u64 y);binOp .and 22 (.int .u64 x) (.int .u64 y):Sem Value).run Tryz.prog w= .ok (.int .u64 z) w:=by
 subst h
 have e:bits .and .u64 x y=anI x y:=by
  obtain⟨x1,x2⟩:=hx;obtain⟨y1,y2⟩:=hy
  obtain⟨x,rfl⟩:=Int.eq_ofNat_of_zero_le x1
  obtain⟨y,rfl⟩:=Int.eq_ofNat_of_zero_le y1
  unfold anI
  rw[bits_and_u64_nat x y (by omega) (by omega),Int.toNat_natCast,Int.toNat_natCast]
 go_simp
theorem nSub0(m:Int)(w:World)(hm:In m)(h:m≠0):CC 101 #[A4 0 0 0 0,NV m] w (.tuple #[NV (0 -m+115792089237316195423570985008687907853269984665640564039457584007913129639936),.bool true]):=by
 rw[<-NV_0];exact nSub_lt 0 m w In_0 hm (by have:=hm.1;omega)
theorem msplit(m:Int)(s:Nat)(w:World)(hm:In m)(h:m≠0)(hs:s<256)(h0:anI (D0 m) (D0 (0 -m+115792089237316195423570985008687907853269984665640564039457584007913129639936))=D0 (2^s))(h1:anI (D1 m) (D1 (0 -m+115792089237316195423570985008687907853269984665640564039457584007913129639936))=D1 (2^s))(h2:anI (D2 m) (D2 (0 -m+115792089237316195423570985008687907853269984665640564039457584007913129639936))=D2 (2^s))(h3:anI (D3 m) (D3 (0 -m+115792089237316195423570985008687907853269984665640564039457584007913129639936))=D3 (2^s)):
 CC 90 #[NV m] w (.tuple #[NV (m/2^s),NV (2^s)]):=by
 have hp0:(2:Int)^s≠0:=Int.ne_of_gt (Int.pow_pos (by decide))
 have H0:Hid _:=h0;have H1:Hid _:=h1;have H2:Hid _:=h2;have H3:Hid _:=h3
 clear h0 h1 h2 h3
 go_enter Tryz.func90,Tryz.ntmps90
 go_upto_region 1 with fail
 generalize hC:(((w.alloc (.cells (LN m:List Value).toArray 24)).alloc (.cells (L0s:List Value).toArray 24)).alloc (.cells (L0s:List Value).toArray 24))=v0 at *
 have HB0:Bw w v0:=by rw[<-hC];exact Z0 (Z0 (Z0 (Z5 w) _) _) _
 have K0:Bk w.heap.size v0 [(true,w.heap.size,LN m),(true,w.heap.size+1,L0s),(true,w.heap.size+1+1,L0s)]:=by rw[<-hC];exact(Bk.nil _ w).ad.ad.ad
 clear hC
 refine rgP K0 HB0 HB0.size [] [(6,4,L0s,some (7,LN (0 -m+115792089237316195423570985008687907853269984665640564039457584007913129639936)))] [(0,8,A4 (0) (0) (0) (0)),(1,9,NV m),(2,10,.tuple #[NV (0 -m+115792089237316195423570985008687907853269984665640564039457584007913129639936),.bool true]),(3,7,.tuple #[NV (0 -m+115792089237316195423570985008687907853269984665640564039457584007913129639936),.bool true]),(4,11,NV (0 -m+115792089237316195423570985008687907853269984665640564039457584007913129639936)),(5,12,.bool true),(8,5,.bool true)] [(7,6)] [] [] ?_ ?_
 ·exact oc (g_bd zN)<|oc (g_ld 0 uN iN)<|oc (g_cl Yz (fun uZ=>nSub0 m uZ hm h))<|oc g_mv<|oc g_ex<|oc g_ex<|oc (g_al 0 aN)<|oc (g_sn 0 iN)<|oc g_as on
 intro u1 b1_6 HB1 sz1 K1
 simp only[sQ] at K1⊢
 clear K0 HB0
 go_wp2_with fail
 refine wp_loop_rounds 5 ?_
 rw[rounds_succ]
 go_upto_region 5 with fail
 refine rgD K1 HB1 HB1.size [.no,.no,.cs [(0,9,.int .u64 (D0 (2^s)))]] [] [(0,16,.int .i64 0),(1,17,.int .i64 0),(2,18,.pointer (some ⟨w.heap.size,0,none⟩)),(3,19,.int .u64 (D0 m)),(4,20,.int .i64 0),(5,21,.pointer (some ⟨b1_6,0,none⟩)),(6,22,.int .u64 (D0 (0 -m+115792089237316195423570985008687907853269984665640564039457584007913129639936))),(7,23,.int .u64 (D0 (2^s))),(8,24,.pointer (some ⟨w.heap.size+1+1,0,none⟩))] [] [] [] ?_ ?_
 ·exact oc g_mv<|oc g_mv<|oc (g_ix (jN 0))<|oc (g_lc 0 0 lU)<|oc g_mv<|oc (g_ix (jN 0))<|oc (g_lc 3 0 lU)<|oc (g_bn (fun uZ=>and_u _ _ (D0 m) (D0 (0 -m+115792089237316195423570985008687907853269984665640564039457584007913129639936)) (D0 (2^s)) uZ (W_D0 _) (W_D0 _) H0.out))<|oc (g_ix (jN 0))<|oc (g_sc 2 0 sU) on
 intro u2 HB2 sz2 K2
 simp only[fX,nK,nP,Wr.f,aK,pM,List.foldl,List.set_cons_zero,List.set_cons_succ] at K2
 simp only[setG,setN,List.set_cons_zero,List.set_cons_succ]
 clear K1 HB1
 go_wp2
 rw[rounds_succ]
 go_upto_region 5 with fail
 refine rgD K2 HB2 HB2.size [.no,.no,.cs [(1,9,.int .u64 (D1 (2^s)))]] [] [(0,16,.int .i64 1),(1,17,.int .i64 1),(2,18,.pointer (some ⟨w.heap.size,1,none⟩)),(3,19,.int .u64 (D1 m)),(4,20,.int .i64 1),(5,21,.pointer (some ⟨b1_6,1,none⟩)),(6,22,.int .u64 (D1 (0 -m+115792089237316195423570985008687907853269984665640564039457584007913129639936))),(7,23,.int .u64 (D1 (2^s))),(8,24,.pointer (some ⟨w.heap.size+1+1,1,none⟩))] [] [] [] ?_ ?_
 ·exact oc g_mv<|oc g_mv<|oc (g_ix (jN 1))<|oc (g_lc 0 1 lU)<|oc g_mv<|oc (g_ix (jN 1))<|oc (g_lc 3 1 lU)<|oc (g_bn (fun uZ=>and_u _ _ (D1 m) (D1 (0 -m+115792089237316195423570985008687907853269984665640564039457584007913129639936)) (D1 (2^s)) uZ (W_D1 _) (W_D1 _) H1.out))<|oc (g_ix (jN 1))<|oc (g_sc 2 0 sU) on
 intro u3 HB3 sz3 K3
 simp only[fX,nK,nP,Wr.f,aK,pM,List.foldl,List.set_cons_zero,List.set_cons_succ] at K3
 simp only[setG,setN,List.set_cons_zero,List.set_cons_succ]
 clear K2 HB2
 go_wp2
 rw[rounds_succ]
 go_upto_region 5 with fail
 refine rgD K3 HB3 HB3.size [.no,.no,.cs [(2,9,.int .u64 (D2 (2^s)))]] [] [(0,16,.int .i64 2),(1,17,.int .i64 2),(2,18,.pointer (some ⟨w.heap.size,2,none⟩)),(3,19,.int .u64 (D2 m)),(4,20,.int .i64 2),(5,21,.pointer (some ⟨b1_6,2,none⟩)),(6,22,.int .u64 (D2 (0 -m+115792089237316195423570985008687907853269984665640564039457584007913129639936))),(7,23,.int .u64 (D2 (2^s))),(8,24,.pointer (some ⟨w.heap.size+1+1,2,none⟩))] [] [] [] ?_ ?_
 ·exact oc g_mv<|oc g_mv<|oc (g_ix (jN 2))<|oc (g_lc 0 2 lU)<|oc g_mv<|oc (g_ix (jN 2))<|oc (g_lc 3 2 lU)<|oc (g_bn (fun uZ=>and_u _ _ (D2 m) (D2 (0 -m+115792089237316195423570985008687907853269984665640564039457584007913129639936)) (D2 (2^s)) uZ (W_D2 _) (W_D2 _) H2.out))<|oc (g_ix (jN 2))<|oc (g_sc 2 0 sU) on
 intro u4 HB4 sz4 K4
 simp only[fX,nK,nP,Wr.f,aK,pM,List.foldl,List.set_cons_zero,List.set_cons_succ] at K4
 simp only[setG,setN,List.set_cons_zero,List.set_cons_succ]
 clear K3 HB3
 go_wp2
 rw[rounds_succ]
 go_upto_region 5 with fail
 refine rgD K4 HB4 HB4.size [.no,.no,.cs [(3,9,.int .u64 (D3 (2^s)))]] [] [(0,16,.int .i64 3),(1,17,.int .i64 3),(2,18,.pointer (some ⟨w.heap.size,3,none⟩)),(3,19,.int .u64 (D3 m)),(4,20,.int .i64 3),(5,21,.pointer (some ⟨b1_6,3,none⟩)),(6,22,.int .u64 (D3 (0 -m+115792089237316195423570985008687907853269984665640564039457584007913129639936))),(7,23,.int .u64 (D3 (2^s))),(8,24,.pointer (some ⟨w.heap.size+1+1,3,none⟩))] [] [] [true,true,true,false] ?_ ?_
 ·exact oc g_mv<|oc g_mv<|oc (g_ix (jN 3))<|oc (g_lc 0 3 lU)<|oc g_mv<|oc (g_ix (jN 3))<|oc (g_lc 3 3 lU)<|oc (g_bn (fun uZ=>and_u _ _ (D3 m) (D3 (0 -m+115792089237316195423570985008687907853269984665640564039457584007913129639936)) (D3 (2^s)) uZ (W_D3 _) (W_D3 _) H3.out))<|oc (g_ix (jN 3))<|oc (g_sc 2 0 sU) on
 intro u5 HB5 sz5 K5
 simp only[fX,nK,nP,Wr.f,aK,pM,List.foldl,List.set_cons_zero,List.set_cons_succ] at K5
 simp only[setG,setN,List.set_cons_zero,List.set_cons_succ]
 clear K4 HB4
 go_wp2
 rw[rounds_succ]
 have Kt:CV u5 (w.heap.size+1+1) (LN (2^s)):=(K5.cv 2)
 have K5_1:Bk w.heap.size u5 [(false,w.heap.size,LN m),(true,w.heap.size+1,L0s),(true,w.heap.size+1+1,LN (2^s))]:=⟨.c (K5.lt 0) (K5.cv 0)<| .o (K5.lt 1) (K5.lo 1) (K5.cv 1)<| .o (K5.lt 2) (K5.lo 2) Kt<|trivial,K5.n⟩
 go_upto_region 7 with fail
 refine rgP K5_1 HB5 HB5.size [.no,.all 6 (LN (m/2^s))] [] [(0,27,NV m),(1,28,NV (2^s)),(2,29,.tuple #[NV (m/2^s),NV (m%2^s)]),(3,26,.tuple #[NV (m/2^s),NV (m%2^s)]),(4,30,NV (m/2^s)),(5,31,NV (m%2^s))] [] [] [false] ?_ ?_
 ·exact oc (g_ld 0 uN iN)<|oc (g_ld 2 uN iN)<|oc (g_cl Vs (fun uZ=>mdivide m (2^s) uZ hm (In_pow hs) hp0))<|oc g_mv<|oc g_ex<|oc g_ex<|oc (g_st 1 iN) on
 intro u6 HB6 sz6 K6
 simp only[sQ] at K6⊢
 clear HB5
 go_upto_region 8 with fail
 refine rgD K6 HB6 HB6.size [.all 2 (LN (m/2^s)),.all 3 (LN (2^s))] [] [(0,32,NV (m/2^s)),(1,33,NV (2^s))] [(2,0),(3,1)] [] [] ?_ ?_
 ·exact oc (g_ld 0 uN iN)<|oc (g_ld 1 uN iN)<|oc (g_st 0 iN)<|oc (g_st 1 iN) on
 intro u7 HB7 sz7 K7
 simp only[sQ] at K7⊢
 clear K6 HB6
 have c2:=(K7.cv 0).n4
 have c3:=(K7.cv 1).n4
 go_wp2
 refine bodyPost_ret (v:= .tuple #[NV (m/2^s),NV (2^s)]) (by simp[results,Tryz.results90,go_sem,c2,c3]) rfl ⟨rfl,HB7⟩
theorem mjoin_1(x o y t:Int)(w:World)(ht:In t)(h1:t=1):
 CC 94 #[NV x,NV o,NV y,NV t] w (NV x):=by
 have hz:decide (t=1)=true:=by simp[h1]
 clear h1
 go_enter Tryz.func94,Tryz.ntmps94
 go_upto_region 1 with fail
 generalize hC:(((((w.alloc (.cells (LN x:List Value).toArray 24)).alloc (.cells (LN o:List Value).toArray 24)).alloc (.cells (LN y:List Value).toArray 24)).alloc (.cells (LN t:List Value).toArray 24)).alloc (.cells (L0s:List Value).toArray 24))=v0 at *
 have HB0:Bw w v0:=by rw[<-hC];exact Z0 (Z0 (Z0 (Z0 (Z0 (Z5 w) _) _) _) _) _
 have K0:Bk w.heap.size v0 [(true,w.heap.size,LN x),(true,w.heap.size+1,LN o),(true,w.heap.size+1+1,LN y),(true,w.heap.size+1+1+1,LN t),(true,w.heap.size+1+1+1+1,L0s)]:=by rw[<-hC];exact(Bk.nil _ w).ad.ad.ad.ad.ad
 clear hC
 refine rgD K0 HB0 HB0.size [] [] [(0,17,NV t),(1,18,NV 1),(2,19,.bool true)] [] [] [true,false,false,false] ?_ ?_
 ·exact oc (g_ld 3 uN iN)<|oc (g_cl Z9 (fun uZ=>nOf 1 uZ (by omega) (by omega)))<|oc (g_bn (fun uZ=>eql_n _ _ ht In_1 _ hz uZ)) on
 intro u1 HB1 sz1 K1
 simp only[sQ] at K1⊢
 clear K0 HB0
 go_upto_region 2 with fail
 refine rgP K1 HB1 HB1.size [.no,.all 1 (LN x)] [] [(0,20,NV x)] [] [] [false] ?_ ?_
 ·exact oc (g_ld 0 uN iN)<|oc (g_st 1 iN) on
 intro u2 HB2 sz2 K2
 simp only[sQ] at K2⊢
 clear K1 HB1
 have c8:=(K2.cv 0).n4
 go_wp2
 refine bodyPost_ret (v:=NV x) (by simp[results,Tryz.results94,go_sem,c8]) rfl ⟨rfl,HB2⟩
theorem mjoin(x o y t i:Int)(w:World)(hx:In x)(ho:In o)(hy:In y)(ht:In t)(h:t≠0)(h1:t≠1)(hg:gI t (o%t)=1)(hi:IsInv (o%t) t i)(hxo:x<o)(hot:o*t<=115792089237316195423570985008687907853269984665640564039457584007913129639936):
 CC 94 #[NV x,NV o,NV y,NV t] w (NV (x+(y -x)%t*i%t*o)):=by
 have hz:decide (t=1)=false:=by simp[h1]
 have ii:In i:=In_le ht hi.1 (by have:=hi.2.1;omega)
 have ht0:=ht.1;have hx0:=hx.1;have ho0:=ho.1
 have k0:=Int.emod_nonneg ((y -x)%t*i) h
 have k1:=Int.emod_lt_of_pos ((y -x)%t*i) (show 0<t by omega)
 have k2:0<=(y -x)%t*i%t*o:=Int.mul_nonneg k0 ho0
 have k3:(y -x)%t*i%t*o<=(t -1)*o:=Int.mul_le_mul_of_nonneg_right (by omega) ho0
 have k4:(t -1)*o=o*t -o:=by grind
 have ip:In ((y -x)%t*i%t*o):=⟨k2,by omega⟩
 have is:x+(y -x)%t*i%t*o<115792089237316195423570985008687907853269984665640564039457584007913129639936:=by omega
 clear h1 k0 k1 k2 k3 k4 ht0 hx0 ho0
 go_enter Tryz.func94,Tryz.ntmps94
 go_upto_region 1 with fail
 generalize hC:(((((w.alloc (.cells (LN x:List Value).toArray 24)).alloc (.cells (LN o:List Value).toArray 24)).alloc (.cells (LN y:List Value).toArray 24)).alloc (.cells (LN t:List Value).toArray 24)).alloc (.cells (L0s:List Value).toArray 24))=v0 at *
 have HB0:Bw w v0:=by rw[<-hC];exact Z0 (Z0 (Z0 (Z0 (Z0 (Z5 w) _) _) _) _) _
 have K0:Bk w.heap.size v0 [(true,w.heap.size,LN x),(true,w.heap.size+1,LN o),(true,w.heap.size+1+1,LN y),(true,w.heap.size+1+1+1,LN t),(true,w.heap.size+1+1+1+1,L0s)]:=by rw[<-hC];exact(Bk.nil _ w).ad.ad.ad.ad.ad
 clear hC
 refine rgD K0 HB0 HB0.size [] [] [(0,17,NV t),(1,18,NV 1),(2,19,.bool false)] [] [] [] ?_ ?_
 ·exact oc (g_ld 3 uN iN)<|oc (g_cl Z9 (fun uZ=>nOf 1 uZ (by omega) (by omega)))<|oc (g_bn (fun uZ=>eql_n _ _ ht In_1 _ hz uZ)) on
 intro u1 HB1 sz1 K1
 simp only[sQ] at K1⊢
 clear K0 HB0
 go_upto_region 3 with fail
 refine rgP K1 HB1 HB1.size [] [(6,9,L0s,some (7,LN i))] [(0,22,NV o),(1,23,NV t),(2,24,.tuple #[NV i,.int .i64 0]),(3,21,.tuple #[NV i,.int .i64 0]),(4,25,NV i),(5,26,.int .i64 0),(8,10,.int .i64 0)] [(7,6)] [] [] ?_ ?_
 ·exact oc (g_ld 1 uN iN)<|oc (g_ld 3 uN iN)<|oc (g_cl ent_mod_Inverse (fun uZ=>mInverse o t i uZ ho ht h hg hi))<|oc g_mv<|oc g_ex<|oc g_ex<|oc (g_al 0 aN)<|oc (g_sn 0 iN)<|oc g_as on
 intro u2 b2_6 HB2 sz2 K2
 simp only[sQ] at K2⊢
 clear K1 HB1
 go_upto_region 4 with fail
 refine rgP K2 HB2 HB2.size [] [(7,11,L0s,some (8,LN ((y -x)%t)))] [(0,28,NV y),(1,29,NV x),(2,30,NV t),(3,31,.tuple #[NV ((y -x)%t),.int .i64 0]),(4,27,.tuple #[NV ((y -x)%t),.int .i64 0]),(5,32,NV ((y -x)%t)),(6,33,.int .i64 0),(9,12,.int .i64 0)] [(8,7)] [] [true,true,false] ?_ ?_
 ·exact oc (g_ld 2 uN iN)<|oc (g_ld 0 uN iN)<|oc (g_ld 3 uN iN)<|oc (g_cl ent_mod_Sub (fun uZ=>mSub y x t uZ hy hx ht h))<|oc g_mv<|oc g_ex<|oc g_ex<|oc (g_al 0 aN)<|oc (g_sn 0 iN)<|oc g_as on
 intro u3 b3_7 HB3 sz3 K3
 simp only[sQ] at K3⊢
 clear K2 HB2
 go_upto_region 5 with fail
 refine rgP K3 HB3 HB3.size [] [(7,13,L0s,some (8,LN ((y -x)%t*i%t)))] [(0,35,NV ((y -x)%t)),(1,36,NV i),(2,37,NV t),(3,38,.tuple #[NV ((y -x)%t*i%t),.int .i64 0]),(4,34,.tuple #[NV ((y -x)%t*i%t),.int .i64 0]),(5,39,NV ((y -x)%t*i%t)),(6,40,.int .i64 0),(9,14,.int .i64 0)] [(8,7)] [] [true,true,false,true,false,false] ?_ ?_
 ·exact oc (g_ld 5 uN iN)<|oc (g_ld 4 uN iN)<|oc (g_ld 2 uN iN)<|oc (g_cl Vy (fun uZ=>mMul ((y -x)%t) i t uZ (Zs ht h) ii ht h))<|oc g_mv<|oc g_ex<|oc g_ex<|oc (g_al 0 aN)<|oc (g_sn 0 iN)<|oc g_as on
 intro u4 b4_7 HB4 sz4 K4
 simp only[sQ] at K4⊢
 clear K3 HB3
 go_upto_region 6 with fail
 refine rgD K4 HB4 HB4.size [] [(9,15,L0s,some (10,LN (x+(y -x)%t*i%t*o)))] [(0,42,NV x),(1,43,NV ((y -x)%t*i%t)),(2,44,NV o),(3,45,WV ((y -x)%t*i%t*o)),(4,46,NV ((y -x)%t*i%t*o)),(5,47,.tuple #[NV (x+(y -x)%t*i%t*o),.bool false]),(6,41,.tuple #[NV (x+(y -x)%t*i%t*o),.bool false]),(7,48,NV (x+(y -x)%t*i%t*o)),(8,49,.bool false),(11,16,.bool false)] [(10,9)] [] [false,false,true,false] ?_ ?_
 ·exact oc (g_ld 0 uN iN)<|oc (g_ld 3 uN iN)<|oc (g_ld 1 uN iN)<|oc (g_cl Xz (fun uZ=>nMul ((y -x)%t*i%t) o uZ (Zs ht h) ho))<|oc (g_cl Wo (fun uZ=>mlowI ((y -x)%t*i%t*o) uZ ip))<|oc (g_cl Va (fun uZ=>nAdd_lt x ((y -x)%t*i%t*o) uZ hx ip is))<|oc g_mv<|oc g_ex<|oc g_ex<|oc (g_al 0 aN)<|oc (g_sn 0 iN)<|oc g_as on
 intro u5 b5_9 HB5 sz5 K5
 simp only[sQ] at K5⊢
 clear K4 HB4
 go_upto_region 7 with fail
 refine rgP K5 HB5 HB5.size [.all 1 (LN (x+(y -x)%t*i%t*o))] [] [(0,50,NV (x+(y -x)%t*i%t*o))] [] [] [true,false] ?_ ?_
 ·exact oc (g_ld 1 uN iN)<|oc (g_st 0 iN) on
 intro u6 HB6 sz6 K6
 simp only[sQ] at K6⊢
 clear K5 HB5
 have c8:=(K6.cv 0).n4
 go_wp2
 refine bodyPost_ret (v:=NV (x+(y -x)%t*i%t*o)) (by simp[results,Tryz.results94,go_sem,c8]) rfl ⟨rfl,HB6⟩
theorem In_R4(n:Int):In (n%115792089237316195423570985008687907853269984665640564039457584007913129639936):=⟨Int.emod_nonneg _ (by decide),Int.emod_lt_of_pos _ (by decide)⟩
theorem mraise_low(a e:Int)(bo:Nat)(w:World)(ha:In a)(he:In e)(lb:bo<w.heap.size):
 CC 91 #[NV a,NV e,NV 1,.func (.func 92) #[] #[]] w (NV (a^e.toNat%115792089237316195423570985008687907853269984665640564039457584007913129639936)):=by
 have hT:Hid (∀(i j:Nat) (u:World),CV u bo []->bo<u.heap.size->Calls Tryz.prog 92 (([]:List Value)++[NV (a^i%115792089237316195423570985008687907853269984665640564039457584007913129639936),NV (a^j%115792089237316195423570985008687907853269984665640564039457584007913129639936)]).toArray u fun en u'=>en= .returned (NV (a^(i+j)%115792089237316195423570985008687907853269984665640564039457584007913129639936))/\Bw u u'):=fun i j u _ _=>by
  have k:=mlowProduct (a^i%115792089237316195423570985008687907853269984665640564039457584007913129639936) (a^j%115792089237316195423570985008687907853269984665640564039457584007913129639936) u (In_R4 _) (In_R4 _)
  rw[<-Int.mul_emod,<-Int.pow_add] at k
  exact k
 have k:=mraise 92 [] (fun k=>a^k%115792089237316195423570985008687907853269984665640564039457584007913129639936) e bo [] w U9 hT he (fun j v hj=>by simp at hj) lb
 have e0:a^0%115792089237316195423570985008687907853269984665640564039457584007913129639936=1:=by rw[Int.pow_zero];decide
 have e1:a^1%115792089237316195423570985008687907853269984665640564039457584007913129639936=a:=by rw[Int.pow_succ,Int.pow_zero,Int.one_mul];exact In_lo ha
 simp only[e0,e1] at k
 exact k
set_option maxHeartbeats 16000000 in
theorem mExp_odd(a e m:Int)(w:World)(ha:In a)(he:In e)(hm:In m)(h:m≠0)(hodd:m%2=1):
 CC 63 #[NV a,NV e,NV m] w (.tuple #[NV (a^e.toNat%m),.int .i64 0]):=by
 have hz:decide (m=0)=false:=by simp[h]
 have hB:Hid (∀u,CC 89 #[NV m,.int .i64 0] u (.bool true)):=fun u=>by
  have k:=nBit m 0 u (by omega) (by omega)
  have e:bitI m 0=true:=by unfold bitI;simp;omega
  rw[e] at k;exact k
 have hJ:Hid (∀u,CC 94 #[NV (a^e.toNat%m),NV m,A4 0 0 0 0,NV 1] u (NV (a^e.toNat%m))):=fun u=>by
  rw[<-NV_0];exact mjoin_1 _ m 0 1 u In_1 rfl
 go_enter Tryz.func63,Tryz.ntmps63
 go_upto_region 1 with fail
 generalize hC:((((w.alloc (.cells (LN a:List Value).toArray 24)).alloc (.cells (LN e:List Value).toArray 24)).alloc (.cells (LN m:List Value).toArray 24)).alloc (.cells (L0s:List Value).toArray 24))=v0 at *
 have HB0:Bw w v0:=by rw[<-hC];exact Z0 (Z0 (Z0 (Z0 (Z5 w) _) _) _) _
 have K0:Bk w.heap.size v0 [(true,w.heap.size,LN a),(true,w.heap.size+1,LN e),(true,w.heap.size+1+1,LN m),(true,w.heap.size+1+1+1,L0s)]:=by rw[<-hC];exact(Bk.nil _ w).ad.ad.ad.ad
 clear hC
 refine rgD K0 HB0 HB0.size [] [(2,8,L0s,some (4,LN m)),(3,9,L0s,some (5,LN 1))] [(0,12,NV m),(1,13,NV 1)] [(4,2),(5,3)] [] [] ?_ ?_
 ·exact oc (g_ld 2 uN iN)<|oc (g_cl Z9 (fun uZ=>nOf 1 uZ (by omega) (by omega)))<|oc (g_al 0 aN)<|oc (g_al 1 aN)<|oc (g_sn 0 iN)<|oc (g_sn 1 iN) on
 intro u1 b1_2 b1_3 HB1 sz1 K1
 simp only[sQ] at K1⊢
 clear K0 HB0
 go_upto_region 2 with fail
 refine rgP K1 HB1 HB1.size [] [(0,10,L0s,none),(1,11,L0s,none)] [] [] [] [] ?_ ?_
 ·exact oc (g_al 0 aN)<|oc (g_al 1 aN) on
 intro u2 b2_0 b2_1 HB2 sz2 K2
 simp only[sQ] at K2⊢
 clear K1 HB1
 go_upto_region 3 with fail
 refine rgP K2 HB2 HB2.size [] [] [(0,15,NV m),(1,16,A4 (0) (0) (0) (0)),(2,17,.bool false),(3,14,.bool false)] [] [] [] ?_ ?_
 ·exact oc (g_ld 2 uN iN)<|oc (g_bd zN)<|oc (g_bn (fun uZ=>Ux _ _ hm _ hz uZ))<|oc g_as on
 intro u3 HB3 sz3 K3
 simp only[sQ] at K3⊢
 clear K2 HB2
 go_upto_region 4 with fail
 refine rgP K3 HB3 HB3.size [] [] [(0,19,NV m),(1,20,.bool true),(2,21,.bool false),(3,18,.bool false)] [] [] [true,true,false] ?_ ?_
 ·exact oc (g_ld 2 uN iN)<|oc (g_cl W0 (fun uZ=>hB.out uZ))<|oc (g_un (fun uZ=>rfl))<|oc g_as on
 intro u4 HB4 sz4 K4
 simp only[sQ] at K4⊢
 clear K3 HB3
 go_upto_region 8 with fail
 refine rgP K4 HB4 HB4.size [.no,.no,.no,.no,.no,.all 4 (LN (a^e.toNat%m))] [] [(0,32,NV a),(1,33,NV e),(2,34,NV m),(3,35,NV (a^e.toNat%m))] [] [] [false,false] ?_ ?_
 ·exact oc (g_ld 0 uN iN)<|oc (g_ld 1 uN iN)<|oc (g_ld 3 uN iN)<|oc (g_cl Xy (fun uZ=>mpow a e m uZ ha he hm h hodd))<|oc (g_st 5 iN) on
 intro u5 HB5 sz5 K5
 simp only[sQ] at K5⊢
 clear K4 HB4
 go_upto_region 9 with fail
 refine rgP K5 HB5 HB5.size [.all 5 (LN (a^e.toNat%m))] [] [(0,36,NV (a^e.toNat%m)),(1,37,NV m),(2,38,A4 (0) (0) (0) (0)),(3,39,NV 1),(4,40,NV (a^e.toNat%m)),(6,7,(Go.Value.int Go.IntKind.i64 0))] [] [] [true,false,false,false,false] ?_ ?_
 ·exact oc (g_ld 3 uN iN)<|oc (g_ld 1 uN iN)<|oc (g_ld 4 uN iN)<|oc (g_ld 2 uN iN)<|oc (g_cl Ut (fun uZ=>hJ.out uZ))<|oc (g_st 0 iN)<|oc g_as on
 intro u6 HB6 sz6 K6
 simp only[sQ] at K6⊢
 clear K5 HB5
 have c6:=(K6.cv 0).n4
 go_wp2
 refine bodyPost_ret (v:= .tuple #[NV (a^e.toNat%m),.int .i64 0]) (by simp[results,Tryz.results63,go_sem,c6]) rfl ⟨rfl,HB6⟩
set_option maxHeartbeats 16000000 in
theorem mExp_even(a e m:Int)(w:World)(ha:In a)(he:In e)(hm:In m)(h:m≠0)(hev:m%2=0):
 CC 63 #[NV a,NV e,NV m] w (.tuple #[NV (a^e.toNat%m),.int .i64 0]):=by
 have hz:decide (m=0)=false:=by simp[h]
 have hB:Hid (∀u,CC 89 #[NV m,.int .i64 0] u (.bool false)):=fun u=>by
  have k:=nBit m 0 u (by omega) (by omega)
  have e:bitI m 0=false:=by unfold bitI;simp;omega
  rw[e] at k;exact k
 obtain⟨s,hs,w0,w1,w2,w3,hdv,hod,hmd⟩:=low_words m hm h
 have hSp:Hid (∀u,CC 90 #[NV m] u (.tuple #[NV (m/2^s),NV (2^s)])):=fun u=>msplit m s u hm h hs w0 w1 w2 w3
 have ip:=In_pow hs
 have hp:(0:Int)<2^s:=Int.pow_pos (by decide)
 have io:In (m/2^s):=In_div hm ip (by omega)
 have hmot:m/2^s*2^s=m:=Int.ediv_mul_cancel hdv
 have hs1:(2:Int)^s≠1:=by
  intro e1
  rw[e1] at hod
  simp at hod;omega
 have hdR:(2:Int)^s∣115792089237316195423570985008687907853269984665640564039457584007913129639936:=by
  have e:(115792089237316195423570985008687907853269984665640564039457584007913129639936:Int)=2^256:=by decide
  rw[e];exact⟨2^(256 -s),by rw[<-Int.pow_add,show s+(256 -s)=256 by omega]⟩
 have hpc:=fun(o:Int) (ho:o%2=1) (h0:0<o)=>pow_coprime o ho h0 s
 clear w0 w1 w2 w3 hmd
 generalize m/2^s=o at *
 generalize (2:Int)^s=t at *
 have ho0:o≠0:=by intro e;subst e;simp at hod
 have hop:0<o:=by have:=io.1;omega
 have hoo:o%2=1:=hod
 have hJ:Hid (∀u,CC 94 #[NV (a^e.toNat%o),NV o,NV (a^e.toNat%115792089237316195423570985008687907853269984665640564039457584007913129639936),NV t] u (NV (a^e.toNat%m))):=fun u=>by
  have hg:=hpc o hoo hop
  obtain⟨i,hi⟩:=IsInv.ex (m:=t) (a:=o%t) (Int.emod_nonneg _ (by omega)) (Int.emod_lt_of_pos _ hp) hg
  have k:=mjoin (a^e.toNat%o) o (a^e.toNat%115792089237316195423570985008687907853269984665640564039457584007913129639936) t i u (Zs io ho0) io (In_R4 _) ip (by omega) hs1 hg hi (Int.emod_lt_of_pos _ hop) (by rw[hmot];have:=hm.2;omega)
  have hti:t∣i*o -1:=by
   obtain⟨q,hq⟩:=hi.2.2
   have e3:=Int.mul_ediv_add_emod o t
   refine⟨q+i*(o/t),?_⟩
   generalize o/t=z at *
   generalize o%t=r at *
   have:r=o -t*z:=by omega
   subst this;grind
  have hA:=crt_join (a^e.toNat) o t i (a^e.toNat%o) (a^e.toNat%115792089237316195423570985008687907853269984665640564039457584007913129639936) hop hp (Int.emod_nonneg _ ho0) (Int.emod_lt_of_pos _ hop) (Int.dvd_self_sub_emod) (Int.dvd_trans hdR Int.dvd_self_sub_emod) hti
  rw[hmot] at hA
  rw[hA] at k
  exact k
 clear hpc hmot hdR hod hs1
 go_enter Tryz.func63,Tryz.ntmps63
 go_upto_region 1 with fail
 generalize hC:((((w.alloc (.cells (LN a:List Value).toArray 24)).alloc (.cells (LN e:List Value).toArray 24)).alloc (.cells (LN m:List Value).toArray 24)).alloc (.cells (L0s:List Value).toArray 24))=v0 at *
 have HB0:Bw w v0:=by rw[<-hC];exact Z0 (Z0 (Z0 (Z0 (Z5 w) _) _) _) _
 have K0:Bk w.heap.size v0 [(true,w.heap.size,LN a),(true,w.heap.size+1,LN e),(true,w.heap.size+1+1,LN m),(true,w.heap.size+1+1+1,L0s)]:=by rw[<-hC];exact(Bk.nil _ w).ad.ad.ad.ad
 clear hC
 refine rgD K0 HB0 HB0.size [] [(2,8,L0s,some (4,LN m)),(3,9,L0s,some (5,LN 1))] [(0,12,NV m),(1,13,NV 1)] [(4,2),(5,3)] [] [] ?_ ?_
 ·exact oc (g_ld 2 uN iN)<|oc (g_cl Z9 (fun uZ=>nOf 1 uZ (by omega) (by omega)))<|oc (g_al 0 aN)<|oc (g_al 1 aN)<|oc (g_sn 0 iN)<|oc (g_sn 1 iN) on
 intro u1 b1_2 b1_3 HB1 sz1 K1
 simp only[sQ] at K1⊢
 clear K0 HB0
 go_upto_region 2 with fail
 refine rgP K1 HB1 HB1.size [] [(0,10,L0s,none),(1,11,L0s,none)] [] [] [] [] ?_ ?_
 ·exact oc (g_al 0 aN)<|oc (g_al 1 aN) on
 intro u2 b2_0 b2_1 HB2 sz2 K2
 simp only[sQ] at K2⊢
 clear K1 HB1
 go_upto_region 3 with fail
 refine rgP K2 HB2 HB2.size [] [] [(0,15,NV m),(1,16,A4 (0) (0) (0) (0)),(2,17,.bool false),(3,14,.bool false)] [] [] [] ?_ ?_
 ·exact oc (g_ld 2 uN iN)<|oc (g_bd zN)<|oc (g_bn (fun uZ=>Ux _ _ hm _ hz uZ))<|oc g_as on
 intro u3 HB3 sz3 K3
 simp only[sQ] at K3⊢
 clear K2 HB2
 go_upto_region 4 with fail
 refine rgP K3 HB3 HB3.size [] [] [(0,19,NV m),(1,20,.bool false),(2,21,.bool true),(3,18,.bool true)] [] [] [] ?_ ?_
 ·exact oc (g_ld 2 uN iN)<|oc (g_cl W0 (fun uZ=>hB.out uZ))<|oc (g_un (fun uZ=>rfl))<|oc g_as on
 intro u4 HB4 sz4 K4
 simp only[sQ] at K4⊢
 clear K3 HB3
 go_upto_region 6 with fail
 refine rgP K4 HB4 HB4.size [.no,.no,.no,.no,.all 5 (LN o),.all 6 (LN t)] [] [(0,24,NV m),(1,25,.tuple #[NV o,NV t]),(2,23,.tuple #[NV o,NV t]),(3,26,NV o),(4,27,NV t)] [] [] [true,true,false] ?_ ?_
 ·exact oc (g_ld 2 uN iN)<|oc (g_cl ent_mod_split (fun uZ=>hSp.out uZ))<|oc g_mv<|oc g_ex<|oc g_ex<|oc (g_st 4 iN)<|oc (g_st 5 iN) on
 intro u5 HB5 sz5 K5
 simp only[sQ] at K5⊢
 clear K4 HB4
 go_upto_region 7 with fail
 refine rgD K5 HB5 HB5.size [.no,.no,.no,.no,.no,.no,.all 4 (LN (a^e.toNat%115792089237316195423570985008687907853269984665640564039457584007913129639936))] [] [(0,28,NV a),(1,29,NV e),(2,30,NV 1),(3,31,NV (a^e.toNat%115792089237316195423570985008687907853269984665640564039457584007913129639936))] [] [] [] ?_ ?_
 ·exact oc (g_ld 0 uN iN)<|oc (g_ld 1 uN iN)<|oc (g_cl Z9 (fun uZ=>nOf 1 uZ (by omega) (by omega)))<|oc (g_ck U7 (fun fZ uZ kZ sZ=>mraise_low a e (w.heap.size) uZ ha he (kZ.lb sZ 0)))<|oc (g_st 6 iN) on
 intro u6 HB6 sz6 K6
 simp only[sQ] at K6⊢
 clear K5 HB5
 go_upto_region 8 with fail
 refine rgP K6 HB6 HB6.size [.no,.no,.no,.no,.no,.all 4 (LN (a^e.toNat%o))] [] [(0,32,NV a),(1,33,NV e),(2,34,NV o),(3,35,NV (a^e.toNat%o))] [] [] [false,false] ?_ ?_
 ·exact oc (g_ld 0 uN iN)<|oc (g_ld 1 uN iN)<|oc (g_ld 3 uN iN)<|oc (g_cl Xy (fun uZ=>mpow a e o uZ ha he io ho0 hoo))<|oc (g_st 5 iN) on
 intro u7 HB7 sz7 K7
 simp only[sQ] at K7⊢
 clear K6 HB6
 go_upto_region 9 with fail
 refine rgP K7 HB7 HB7.size [.all 5 (LN (a^e.toNat%m))] [] [(0,36,NV (a^e.toNat%o)),(1,37,NV o),(2,38,NV (a^e.toNat%115792089237316195423570985008687907853269984665640564039457584007913129639936)),(3,39,NV t),(4,40,NV (a^e.toNat%m)),(6,7,(Go.Value.int Go.IntKind.i64 0))] [] [] [true,false,false,false,false] ?_ ?_
 ·exact oc (g_ld 3 uN iN)<|oc (g_ld 1 uN iN)<|oc (g_ld 4 uN iN)<|oc (g_ld 2 uN iN)<|oc (g_cl Ut (fun uZ=>hJ.out uZ))<|oc (g_st 0 iN)<|oc g_as on
 intro u8 HB8 sz8 K8
 simp only[sQ] at K8⊢
 clear K7 HB7
 have c6:=(K8.cv 0).n4
 go_wp2
 refine bodyPost_ret (v:= .tuple #[NV (a^e.toNat%m),.int .i64 0]) (by simp[results,Tryz.results63,go_sem,c6]) rfl ⟨rfl,HB8⟩
theorem mExp(a e m:Int)(w:World)(ha:In a)(he:In e)(hm:In m)(h:m≠0):
 CC 63 #[NV a,NV e,NV m] w (.tuple #[NV (a^e.toNat%m),.int .i64 0]):=by
 rcases Int.emod_two_eq m with h2 | h2
 ·exact mExp_even a e m w ha he hm h h2
 ·exact mExp_odd a e m w ha he hm h h2
end
end Go.Proofs.YtknpepgonhdbgaaGreatDoor
