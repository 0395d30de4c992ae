import Derived.Test.YtoffgfhilkpdpaaGreatDoorYD
namespace Go.Proofs.YtoffgfhilkpdpaaGreatDoor
set_option linter.unusedVariables false
set_option linter.unusedSimpArgs false
set_option maxRecDepth 100000
set_option maxHeartbeats 4000000
open Go.RowKit
theorem nAdd_lt(a b:Int)(w:World)(ha:In a)(hb:In b)(h:a+b<0x10000000000000000000000000000000000000000000000000000000000000000):CC 102 #[NV a,NV b] w (.tuple #[NV (a+b),.bool false]):=by
 have e:ovB a b=false:=by unfold ovB;simp;omega
 have k:=nAdd a b w ha hb
 rw[e] at k;exact k
theorem NV_less(s:Int):NV (s -0x10000000000000000000000000000000000000000000000000000000000000000)=NV s:=by
 have e0:D0 (s -0x10000000000000000000000000000000000000000000000000000000000000000)=D0 s:=by unfold D0;omega
 have e1:D1 (s -0x10000000000000000000000000000000000000000000000000000000000000000)=D1 s:=by unfold D1;omega
 have e2:D2 (s -0x10000000000000000000000000000000000000000000000000000000000000000)=D2 s:=by unfold D2;omega
 have e3:D3 (s -0x10000000000000000000000000000000000000000000000000000000000000000)=D3 s:=by unfold D3;omega
 rw[NV,e0,e1,e2,e3]
theorem nAdd_ge(a b:Int)(w:World)(ha:In a)(hb:In b)(h:0x10000000000000000000000000000000000000000000000000000000000000000<=a+b):CC 102 #[NV a,NV b] w (.tuple #[NV (a+b -0x10000000000000000000000000000000000000000000000000000000000000000),.bool true]):=by
 have e:ovB a b=true:=by unfold ovB;simp;omega
 have k:=nAdd a b w ha hb
 rw[e] at k;rw[NV_less];exact k
theorem Xl(n m:Int)(w:World)(hn:InW n)(hm:In m)(h:m≠0):
 CC 103 #[WV n,NV m] w (.tuple #[NV (n%m),iI 0]):=by
 go_enter Tryz.func103,Tryz.ntmps103
 go_wp2_with fail
 refine(nDivide n m _ hn hm h).mono ?_
 rintro e w1 ⟨rfl,hB⟩
 obtain⟨hcell,hfroz,hsize⟩:=bcell hB
 simp only[World.size_alloc] at hsize hcell hfroz
 have z0:w.heap.size<w1.heap.size:=Z1
 have z1:w.heap.size+1<w1.heap.size:=Z1
 have z2:w.heap.size+1+1<w1.heap.size:=Z1
 have hB':Bw w w1:=Below.trans (by go_grown) (hB.mono (by simp;omega))
 clear hn hm h hB
 go_wp2
 refine bodyPost_ret (v:= .tuple #[NV (n%m),iI 0]) (by simp[results,Tryz.results103,go_sem,hcell,z0,z1,z2]) rfl ⟨rfl,?_⟩
 go_grown
theorem NV_more(s:Int):NV (s+0x10000000000000000000000000000000000000000000000000000000000000000)=NV s:=by rw[<-NV_less (s+0x10000000000000000000000000000000000000000000000000000000000000000)];congr 1<;>omega
theorem nSub_ge(a b:Int)(w:World)(ha:In a)(hb:In b)(h:b<=a):CC 152 #[NV a,NV b] w (.tuple #[NV (a -b),.bool false]):=by
 have e:ltB a b=false:=by unfold ltB;simp;omega
 have k:=nSub a b w ha hb
 rw[e] at k;exact k
theorem nSub_lt(a b:Int)(w:World)(ha:In a)(hb:In b)(h:a<b):CC 152 #[NV a,NV b] w (.tuple #[NV (a -b+0x10000000000000000000000000000000000000000000000000000000000000000),.bool true]):=by
 have e:ltB a b=true:=by unfold ltB;simp;omega
 have k:=nSub a b w ha hb
 rw[e] at k;rw[NV_more];exact k
theorem mSub_lt(a b m:Int)(w:World)(ha:In a)(hb:In b)(hm:In m)(h:m≠0)(hc:a%m<b%m):
 CC 159 #[NV a,NV b,NV m] w (.tuple #[NV ((a -b)%m),iI 0]):=by
 have hm0:=hm.1
 have h1:=Int.emod_nonneg a h
 have h2:=Int.emod_lt_of_pos b (show 0<m by omega)
 have h3:=Int.emod_nonneg b h
 have h4:=Int.emod_lt_of_pos a (show 0<m by omega)
 have hm2:=hm.2
 have hr:NV ((a -b)%m)=NV (a%m -b%m+0x10000000000000000000000000000000000000000000000000000000000000000+m -0x10000000000000000000000000000000000000000000000000000000000000000):=by
  congr 1
  rw[Int.sub_emod,<-Int.add_emod_right (a%m -b%m) m,Int.emod_eq_of_lt Z1 Z1]
  omega
 have hi:In (a%m -b%m+0x10000000000000000000000000000000000000000000000000000000000000000):=⟨Z1,Z1⟩
 have hj:0x10000000000000000000000000000000000000000000000000000000000000000<=a%m -b%m+0x10000000000000000000000000000000000000000000000000000000000000000+m:=Z1
 have Hr:Hid _:=hr
 clear hr h1 h2 h3 h4 hm2 hm0
 go_enter Tryz.func159,Tryz.ntmps159
 go_upto_region 1 with fail
 obtain⟨v0,hC,HB0,K0⟩:=bx4 w (LN a) 24 (LN b) 24 (LN m) 24 L0s 24
 rw[hC]
 clear hC
 refine Rd K0 HB0 [.all 7 (LN (a%m))] [] (cG 0 12 [_,_,_,_] [(4,11,_),(5,16,_),(6,17,_),(8,8,_)]) [(7,0)] [] [] (Oc9 (g_ld 0 uN iN) (g_cl Zl (fun uZ=>W6 a uZ ha)) (g_ld 2 uN iN) (g_cl Zp (fun uZ=>Xl a m uZ ha.wide hm h)) g_mv g_ex g_ex (g_st 0 iN) g_as) fun u1 HB1 _ K1=>?_
 simp only[sQ] at K1⊢
 go_upto_region 4 with fail
 refine Rd K1 HB1 [.no,.all 7 (LN (b%m))] [] (cG 0 23 [_,_,_,_] [(4,22,_),(5,27,_),(6,28,_)]) [(7,0)] [] [] (Oc8 (g_ld 1 uN iN) (g_cl Zl (fun uZ=>W6 b uZ hb)) (g_ld 2 uN iN) (g_cl Zp (fun uZ=>Xl b m uZ hb.wide hm h)) g_mv g_ex g_ex (g_st 1 iN)) fun u2 HB2 _ K2=>?_
 simp only[sQ] at K2⊢
 go_upto_region 5 with fail
 refine Rp K2 HB2 [] [(6,9,L0s,some (7,LN (a%m -b%m+0x10000000000000000000000000000000000000000000000000000000000000000)))] (cG 0 30 [_,_,_] [(3,29,_),(4,33,_),(5,34,_),(8,10,_)]) [(7,6)] [] [false,false] (Oc9 (g_ld 0 uN iN) (g_ld 1 uN iN) (g_cl Yt (fun uZ=>nSub_lt (a%m) (b%m) uZ (Zt hm h) (Zt hm h) hc)) g_mv g_ex g_ex (g_al 0 aN) (g_sn 0 iN) g_as) fun u3 b3_6 HB3 _ K3=>?_
 simp only[sQ] at K3⊢
 go_upto_region 7 with fail
 refine Rp K3 HB3 [.no,.no,.all 6 (LN (a%m -b%m+0x10000000000000000000000000000000000000000000000000000000000000000+m -0x10000000000000000000000000000000000000000000000000000000000000000))] [] (cG 0 37 [_,_,_] [(3,36,_),(4,40,_),(5,41,_)]) [(6,0)] [] [false] (Oc7 (g_ld 2 uN iN) (g_ld 0 uN iN) (g_cl Xd (fun uZ=>nAdd_ge (a%m -b%m+0x10000000000000000000000000000000000000000000000000000000000000000) m uZ hi hm hj)) g_mv g_ex g_ex (g_st 2 iN)) fun u4 HB4 _ K4=>?_
 simp only[sQ] at K4⊢
 go_upto_region 8 with fail
 refine Rp K4 HB4 [.all 1 (LN (a%m -b%m+0x10000000000000000000000000000000000000000000000000000000000000000+m -0x10000000000000000000000000000000000000000000000000000000000000000))] [] [(0,42,_),(2,7,_)] [] [] [true,false] (Oc3 (g_ld 1 uN iN) (g_st 0 iN) g_as) fun u5 HB5 _ K5=>?_
 simp only[sQ] at K5⊢
 have c6:=(K5.cv 0).n4
 go_wp2
 refine bodyPost_ret (v:= .tuple #[NV (a%m -b%m+0x10000000000000000000000000000000000000000000000000000000000000000+m -0x10000000000000000000000000000000000000000000000000000000000000000),iI 0]) (by simp[results,Tryz.results159,go_sem,c6]) rfl ⟨by rw[Hr.out],HB5⟩
theorem mSub_ge(a b m:Int)(w:World)(ha:In a)(hb:In b)(hm:In m)(h:m≠0)(hc:b%m<=a%m):
 CC 159 #[NV a,NV b,NV m] w (.tuple #[NV ((a -b)%m),iI 0]):=by
 have hm0:=hm.1
 have h3:=Int.emod_nonneg b h
 have h4:=Int.emod_lt_of_pos a (show 0<m by omega)
 have hr:NV ((a -b)%m)=NV (a%m -b%m):=by
  congr 1
  rw[Int.sub_emod,Int.emod_eq_of_lt Z1 Z1]
 have Hr:Hid _:=hr
 clear hr h3 h4 hm0
 go_enter Tryz.func159,Tryz.ntmps159
 go_upto_region 1 with fail
 obtain⟨v0,hC,HB0,K0⟩:=bx4 w (LN a) 24 (LN b) 24 (LN m) 24 L0s 24
 rw[hC]
 clear hC
 refine Rd K0 HB0 [.all 7 (LN (a%m))] [] (cG 0 12 [_,_,_,_] [(4,11,_),(5,16,_),(6,17,_),(8,8,_)]) [(7,0)] [] [] (Oc9 (g_ld 0 uN iN) (g_cl Zl (fun uZ=>W6 a uZ ha)) (g_ld 2 uN iN) (g_cl Zp (fun uZ=>Xl a m uZ ha.wide hm h)) g_mv g_ex g_ex (g_st 0 iN) g_as) fun u1 HB1 _ K1=>?_
 simp only[sQ] at K1⊢
 go_upto_region 4 with fail
 refine Rd K1 HB1 [.no,.all 7 (LN (b%m))] [] (cG 0 23 [_,_,_,_] [(4,22,_),(5,27,_),(6,28,_)]) [(7,0)] [] [true,true,false] (Oc8 (g_ld 1 uN iN) (g_cl Zl (fun uZ=>W6 b uZ hb)) (g_ld 2 uN iN) (g_cl Zp (fun uZ=>Xl b m uZ hb.wide hm h)) g_mv g_ex g_ex (g_st 1 iN)) fun u2 HB2 _ K2=>?_
 simp only[sQ] at K2⊢
 go_upto_region 5 with fail
 refine Rp K2 HB2 [] [(6,9,L0s,some (7,LN (a%m -b%m)))] (cG 0 30 [_,_,_] [(3,29,_),(4,33,_),(5,34,_),(8,10,_)]) [(7,6)] [] [false,false] (Oc9 (g_ld 0 uN iN) (g_ld 1 uN iN) (g_cl Yt (fun uZ=>nSub_ge (a%m) (b%m) uZ (Zt hm h) (Zt hm h) hc)) g_mv g_ex g_ex (g_al 0 aN) (g_sn 0 iN) g_as) fun u3 b3_6 HB3 _ K3=>?_
 simp only[sQ] at K3⊢
 go_upto_region 8 with fail
 refine Rp K3 HB3 [.all 1 (LN (a%m -b%m))] [] [(0,42,_),(2,7,_)] [] [] [true,false] (Oc3 (g_ld 1 uN iN) (g_st 0 iN) g_as) fun u4 HB4 _ K4=>?_
 simp only[sQ] at K4⊢
 have c6:=(K4.cv 0).n4
 go_wp2
 refine bodyPost_ret (v:= .tuple #[NV (a%m -b%m),iI 0]) (by simp[results,Tryz.results159,go_sem,c6]) rfl ⟨by rw[Hr.out],HB4⟩
theorem mSub(a b m:Int)(w:World)(ha:In a)(hb:In b)(hm:In m)(h:m≠0):
 CC 159 #[NV a,NV b,NV m] w (.tuple #[NV ((a -b)%m),iI 0]):=by
 by_cases hc:a%m<b%m
 ·exact mSub_lt a b m w ha hb hm h hc
 ·exact mSub_ge a b m w ha hb hm h Z1
theorem mMul(a b m:Int)(w:World)(ha:In a)(hb:In b)(hm:In m)(h:m≠0):
 CC 115 #[NV a,NV b,NV m] w (.tuple #[NV (a*b%m),iI 0]):=by
 go_enter Tryz.func115,Tryz.ntmps115
 go_upto_region 1 with fail
 obtain⟨v0,hC,HB0,K0⟩:=bx4 w (LN a) 24 (LN b) 24 (LN m) 24 L0s 24
 rw[hC]
 clear hC
 refine Rd K0 HB0 [.no,.no,.no,.all 7 (LN (a*b%m))] [] (cG 0 8 [_,_,_,_,_,_,_] [(8,7,_)]) [] [] [false,false,false] (Oc9 (g_ld 0 uN iN) (g_ld 1 uN iN) (g_cl Xw (fun uZ=>nMul a b uZ ha hb)) (g_ld 2 uN iN) (g_cl Zp (fun uZ=>Xl (a*b) m uZ (In_mul ha hb) hm h)) g_ex g_ex (g_st 3 iN) g_as) fun u1 HB1 _ K1=>?_
 simp only[sQ] at K1⊢
 have c6:=(K1.cv 0).n4
 go_wp2
 refine bodyPost_ret (v:= .tuple #[NV (a*b%m),iI 0]) (by simp[results,Tryz.results115,go_sem,c6]) rfl ⟨rfl,HB1⟩
theorem LN_LW(n:Int):A4 (D0 n) (D1 n) (D2 n) (D3 n)=NV (n%0x10000000000000000000000000000000000000000000000000000000000000000):=by
 have e0:D0 (n%0x10000000000000000000000000000000000000000000000000000000000000000)=D0 n:=by unfold D0;omega
 have e1:D1 (n%0x10000000000000000000000000000000000000000000000000000000000000000)=D1 n:=by unfold D1;omega
 have e2:D2 (n%0x10000000000000000000000000000000000000000000000000000000000000000)=D2 n:=by unfold D2;omega
 have e3:D3 (n%0x10000000000000000000000000000000000000000000000000000000000000000)=D3 n:=by unfold D3;omega
 rw[NV,e0,e1,e2,e3]
theorem mlow(n:Int)(w:World):CC 154 #[WV n] w (NV (n%0x10000000000000000000000000000000000000000000000000000000000000000)):=by
 have har: ∀b w,(Instr.arrayAt 24 (.slice (some ⟨b,0,none⟩) 4 8)).run Tryz.prog w= .ok (.pointer (some ⟨b,0,none⟩)) w:=fun _ _=>by kernel_rfl
 rw[<-LN_LW]
 go_enter Tryz.func154,Tryz.ntmps154
 go_wp2
 go_returns
 exact⟨rfl,by go_grown⟩
theorem In_div{a b:Int}(ha:In a)(hb:In b)(h:b≠0):In (a/b):=by
 have h0:=hb.1;have h1:=ha.1;have h2:=ha.2
 have:a/b<=a:=Int.ediv_le_self _ h1
 exact⟨Int.ediv_nonneg h1 h0,Z1⟩
theorem In_lo{n:Int}(h:In n):n%0x10000000000000000000000000000000000000000000000000000000000000000=n:=Int.emod_eq_of_lt h.1 h.2
theorem mdivide(a b:Int)(w:World)(ha:In a)(hb:In b)(h:b≠0):
 CC 153 #[NV a,NV b] w (.tuple #[NV (a/b),NV (a%b)]):=by
 go_enter Tryz.func153,Tryz.ntmps153
 go_upto_region 1 with fail
 obtain⟨v0,hC,HB0,K0⟩:=bx4 w (LN a) 24 (LN b) 24 L0s 24 L0s 24
 rw[hC]
 clear hC
 refine Rd K0 HB0 [.no,.no,.no,.all 10 (LN (a%b))] [(8,6,L0w,some (9,LW (a/b)))] (cG 0 9 [_,_,_,_] [(4,8,_),(5,13,_),(6,14,_),(7,15,_),(11,7,_)]) [(9,8)] [] [false,false] (Od8 (g_ld 0 uN iN) (g_cl Zl (fun uZ=>W6 a uZ ha)) (g_ld 1 uN iN) (g_cl Vc (fun uZ=>nDivide a b uZ ha.wide hb h)) g_mv g_ex g_ex g_ex<|Oc4 (g_al 0 aW) (g_sn 0 iW) (g_st 3 iN) g_as) fun u1 b1_8 HB1 _ K1=>?_
 simp only[sQ] at K1⊢
 go_upto_region 2 with fail
 refine Rd K1 HB1 [.all 3 (LN (a/b%0x10000000000000000000000000000000000000000000000000000000000000000)),.all 4 (LN (a%b))] [] (cG 0 16 [_,_,_] []) [(4,2)] [] [true,true,false] (Oc5 (g_ld 2 uW iW) (g_cl Wm (mlow (a/b))) (g_ld 1 uN iN) (g_st 0 iN) (g_st 1 iN)) fun u2 HB2 _ K2=>?_
 simp only[sQ] at K2⊢
 have c4:=(K2.cv 0).n4
 have c5:=(K2.cv 1).n4
 go_wp2
 refine bodyPost_ret (v:= .tuple #[NV (a/b%0x10000000000000000000000000000000000000000000000000000000000000000),NV (a%b)]) (by simp[results,Tryz.results153,go_sem,c4,c5]) rfl ⟨by rw[In_lo (In_div ha hb h)],HB2⟩
theorem nrAdd(a b:Int)(w:World)(ha:In a)(hb:In b):CC 42 #[NV a,NV b] w (.tuple #[NV (a+b),.bool (ovB a b)]):=by
 have k:=rAdd_any _ _ _ _ _ _ _ _ w (W_D0 a) (W_D1 a) (W_D2 a) (W_D3 a) (W_D0 b) (W_D1 b) (W_D2 b) (W_D3 b)
 simp only[V_In ha,V_In hb] at k
 have e:(D4 (a+b)==1)=ovB a b:=by
  unfold In at ha hb;unfold ovB D4;rw[Bool.eq_iff_iff];simp;omega
 rw[e] at k
 exact k
theorem nrSub(a b:Int)(w:World)(ha:In a)(hb:In b):CC 93 #[NV a,NV b] w (.tuple #[NV (a -b),.bool (ltB a b)]):=by
 have k:=rSub_any _ _ _ _ _ _ _ _ w (W_D0 a) (W_D1 a) (W_D2 a) (W_D3 a) (W_D0 b) (W_D1 b) (W_D2 b) (W_D3 b)
 simp only[V_In ha,V_In hb] at k
 have e:(-D4 (a -b)==1)=ltB a b:=by
  unfold In at ha hb;unfold ltB D4;rw[Bool.eq_iff_iff];simp;omega
 rw[e] at k
 exact k
theorem nrMul(a b:Int)(w:World)(ha:In a)(hb:In b):CC 47 #[NV a,NV b] w (WV (a*b)):=by
 have k:=rMul_any _ _ _ _ _ _ _ _ w (W_D0 a) (W_D1 a) (W_D2 a) (W_D3 a) (W_D0 b) (W_D1 b) (W_D2 b) (W_D3 b)
 simp only[V_In ha,V_In hb] at k
 exact k
def rzN(R x m i:Nat):Nat:=(R*2^i+x/2^(64 -i))%m
def ryN(R x m i:Nat):Nat:=(R*2^i+x/2^(64 -i))/m*2^(64 -i)
theorem rz_st{R x m i:Nat}(hi:i<64)(hm:0<m)(hR:R<m)(hx:x<18446744073709551616):(2*rzN R x m i+x/2^(63 -i)%2<m->rzN R x m (i+1)=2*rzN R x m i+x/2^(63 -i)%2/\ryN R x m (i+1)=ryN R x m i)/\(m<=2*rzN R x m i+x/2^(63 -i)%2->rzN R x m (i+1)=2*rzN R x m i+x/2^(63 -i)%2 -m/\ryN R x m (i+1)=ryN R x m i+2^(63 -i)):=by
 obtain⟨c,hc⟩:=Z3 (63 -i)
 have e1:64 -i=c+1:=Z1
 have e2:64 -(i+1)=c:=Z1
 unfold rzN ryN
 rw[e1,e2,hc]
 have hA:R*2^(i+1)+x/2^c=2*(R*2^i+x/2^(c+1))+x/2^c%2:=by
  rw[Nat.pow_succ 2 c,<-Nat.div_div_eq_div_mul,Nat.pow_succ 2 i]
  have:=Nat.div_add_mod (x/2^c) 2
  grind
 rw[hA]
 obtain⟨A,eA⟩:=Z3 (R*2^i+x/2^(c+1))
 obtain⟨b,eb⟩:=Z3 (x/2^c%2)
 have hb:b<2:=Z1
 rw[eA,eb]
 have hd:=Nat.div_add_mod A m
 have hl:=Nat.mod_lt A hm
 obtain⟨q,eq⟩:=Z3 (A/m)
 obtain⟨r,er⟩:=Z3 (A%m)
 rw[eq,er] at hd
 rw[er] at hl
 rw[eq,er]
 have h2:2*A+b=(2*r+b)+m*(2*q):=by rw[<-hd];grind
 rw[h2,Nat.add_mul_mod_self_left,Nat.add_mul_div_left _ _ hm,Nat.pow_succ]
 refine⟨fun h=>?_,fun h=>?_⟩
 ·rw[Nat.mod_eq_of_lt h,Nat.div_eq_of_lt h]
  exact⟨rfl,by grind⟩
 ·have h3:2*r+b=(2*r+b -m)+m*1:=Z1
  have h4:2*r+b -m<m:=Z1
  obtain⟨s,es⟩:=Z3 (2*r+b -m)
  rw[es] at h3 h4⊢
  rw[h3,Nat.add_mul_mod_self_left,Nat.add_mul_div_left _ _ hm,Nat.mod_eq_of_lt h4,Nat.div_eq_of_lt h4]
  exact⟨rfl,by grind⟩
theorem and_bit(x s:Nat):x&&&2^s=x/2^s%2*2^s:=by
 have tb:x.testBit s=decide (x/2^s%2=1):=Nat.testBit_eq_decide_div_mod_eq
 refine Nat.eq_of_testBit_eq fun i=>?_
 rw[Nat.testBit_and,Nat.testBit_two_pow]
 rcases (by omega:x/2^s%2=0\/x/2^s%2=1) with h | h<;>rw[h] at tb⊢
 ·rw[Nat.zero_mul,Nat.zero_testBit]
  by_cases hi:s=i
  ·subst hi;rw[tb];simp
  ·simp[hi]
 ·rw[Nat.one_mul,Nat.testBit_two_pow]
  by_cases hi:s=i
  ·subst hi;rw[tb];simp
  ·simp[hi]
theorem dnD_low(m n:Nat): ∀i,i<=m-> ∀j,i+j<m->(dnD m n i).getD j 0=0
 | 0,_,j,h=>by rw[dnD,List.getD_eq_getElem?_getD,List.getElem?_replicate];split<;>rfl
 | i+1,h,j,h2=>by
  rw[dnD,Wh _ _ _ _ (by rw[Uv];omega),if_neg Z1]
  exact dnD_low m n i Z1 j Z1
theorem set_self(l:List Nat)(k:Nat)(h:l.getD k 0=0):l.set k 0=l:=by
 by_cases hk:k<l.length
 ·refine list_ext (n:=l.length) (by rw[List.length_set]) rfl fun j hj=>?_
  rw[Wh _ _ _ _ hk];split
  ·rename_i e;rw[e,h]
  ·rfl
 ·exact List.set_eq_of_length_le Z1
theorem bdQ1(x:Int)(u:World):(Instr.build 24 ([0].zip [iU x]).toArray).run Tryz.prog u= .ok (A4 x 0 0 0) u:=by kernel_rfl
theorem NV_md(t c:Int):NV (t%0x10000000000000000000000000000000000000000000000000000000000000000 -c)=NV (t -c):=by
 have q0:D0 (t%0x10000000000000000000000000000000000000000000000000000000000000000 -c)=D0 (t -c):=by unfold D0;omega
 have q1:D1 (t%0x10000000000000000000000000000000000000000000000000000000000000000 -c)=D1 (t -c):=by unfold D1;omega
 have q2:D2 (t%0x10000000000000000000000000000000000000000000000000000000000000000 -c)=D2 (t -c):=by unfold D2;omega
 have q3:D3 (t%0x10000000000000000000000000000000000000000000000000000000000000000 -c)=D3 (t -c):=by unfold D3;omega
 unfold NV;rw[q0,q1,q2,q3]
theorem rdiv_any(N M:Nat)(w:World)(hN:N<18446744073709551616^8)(h0:0<M)(hM:M<0x10000000000000000000000000000000000000000000000000000000000000000):CC 70 #[WV (N:Int),NV (M:Int)] w (.tuple #[WV ((N:Int)/M),NV ((N:Int)%M),iI 0]):=by
 have hIn:In (M:Int):=⟨Z1,Z1⟩
 have hRm: ∀j,N/18446744073709551616^j%M<M:=fun j=>Nat.mod_lt _ h0
 have hP: ∀j,j<8->N/18446744073709551616^(7 -j)=N/18446744073709551616^(8 -j)*18446744073709551616+dgq N (7 -j):=fun j hj=>by
  unfold dgq
  rw[show 8 -j=7 -j+1 by omega,Nat.pow_succ,<-Nat.div_div_eq_div_mul];omega
 have hD: ∀j,j<8->ryN (N/18446744073709551616^(8 -j)%M) (dgq N (7 -j)) M 64=dgq (N/M) (7 -j)/\rzN (N/18446744073709551616^(8 -j)%M) (dgq N (7 -j)) M 64=N/18446744073709551616^(8 -(j+1))%M:=fun j hj=>by
  have:=div_dg (N:=N) (D:=M) (7 -j) h0
  unfold ryN rzN
  rw[show 8 -(j+1)=7 -j by omega,show 8 -j=7 -j+1 by omega]
  simpa using this
 have hlow: ∀j,j<8->(dnD 8 (N/M) j).getD (7 -j) 0=0:=fun j hj=>dnD_low 8 _ j Z1 _ Z1
 rw[show WV (N:Int)= .agg (LW (N:Int)).toArray from rfl,wv_u]
 have K:=rdiv_core (M:Int) ((N:Int)/M) (dgs 8 N) (fun j=>decide (N/18446744073709551616^(8 -j)≠0)) (fun j=>((N/18446744073709551616^(8 -j)%M:Nat):Int)) (fun j i=>((rzN (N/18446744073709551616^(8 -j)%M) (dgq N (7 -j)) M i:Nat):Int)) (fun j i=>((dgq N (7 -j)/2^(63 -i)%2:Nat):Int)) (fun j i=>ryN (N/18446744073709551616^(8 -j)%M) (dgq N (7 -j)) M i) (fun i=>if i<64 then 2^(63 -i) else 0) (dnD 8 (N/M)) (fun t=>ltB (t%0x10000000000000000000000000000000000000000000000000000000000000000) M) w Z1 Z1 (Yz _ _) (fun p q u=>?_) (fun t t0 t1 u=>?_) (fun z z0 z1 u=>?_) (fun t u=>?_) (fun z p q u=>?_) (fun z z0 b hb=>?_) (fun k u=>?_) (fun k=>dgs_lt _ _ _) ?_ rfl ?_ (Uv 8 _) (fun j hj hb hx=>?_) (fun j hj hb=>?_) (fun j hj=>?_) (fun j hj i hi=>?_) (fun j hj=>?_) (fun j hj=>?_) (fun j hj=>?_) (fun j hj i hi=>?_) (fun j hj i hi b hb=>?_) (fun j hj i hi=>?_) rfl rfl (fun i hi=>?_) (fun i hi=>?_) ?_
 ·refine K.mono ?_
  rintro e u ⟨rfl,hB⟩
  refine⟨?_,hB⟩
  show Ending.returned (.tuple #[WV ((N:Int)/M),NV ((N/18446744073709551616^0%M:Nat):Int),iI 0])=_
  rw[Nat.pow_zero,Nat.div_one,Int.natCast_emod]
 ·have he0:eq4 (D0 (M:Int)) (D1 (M:Int)) (D2 (M:Int)) (D3 (M:Int)) 0 0 0 0=false:=by
   rw[Bool.eq_false_iff];intro hq
   rw[eq4_iff] at hq
   have:=V_In hIn
   rw[hq.1,hq.2.1,hq.2.2.1,hq.2.2.2] at this
   have:(0:Int)=M:=this
   omega
  go_simp
 ·have k:=V5 _ _ _ _ _ _ _ _ u (W_D0 t) (W_D1 t) (W_D2 t) (W_D3 t) (W_D0 (M:Int)) (W_D1 (M:Int)) (W_D2 (M:Int)) (W_D3 (M:Int))
  rw[V_In (n:=t) ⟨t0,t1⟩,V_In hIn] at k
  exact k
 ·exact nrAdd z z u ⟨z0,Z1⟩ ⟨z0,Z1⟩
 ·have k:=nrSub (t%0x10000000000000000000000000000000000000000000000000000000000000000) M u ⟨Z1,Z1⟩ hIn
  rw[show NV (t%0x10000000000000000000000000000000000000000000000000000000000000000)=NV t by have:=NV_md t 0;rwa [Int.sub_zero,Int.sub_zero] at this,NV_md] at k
  exact k
 ·have e:IntKind.u64.wrap (D0 (z+z)+1)=D0 (z+z)+1:=by rw[IntKind.wrap_u64];unfold D0;omega
  go_simp
 ·subst hb
  have q0:D0 (z+z)+1=D0 (2*z+1):=by unfold D0;omega
  have q1:D1 (z+z)=D1 (2*z+1):=by unfold D1;omega
  have q2:D2 (z+z)=D2 (2*z+1):=by unfold D2;omega
  have q3:D3 (z+z)=D3 (2*z+1):=by unfold D3;omega
  rw[q0,q1,q2,q3]
 ·have hk:=dgs_lt 8 N k
  rw[Xz Z1 Z1]
  exact bdQ1 _ u
 ·show decide (N/18446744073709551616^8≠0)=false
  rw[Nat.div_eq_of_lt hN];rfl
 ·show ((N/18446744073709551616^8%M:Nat):Int)=0
  rw[Nat.div_eq_of_lt hN,Nat.zero_mod];rfl
 ·rw[Ym Z1] at hx⊢
  have hz:N/18446744073709551616^(8 -j)=0:=by simpa using hb
  have hp:=hP j hj
  rw[hz,Nat.zero_mul,Nat.zero_add] at hp
  have hx':dgq N (7 -j)<M:=Z1
  have hdq:dgq (N/M) (7 -j)=0:=by
   unfold dgq
   rw[Nat.div_div_eq_div_mul,Nat.mul_comm,<-Nat.div_div_eq_div_mul,hp,Nat.div_eq_of_lt hx']
  refine⟨?_,?_,?_⟩
  ·rw[show 8 -(j+1)=7 -j by omega,hp,Nat.mod_eq_of_lt hx']
  ·rw[dnD,show 8 -1 -j=7 -j by omega,hdq];exact set_self _ _ (hlow j hj)
  ·rw[show 8 -(j+1)=7 -j by omega,hp];exact decide_eq_decide.2 Nat.pos_iff_ne_zero.symm
 ·rw[Ym Z1] at hb
  have hp:=hP j hj
  rw[show 8 -(j+1)=7 -j by omega,hp]
  refine decide_eq_true ?_
  obtain⟨A,eA⟩:=Z3 (N/18446744073709551616^(8 -j))
  rw[eA] at hb⊢
  rcases hb with⟨-,h⟩ | h
  ·omega
  ·have:=of_decide_eq_true h
   omega
 ·show ((rzN _ _ M 0:Nat):Int)=_
  have hx:=Vy N (7 -j)
  have hx2:dgq N (7 -j)/2^(64 -0)=0:=Nat.div_eq_of_lt (by simpa using hx)
  unfold rzN
  rw[Nat.pow_zero,Nat.mul_one,hx2,Nat.add_zero,Nat.mod_mod]
 ·have:rzN (N/18446744073709551616^(8 -j)%M) (dgq N (7 -j)) M i<M:=Nat.mod_lt _ h0
  omega
 ·have hx:=Vy N (7 -j)
  have e:ryN (N/18446744073709551616^(8 -j)%M) (dgq N (7 -j)) M 0=0:=by
   have hx2:dgq N (7 -j)/2^(64 -0)=0:=Nat.div_eq_of_lt (by simpa using hx)
   unfold ryN
   rw[Nat.pow_zero,Nat.mul_one,hx2,Nat.add_zero,Nat.div_eq_of_lt (hRm _),Nat.zero_mul]
  rw[e];exact set_self _ _ (hlow j hj)
 ·show ((rzN _ _ M 64:Nat):Int)=_
  rw[(hD j hj).2]
 ·show (dnD 8 (N/M) j).set (7 -j) (ryN _ _ M 64)=dnD 8 (N/M) (j+1)
  rw[(hD j hj).1,dnD,show 8 -1 -j=7 -j by omega]
 ·have hx:=Vy N (7 -j)
  have hR:=hRm (8 -j)
  rw[if_pos hi]
  unfold ryN
  obtain⟨R,eR⟩:=Z3 (N/18446744073709551616^(8 -j)%M)
  obtain⟨x,ex⟩:=Z3 (dgq N (7 -j))
  rw[eR] at hR⊢
  rw[ex] at hx⊢
  have h64:(2:Nat)^i*2^(64 -i)=18446744073709551616:=p64 Z1
  have h63:(2:Nat)^(64 -i)=2*2^(63 -i):=by rw[show 64 -i=63 -i+1 by omega,Nat.pow_succ,Nat.mul_comm]
  have hxi:x/2^(64 -i)<2^i:=Nat.div_lt_of_lt_mul (by rw[Nat.mul_comm,h64];exact hx)
  have hq:(R*2^i+x/2^(64 -i))/M+1<=2^i:=Nat.div_lt_of_lt_mul (by
   have h9:(R+1)*2^i<=M*2^i:=Nat.mul_le_mul_right _ hR
   rw[Nat.add_mul,Nat.one_mul] at h9;omega)
  have h10:=Nat.mul_le_mul_right (2^(64 -i)) hq
  rw[h64,Nat.add_mul,Nat.one_mul] at h10
  have:=Nat.two_pow_pos (63 -i)
  omega
 ·subst hb
  obtain⟨a1,a2⟩:=rz_st (i:=i) hi h0 (hRm (8 -j)) (Vy N (7 -j))
  rw[if_pos hi]
  refine⟨fun h=>?_,fun h=>?_⟩
  ·obtain⟨b1,b2⟩:=a1 Z1
   exact⟨by rw[b1];omega,b2⟩
  ·obtain⟨b1,b2⟩:=a2 Z1
   exact⟨by rw[b1];omega,b2⟩
 ·have hx:=Vy N (7 -j)
  have hpw:2^(63 -i)<18446744073709551616:=Nat.lt_of_le_of_lt (Nat.pow_le_pow_right Z2 (show 63 -i<=63 by omega)) Z2
  have hp0:=Nat.two_pow_pos (63 -i)
  rw[Ym Z1,if_pos hi]
  have hab:=and_bit (dgq N (7 -j)) (63 -i)
  refine⟨((dgq N (7 -j)&&&2^(63 -i):Nat):Int),_,rfl,Z1,fun p q u=>?_,fun h=>?_,fun h=>?_⟩
  ·have e:=bits_and_u64_nat (dgq N (7 -j)) (2^(63 -i)) hx hpw
   generalize dgq N (7 -j)=x at *
   generalize 2^(63 -i)=y at *
   go_simp
  ·have e:dgq N (7 -j)&&&2^(63 -i)=0:=by rw[hab,show dgq N (7 -j)/2^(63 -i)%2=0 by omega,Nat.zero_mul]
   intro p q u;rw[e];go_simp
  ·have e:dgq N (7 -j)&&&2^(63 -i)=2^(63 -i):=by rw[hab,show dgq N (7 -j)/2^(63 -i)%2=1 by omega,Nat.one_mul]
   intro p q u;rw[e]
   have e2:(((2^(63 -i):Nat):Int) !=0)=true:=by rw[bne_iff_ne];omega
   generalize 2^(63 -i)=y at *
   go_simp
 ·rw[if_pos hi]
  exact⟨Nat.two_pow_pos _,Nat.lt_of_le_of_lt (Nat.pow_le_pow_right Z2 (show 63 -i<=63 by omega)) Z2⟩
 ·rw[if_pos hi]
  by_cases h:i+1<64
  ·rw[if_pos h,show 63 -i=63 -(i+1)+1 by omega,Nat.pow_succ,Nat.mul_div_cancel _ Z2]
  ·rw[if_neg h,show 63 -i=0 by omega]
 ·show _=_
  rw[dnD_all,<-wv_u,Int.natCast_ediv]
theorem nrDivide(n m:Int)(w:World)(hn:InW n)(hm:In m)(h:m≠0):CC 70 #[WV n,NV m] w (.tuple #[WV (n/m),NV (n%m),iI 0]):=by
 obtain⟨N,rfl⟩:=Int.eq_ofNat_of_zero_le hn.1
 obtain⟨M,rfl⟩:=Int.eq_ofNat_of_zero_le hm.1
 exact rdiv_any N M w (by have:=hn.2;omega) Z1 (by have:=hm.2;omega)
theorem U0(n:Int)(w:World)(hn:In n):CC 53 #[NV n] w (WV n):=by
 rw[WV_In hn];exact rWiden_any _ _ _ _ w (W_D0 n) (W_D1 n) (W_D2 n) (W_D3 n)
theorem Wf(n m:Int)(w:World)(hn:InW n)(hm:In m)(h:m≠0):
 CC 46 #[WV n,NV m] w (.tuple #[NV (n%m),iI 0]):=by
 go_enter Tryz.func46,Tryz.ntmps46
 go_upto_region 1 with fail
 obtain⟨v0,hC,HB0,K0⟩:=bx3 w (LW n) 91 (LN m) 24 L0s 24
 rw[hC]
 clear hC
 refine Rp K0 HB0 [] [(7,6,L0w,some (9,LW (n/m))),(8,7,L0s,some (10,LN (n%m)))] (cG 0 10 [_,_,_] [(3,9,_),(4,13,_),(5,14,_),(6,15,_),(11,8,_)]) [(9,7),(10,8)] [] [false,false,true,false] (Od8 (g_ld 0 uW iW) (g_ld 1 uN iN) (g_cl Yp (fun uZ=>nrDivide n m uZ hn hm h)) g_mv g_ex g_ex g_ex (g_al 0 aW)<|Oc4 (g_al 1 aN) (g_sn 0 iW) (g_sn 1 iN) g_as) fun u1 b1_7 b1_8 HB1 _ K1=>?_
 simp only[sQ] at K1⊢
 go_upto_region 4 with fail
 refine Rp K1 HB1 [.all 1 (LN (n%m))] [] [(0,19,_),(2,5,_)] [] [] [true,false] (Oc3 (g_ld 1 uN iN) (g_st 0 iN) g_as) fun u2 HB2 _ K2=>?_
 simp only[sQ] at K2⊢
 have c4:=(K2.cv 0).n4
 go_wp2
 refine bodyPost_ret (v:= .tuple #[NV (n%m),iI 0]) (by simp[results,Tryz.results46,go_sem,c4]) rfl ⟨rfl,HB2⟩
theorem xMul(a b m:Int)(w:World)(ha:In a)(hb:In b)(hm:In m)(h:m≠0):
 CC 19 #[NV a,NV b,NV m] w (.tuple #[NV (a*b%m),iI 0]):=by
 go_enter Tryz.func19,Tryz.ntmps19
 go_upto_region 1 with fail
 obtain⟨v0,hC,HB0,K0⟩:=bx4 w (LN a) 24 (LN b) 24 (LN m) 24 L0s 24
 rw[hC]
 clear hC
 refine Rd K0 HB0 [.no,.no,.no,.all 7 (LN (a*b%m))] [] (cG 0 8 [_,_,_,_,_,_,_] [(8,7,_)]) [] [] [false,false,false] (Oc9 (g_ld 0 uN iN) (g_ld 1 uN iN) (g_cl Wx (fun uZ=>nrMul a b uZ ha hb)) (g_ld 2 uN iN) (g_cl Ze (fun uZ=>Wf (a*b) m uZ (In_mul ha hb) hm h)) g_ex g_ex (g_st 3 iN) g_as) fun u1 HB1 _ K1=>?_
 simp only[sQ] at K1⊢
 have c6:=(K1.cv 0).n4
 go_wp2
 refine bodyPost_ret (v:= .tuple #[NV (a*b%m),iI 0]) (by simp[results,Tryz.results19,go_sem,c6]) rfl ⟨rfl,HB1⟩
end Go.Proofs.YtoffgfhilkpdpaaGreatDoor
