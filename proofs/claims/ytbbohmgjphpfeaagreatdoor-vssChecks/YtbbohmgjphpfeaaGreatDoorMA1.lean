import Derived.Test.YtbbohmgjphpfeaaGreatDoorYY
namespace Go.Proofs.YtbbohmgjphpfeaaGreatDoor
set_option linter.unusedVariables false
set_option linter.unusedSimpArgs false
set_option maxRecDepth 100000
set_option maxHeartbeats 4000000
open Go.RowKit
theorem nAdd_lt (a b:Int) (w:World) (ha:In a) (hb:In b) (h:a+b<0x10000000000000000000000000000000000000000000000000000000000000000):CC 129 #[NV a,NV b] w (.tuple #[NV (a+b),.bool false]):=by
 have e:ovB a b=false:=by unfold ovB;simp;omega
 have k:=nAdd a b w ha hb
 rw[e] at k;exact k
theorem NV_less (s:Int):NV (s -0x10000000000000000000000000000000000000000000000000000000000000000)=NV s:=by
 have e0:D0 (s -0x10000000000000000000000000000000000000000000000000000000000000000)=D0 s:=by unfold D0;omega
 have e1:D1 (s -0x10000000000000000000000000000000000000000000000000000000000000000)=D1 s:=by unfold D1;omega
 have e2:D2 (s -0x10000000000000000000000000000000000000000000000000000000000000000)=D2 s:=by unfold D2;omega
 have e3:D3 (s -0x10000000000000000000000000000000000000000000000000000000000000000)=D3 s:=by unfold D3;omega
 rw[NV,e0,e1,e2,e3]
theorem nAdd_ge (a b:Int) (w:World) (ha:In a) (hb:In b) (h:0x10000000000000000000000000000000000000000000000000000000000000000<=a+b):CC 129 #[NV a,NV b] w (.tuple #[NV (a+b -0x10000000000000000000000000000000000000000000000000000000000000000),.bool true]):=by
 have e:ovB a b=true:=by unfold ovB;simp;omega
 have k:=nAdd a b w ha hb
 rw[e] at k;rw[NV_less];exact k
theorem Xg (n m:Int) (w:World) (hn:InW n) (hm:In m) (h:m≠0):
 CC 90 #[WV n,NV m] w (.tuple #[NV (n%m),.int .i64 0]):=by
 go_enter Tryz.func90,Tryz.ntmps90
 go_wp2_with fail
 refine(Uo n m _ hn hm h).mono ?_
 rintro e w1 ⟨rfl,hB⟩
 obtain⟨hcell,hfroz,hsize⟩:=bcell hB
 simp only[World.size_alloc] at hsize hcell hfroz
 have z0:w.heap.size<w1.heap.size:=by omega
 have z1:w.heap.size+1<w1.heap.size:=by omega
 have z2:w.heap.size+1+1<w1.heap.size:=by omega
 have hB':Bw w w1:=Below.trans (by go_grown) (hB.mono (by simp;omega))
 clear hn hm h hB
 go_wp2
 refine bodyPost_ret (v:= .tuple #[NV (n%m),.int .i64 0]) (by simp[results,Tryz.results90,go_sem,hcell,z0,z1,z2]) rfl ⟨rfl,?_⟩
 go_grown
theorem NV_more (s:Int):NV (s+0x10000000000000000000000000000000000000000000000000000000000000000)=NV s:=by rw[<-NV_less (s+0x10000000000000000000000000000000000000000000000000000000000000000)];congr 1<;>omega
theorem nSub_ge (a b:Int) (w:World) (ha:In a) (hb:In b) (h:b<=a):CC 140 #[NV a,NV b] w (.tuple #[NV (a -b),.bool false]):=by
 have e:ltB a b=false:=by unfold ltB;simp;omega
 have k:=nSub a b w ha hb
 rw[e] at k;exact k
theorem nSub_lt (a b:Int) (w:World) (ha:In a) (hb:In b) (h:a<b):CC 140 #[NV a,NV b] w (.tuple #[NV (a -b+0x10000000000000000000000000000000000000000000000000000000000000000),.bool true]):=by
 have e:ltB a b=true:=by unfold ltB;simp;omega
 have k:=nSub a b w ha hb
 rw[e] at k;rw[NV_more];exact k
theorem mSub_lt (a b m:Int) (w:World) (ha:In a) (hb:In b) (hm:In m) (h:m≠0) (hc:a%m<b%m):
 CC 136 #[NV a,NV b,NV m] w (.tuple #[NV ((a -b)%m),.int .i64 0]):=by
 have hm0:=hm.1
 have h1:=Int.emod_nonneg a h
 have h2:=Int.emod_lt_of_pos b (show 0<m by omega)
 have h3:=Int.emod_nonneg b h
 have h4:=Int.emod_lt_of_pos a (show 0<m by omega)
 have hm2:=hm.2
 have hr:NV ((a -b)%m)=NV (a%m -b%m+0x10000000000000000000000000000000000000000000000000000000000000000+m -0x10000000000000000000000000000000000000000000000000000000000000000):=by
  congr 1
  rw[Int.sub_emod,<-Int.add_emod_right (a%m -b%m) m,Int.emod_eq_of_lt (by omega) (by omega)]
  omega
 have hi:In (a%m -b%m+0x10000000000000000000000000000000000000000000000000000000000000000):=⟨by omega,by omega⟩
 have hj:0x10000000000000000000000000000000000000000000000000000000000000000<=a%m -b%m+0x10000000000000000000000000000000000000000000000000000000000000000+m:=by omega
 have Hr:Hid _:=hr
 clear hr h1 h2 h3 h4 hm2 hm0
 go_enter Tryz.func136,Tryz.ntmps136
 go_upto_region 1 with fail
 obtain⟨v0,hC,HB0,K0⟩:=bx4 w (LN a) 24 (LN b) 24 (LN m) 24 L0s 24
 rw[hC]
 clear hC
 apply Rd K0 HB0 [.all 7 (LN (a%m))] [] [(0,12,_),(1,13,_),(2,14,_),(3,15,_),(4,11,_),(5,16,_),(6,17,_),(8,8,_)] [(7,0)] [] []
 ·exact oc (g_ld 0 uN iN)<|oc (g_cl Z9 (fun uZ=>Xk a uZ ha))<|oc (g_ld 2 uN iN)<|oc (g_cl Ze (fun uZ=>Xg a m uZ ha.wide hm h))<|oc g_mv<|oc g_ex<|oc g_ex<|oc (g_st 0 iN)<|oc g_as on
 intro u1 HB1 sz1 K1
 simp only[sQ] at K1⊢
 clear K0 HB0
 go_upto_region 4 with fail
 apply Rd K1 HB1 [.no,.all 7 (LN (b%m))] [] [(0,23,_),(1,24,_),(2,25,_),(3,26,_),(4,22,_),(5,27,_),(6,28,_)] [(7,0)] [] []
 ·exact oc (g_ld 1 uN iN)<|oc (g_cl Z9 (fun uZ=>Xk b uZ hb))<|oc (g_ld 2 uN iN)<|oc (g_cl Ze (fun uZ=>Xg b m uZ hb.wide hm h))<|oc g_mv<|oc g_ex<|oc g_ex<|oc (g_st 1 iN) on
 intro u2 HB2 sz2 K2
 simp only[sQ] at K2⊢
 clear K1 HB1
 go_upto_region 5 with fail
 apply Rp K2 HB2 [] [(6,9,L0s,some (7,LN (a%m -b%m+0x10000000000000000000000000000000000000000000000000000000000000000)))] [(0,30,_),(1,31,_),(2,32,_),(3,29,_),(4,33,_),(5,34,_),(8,10,_)] [(7,6)] [] [false,false]
 ·exact oc (g_ld 0 uN iN)<|oc (g_ld 1 uN iN)<|oc (g_cl Yz (fun uZ=>nSub_lt (a%m) (b%m) uZ (Zq hm h) (Zq hm h) hc))<|oc g_mv<|oc g_ex<|oc g_ex<|oc (g_al 0 aN)<|oc (g_sn 0 iN)<|oc g_as on
 intro u3 b3_6 HB3 sz3 K3
 simp only[sQ] at K3⊢
 clear K2 HB2
 go_upto_region 7 with fail
 apply Rp K3 HB3 [.no,.no,.all 6 (LN (a%m -b%m+0x10000000000000000000000000000000000000000000000000000000000000000+m -0x10000000000000000000000000000000000000000000000000000000000000000))] [] [(0,37,_),(1,38,_),(2,39,_),(3,36,_),(4,40,_),(5,41,_)] [(6,0)] [] [false]
 ·exact oc (g_ld 2 uN iN)<|oc (g_ld 0 uN iN)<|oc (g_cl Xe (fun uZ=>nAdd_ge (a%m -b%m+0x10000000000000000000000000000000000000000000000000000000000000000) m uZ hi hm hj))<|oc g_mv<|oc g_ex<|oc g_ex<|oc (g_st 2 iN) on
 intro u4 HB4 sz4 K4
 simp only[sQ] at K4⊢
 clear K3 HB3
 go_upto_region 8 with fail
 apply Rp K4 HB4 [.all 1 (LN (a%m -b%m+0x10000000000000000000000000000000000000000000000000000000000000000+m -0x10000000000000000000000000000000000000000000000000000000000000000))] [] [(0,42,_),(2,7,_)] [] [] [true,false]
 ·exact oc (g_ld 1 uN iN)<|oc (g_st 0 iN)<|oc g_as on
 intro u5 HB5 sz5 K5
 simp only[sQ] at K5⊢
 clear K4 HB4
 have c6:=(K5.cv 0).n4
 go_wp2
 refine bodyPost_ret (v:= .tuple #[NV (a%m -b%m+0x10000000000000000000000000000000000000000000000000000000000000000+m -0x10000000000000000000000000000000000000000000000000000000000000000),.int .i64 0]) (by simp[results,Tryz.results136,go_sem,c6]) rfl ⟨by rw[Hr.out],HB5⟩
theorem mSub_ge (a b m:Int) (w:World) (ha:In a) (hb:In b) (hm:In m) (h:m≠0) (hc:b%m<=a%m):
 CC 136 #[NV a,NV b,NV m] w (.tuple #[NV ((a -b)%m),.int .i64 0]):=by
 have hm0:=hm.1
 have h3:=Int.emod_nonneg b h
 have h4:=Int.emod_lt_of_pos a (show 0<m by omega)
 have hr:NV ((a -b)%m)=NV (a%m -b%m):=by
  congr 1
  rw[Int.sub_emod,Int.emod_eq_of_lt (by omega) (by omega)]
 have Hr:Hid _:=hr
 clear hr h3 h4 hm0
 go_enter Tryz.func136,Tryz.ntmps136
 go_upto_region 1 with fail
 obtain⟨v0,hC,HB0,K0⟩:=bx4 w (LN a) 24 (LN b) 24 (LN m) 24 L0s 24
 rw[hC]
 clear hC
 apply Rd K0 HB0 [.all 7 (LN (a%m))] [] [(0,12,_),(1,13,_),(2,14,_),(3,15,_),(4,11,_),(5,16,_),(6,17,_),(8,8,_)] [(7,0)] [] []
 ·exact oc (g_ld 0 uN iN)<|oc (g_cl Z9 (fun uZ=>Xk a uZ ha))<|oc (g_ld 2 uN iN)<|oc (g_cl Ze (fun uZ=>Xg a m uZ ha.wide hm h))<|oc g_mv<|oc g_ex<|oc g_ex<|oc (g_st 0 iN)<|oc g_as on
 intro u1 HB1 sz1 K1
 simp only[sQ] at K1⊢
 clear K0 HB0
 go_upto_region 4 with fail
 apply Rd K1 HB1 [.no,.all 7 (LN (b%m))] [] [(0,23,_),(1,24,_),(2,25,_),(3,26,_),(4,22,_),(5,27,_),(6,28,_)] [(7,0)] [] [true,true,false]
 ·exact oc (g_ld 1 uN iN)<|oc (g_cl Z9 (fun uZ=>Xk b uZ hb))<|oc (g_ld 2 uN iN)<|oc (g_cl Ze (fun uZ=>Xg b m uZ hb.wide hm h))<|oc g_mv<|oc g_ex<|oc g_ex<|oc (g_st 1 iN) on
 intro u2 HB2 sz2 K2
 simp only[sQ] at K2⊢
 clear K1 HB1
 go_upto_region 5 with fail
 apply Rp K2 HB2 [] [(6,9,L0s,some (7,LN (a%m -b%m)))] [(0,30,_),(1,31,_),(2,32,_),(3,29,_),(4,33,_),(5,34,_),(8,10,_)] [(7,6)] [] [false,false]
 ·exact oc (g_ld 0 uN iN)<|oc (g_ld 1 uN iN)<|oc (g_cl Yz (fun uZ=>nSub_ge (a%m) (b%m) uZ (Zq hm h) (Zq hm h) hc))<|oc g_mv<|oc g_ex<|oc g_ex<|oc (g_al 0 aN)<|oc (g_sn 0 iN)<|oc g_as on
 intro u3 b3_6 HB3 sz3 K3
 simp only[sQ] at K3⊢
 clear K2 HB2
 go_upto_region 8 with fail
 apply Rp K3 HB3 [.all 1 (LN (a%m -b%m))] [] [(0,42,_),(2,7,_)] [] [] [true,false]
 ·exact oc (g_ld 1 uN iN)<|oc (g_st 0 iN)<|oc g_as on
 intro u4 HB4 sz4 K4
 simp only[sQ] at K4⊢
 clear K3 HB3
 have c6:=(K4.cv 0).n4
 go_wp2
 refine bodyPost_ret (v:= .tuple #[NV (a%m -b%m),.int .i64 0]) (by simp[results,Tryz.results136,go_sem,c6]) rfl ⟨by rw[Hr.out],HB4⟩
theorem mSub (a b m:Int) (w:World) (ha:In a) (hb:In b) (hm:In m) (h:m≠0):
 CC 136 #[NV a,NV b,NV m] w (.tuple #[NV ((a -b)%m),.int .i64 0]):=by
 by_cases hc:a%m<b%m
 ·exact mSub_lt a b m w ha hb hm h hc
 ·exact mSub_ge a b m w ha hb hm h (by omega)
theorem mMul (a b m:Int) (w:World) (ha:In a) (hb:In b) (hm:In m) (h:m≠0):
 CC 97 #[NV a,NV b,NV m] w (.tuple #[NV (a*b%m),.int .i64 0]):=by
 go_enter Tryz.func97,Tryz.ntmps97
 go_upto_region 1 with fail
 obtain⟨v0,hC,HB0,K0⟩:=bx4 w (LN a) 24 (LN b) 24 (LN m) 24 L0s 24
 rw[hC]
 clear hC
 apply Rd K0 HB0 [.no,.no,.no,.all 7 (LN (a*b%m))] [] [(0,8,_),(1,9,_),(2,10,_),(3,11,_),(4,12,_),(5,13,_),(6,14,_),(8,7,_)] [] [] [false,false,false]
 ·exact oc (g_ld 0 uN iN)<|oc (g_ld 1 uN iN)<|oc (g_cl Xy (fun uZ=>nMul a b uZ ha hb))<|oc (g_ld 2 uN iN)<|oc (g_cl Ze (fun uZ=>Xg (a*b) m uZ (In_mul ha hb) hm h))<|oc g_ex<|oc g_ex<|oc (g_st 3 iN)<|oc g_as on
 intro u1 HB1 sz1 K1
 simp only[sQ] at K1⊢
 clear K0 HB0
 have c6:=(K1.cv 0).n4
 go_wp2
 refine bodyPost_ret (v:= .tuple #[NV (a*b%m),.int .i64 0]) (by simp[results,Tryz.results97,go_sem,c6]) rfl ⟨rfl,HB1⟩
theorem LN_LW (n:Int):A4 (D0 n) (D1 n) (D2 n) (D3 n)=NV (n%0x10000000000000000000000000000000000000000000000000000000000000000):=by
 have e0:D0 (n%0x10000000000000000000000000000000000000000000000000000000000000000)=D0 n:=by unfold D0;omega
 have e1:D1 (n%0x10000000000000000000000000000000000000000000000000000000000000000)=D1 n:=by unfold D1;omega
 have e2:D2 (n%0x10000000000000000000000000000000000000000000000000000000000000000)=D2 n:=by unfold D2;omega
 have e3:D3 (n%0x10000000000000000000000000000000000000000000000000000000000000000)=D3 n:=by unfold D3;omega
 rw[NV,e0,e1,e2,e3]
theorem mlow (n:Int) (w:World):CC 142 #[WV n] w (NV (n%0x10000000000000000000000000000000000000000000000000000000000000000)):=by
 have har: ∀b w,(Instr.arrayAt 24 (.slice (some ⟨b,0,none⟩) 4 8)).run Tryz.prog w= .ok (.pointer (some ⟨b,0,none⟩)) w:=fun _ _=>by kernel_rfl
 rw[<-LN_LW]
 go_enter Tryz.func142,Tryz.ntmps142
 go_wp2
 go_returns
 exact⟨rfl,by go_grown⟩
theorem In_div {a b:Int} (ha:In a) (hb:In b) (h:b≠0):In (a/b):=by
 have h0:=hb.1;have h1:=ha.1;have h2:=ha.2
 have:a/b<=a:=Int.ediv_le_self _ h1
 exact⟨Int.ediv_nonneg h1 h0,by omega⟩
theorem In_lo {n:Int} (h:In n):n%0x10000000000000000000000000000000000000000000000000000000000000000=n:=Int.emod_eq_of_lt h.1 h.2
theorem mdivide (a b:Int) (w:World) (ha:In a) (hb:In b) (h:b≠0):
 CC 141 #[NV a,NV b] w (.tuple #[NV (a/b),NV (a%b)]):=by
 go_enter Tryz.func141,Tryz.ntmps141
 go_upto_region 1 with fail
 obtain⟨v0,hC,HB0,K0⟩:=bx4 w (LN a) 24 (LN b) 24 L0s 24 L0s 24
 rw[hC]
 clear hC
 apply Rd K0 HB0 [.no,.no,.no,.all 10 (LN (a%b))] [(8,6,L0w,some (9,LW (a/b)))] [(0,9,_),(1,10,_),(2,11,_),(3,12,_),(4,8,_),(5,13,_),(6,14,_),(7,15,_),(11,7,_)] [(9,8)] [] [false,false]
 ·exact oc (g_ld 0 uN iN)<|oc (g_cl Z9 (fun uZ=>Xk a uZ ha))<|oc (g_ld 1 uN iN)<|oc (g_cl Yo (fun uZ=>Uo a b uZ ha.wide hb h))<|oc g_mv<|oc g_ex<|oc g_ex<|oc g_ex<|oc (g_al 0 aW)<|oc (g_sn 0 iW)<|oc (g_st 3 iN)<|oc g_as on
 intro u1 b1_8 HB1 sz1 K1
 simp only[sQ] at K1⊢
 clear K0 HB0
 go_upto_region 2 with fail
 apply Rd K1 HB1 [.all 3 (LN (a/b%0x10000000000000000000000000000000000000000000000000000000000000000)),.all 4 (LN (a%b))] [] [(0,16,_),(1,17,_),(2,18,_)] [(4,2)] [] [true,true,false]
 ·exact oc (g_ld 2 uW iW)<|oc (g_cl Wj (mlow (a/b)))<|oc (g_ld 1 uN iN)<|oc (g_st 0 iN)<|oc (g_st 1 iN) on
 intro u2 HB2 sz2 K2
 simp only[sQ] at K2⊢
 clear K1 HB1
 have c4:=(K2.cv 0).n4
 have c5:=(K2.cv 1).n4
 go_wp2
 refine bodyPost_ret (v:= .tuple #[NV (a/b%0x10000000000000000000000000000000000000000000000000000000000000000),NV (a%b)]) (by simp[results,Tryz.results141,go_sem,c4,c5]) rfl ⟨by rw[In_lo (In_div ha hb h)],HB2⟩
theorem nrAdd (a b:Int) (w:World) (ha:In a) (hb:In b):CC 58 #[NV a,NV b] w (.tuple #[NV (a+b),.bool (ovB a b)]):=by
 have k:=rAdd_any _ _ _ _ _ _ _ _ w (W_D0 a) (W_D1 a) (W_D2 a) (W_D3 a) (W_D0 b) (W_D1 b) (W_D2 b) (W_D3 b)
 simp only[V_In ha,V_In hb] at k
 have e:(D4 (a+b)==1)=ovB a b:=by
  unfold In at ha hb;unfold ovB D4;rw[Bool.eq_iff_iff];simp;omega
 rw[e] at k
 exact k
theorem nrMul (a b:Int) (w:World) (ha:In a) (hb:In b):CC 74 #[NV a,NV b] w (WV (a*b)):=by
 have k:=rMul_any _ _ _ _ _ _ _ _ w (W_D0 a) (W_D1 a) (W_D2 a) (W_D3 a) (W_D0 b) (W_D1 b) (W_D2 b) (W_D3 b)
 simp only[V_In ha,V_In hb] at k
 exact k
theorem nrDivide (n m:Int) (w:World) (hn:InW n) (hm:In m) (h:m≠0):CC 85 #[WV n,NV m] w (.tuple #[WV (n/m),NV (n%m),.int .i64 0]):=by
 have k:=rDivide_1 _ _ _ _ _ _ _ _ _ _ _ _ w (W_D0 n) (W_D1 n) (W_D2 n) (W_D3 n) (W_D0 (D4 n)) (W_D1 (D4 n)) (W_D2 (D4 n)) (W_D3 (D4 n)) (W_D0 m) (W_D1 m) (W_D2 m) (W_D3 m) (by rw[V_In hm];exact h)
 simp only[V_In hm,V_InW hn] at k
 exact k
theorem nrWiden (n:Int) (w:World) (hn:In n):CC 59 #[NV n] w (WV n):=by
 rw[WV_In hn];exact rWiden_any _ _ _ _ w (W_D0 n) (W_D1 n) (W_D2 n) (W_D3 n)
theorem xReduce (n m:Int) (w:World) (hn:InW n) (hm:In m) (h:m≠0):
 CC 60 #[WV n,NV m] w (.tuple #[NV (n%m),.int .i64 0]):=by
 go_enter Tryz.func60,Tryz.ntmps60
 go_upto_region 1 with fail
 obtain⟨v0,hC,HB0,K0⟩:=bx3 w (LW n) 86 (LN m) 24 L0s 24
 rw[hC]
 clear hC
 apply Rp K0 HB0 [] [(7,6,L0w,some (9,LW (n/m))),(8,7,L0s,some (10,LN (n%m)))] [(0,10,_),(1,11,_),(2,12,_),(3,9,_),(4,13,_),(5,14,_),(6,15,_),(11,8,_)] [(9,7),(10,8)] [] [false,false,true,false]
 ·exact oc (g_ld 0 uW iW)<|oc (g_ld 1 uN iN)<|oc (g_cl W6 (fun uZ=>nrDivide n m uZ hn hm h))<|oc g_mv<|oc g_ex<|oc g_ex<|oc g_ex<|oc (g_al 0 aW)<|oc (g_al 1 aN)<|oc (g_sn 0 iW)<|oc (g_sn 1 iN)<|oc g_as on
 intro u1 b1_7 b1_8 HB1 sz1 K1
 simp only[sQ] at K1⊢
 clear K0 HB0
 go_upto_region 4 with fail
 apply Rp K1 HB1 [.all 1 (LN (n%m))] [] [(0,19,_),(2,5,_)] [] [] [true,false]
 ·exact oc (g_ld 1 uN iN)<|oc (g_st 0 iN)<|oc g_as on
 intro u2 HB2 sz2 K2
 simp only[sQ] at K2⊢
 clear K1 HB1
 have c4:=(K2.cv 0).n4
 go_wp2
 refine bodyPost_ret (v:= .tuple #[NV (n%m),.int .i64 0]) (by simp[results,Tryz.results60,go_sem,c4]) rfl ⟨rfl,HB2⟩
theorem xMul (a b m:Int) (w:World) (ha:In a) (hb:In b) (hm:In m) (h:m≠0):
 CC 49 #[NV a,NV b,NV m] w (.tuple #[NV (a*b%m),.int .i64 0]):=by
 go_enter Tryz.func49,Tryz.ntmps49
 go_upto_region 1 with fail
 obtain⟨v0,hC,HB0,K0⟩:=bx4 w (LN a) 24 (LN b) 24 (LN m) 24 L0s 24
 rw[hC]
 clear hC
 apply Rd K0 HB0 [.no,.no,.no,.all 7 (LN (a*b%m))] [] [(0,8,_),(1,9,_),(2,10,_),(3,11,_),(4,12,_),(5,13,_),(6,14,_),(8,7,_)] [] [] [false,false,false]
 ·exact oc (g_ld 0 uN iN)<|oc (g_ld 1 uN iN)<|oc (g_cl Wt (fun uZ=>nrMul a b uZ ha hb))<|oc (g_ld 2 uN iN)<|oc (g_cl Zi (fun uZ=>xReduce (a*b) m uZ (In_mul ha hb) hm h))<|oc g_ex<|oc g_ex<|oc (g_st 3 iN)<|oc g_as on
 intro u1 HB1 sz1 K1
 simp only[sQ] at K1⊢
 clear K0 HB0
 have c6:=(K1.cv 0).n4
 go_wp2
 refine bodyPost_ret (v:= .tuple #[NV (a*b%m),.int .i64 0]) (by simp[results,Tryz.results49,go_sem,c6]) rfl ⟨rfl,HB1⟩
end Go.Proofs.YtbbohmgjphpfeaaGreatDoor
