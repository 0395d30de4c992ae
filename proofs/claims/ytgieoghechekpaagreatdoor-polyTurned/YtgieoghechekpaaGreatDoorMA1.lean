import Derived.Test.YtgieoghechekpaaGreatDoorYY
namespace Go.Proofs.YtgieoghechekpaaGreatDoor
set_option linter.unusedVariables false
set_option linter.unusedSimpArgs false
set_option maxRecDepth 100000
set_option maxHeartbeats 4000000
open Go.RowKit
theorem nAdd_lt(a b:Int)(w:World)(ha:In a)(hb:In b)(h:a+b<115792089237316195423570985008687907853269984665640564039457584007913129639936):CC 58 #[NV a,NV b] w (.tuple #[NV (a+b),.bool false]):=by
 have e:ovB a b=false:=by unfold ovB;simp;omega
 have k:=nAdd a b w ha hb
 rw[e] at k;exact k
theorem NV_less(s:Int):NV (s -115792089237316195423570985008687907853269984665640564039457584007913129639936)=NV s:=by
 have e0:D0 (s -115792089237316195423570985008687907853269984665640564039457584007913129639936)=D0 s:=by unfold D0;omega
 have e1:D1 (s -115792089237316195423570985008687907853269984665640564039457584007913129639936)=D1 s:=by unfold D1;omega
 have e2:D2 (s -115792089237316195423570985008687907853269984665640564039457584007913129639936)=D2 s:=by unfold D2;omega
 have e3:D3 (s -115792089237316195423570985008687907853269984665640564039457584007913129639936)=D3 s:=by unfold D3;omega
 rw[NV,e0,e1,e2,e3]
theorem nAdd_ge(a b:Int)(w:World)(ha:In a)(hb:In b)(h:115792089237316195423570985008687907853269984665640564039457584007913129639936<=a+b):CC 58 #[NV a,NV b] w (.tuple #[NV (a+b -115792089237316195423570985008687907853269984665640564039457584007913129639936),.bool true]):=by
 have e:ovB a b=true:=by unfold ovB;simp;omega
 have k:=nAdd a b w ha hb
 rw[e] at k;rw[NV_less];exact k
theorem Yd(n m:Int)(w:World)(hn:InW n)(hm:In m)(h:m≠0):
 CC 60 #[WV n,NV m] w (.tuple #[NV (n%m),.int .i64 0]):=by
 go_enter Tryz.func60,Tryz.ntmps60
 go_wp2_with fail
 refine(nDivide n m _ hn hm h).mono ?_
 rintro e w1 ⟨rfl,hB⟩
 obtain⟨hcell,hfroz,hsize⟩:=bcell hB
 simp only[World.size_alloc] at hsize hcell hfroz
 have z0:w.heap.size<w1.heap.size:=by omega
 have z1:w.heap.size+1<w1.heap.size:=by omega
 have z2:w.heap.size+1+1<w1.heap.size:=by omega
 have hB':Bw w w1:=Below.trans (by go_grown) (hB.mono (by simp;omega))
 clear hn hm h hB
 go_wp2
 refine bodyPost_ret (v:= .tuple #[NV (n%m),.int .i64 0]) (by simp[results,Tryz.results60,go_sem,hcell,z0,z1,z2]) rfl ⟨rfl,?_⟩
 go_grown
theorem NV_more(s:Int):NV (s+115792089237316195423570985008687907853269984665640564039457584007913129639936)=NV s:=by rw[<-NV_less (s+115792089237316195423570985008687907853269984665640564039457584007913129639936)];congr 1<;>omega
theorem nSub_ge(a b:Int)(w:World)(ha:In a)(hb:In b)(h:b<=a):CC 92 #[NV a,NV b] w (.tuple #[NV (a -b),.bool false]):=by
 have e:ltB a b=false:=by unfold ltB;simp;omega
 have k:=nSub a b w ha hb
 rw[e] at k;exact k
theorem nSub_lt(a b:Int)(w:World)(ha:In a)(hb:In b)(h:a<b):CC 92 #[NV a,NV b] w (.tuple #[NV (a -b+115792089237316195423570985008687907853269984665640564039457584007913129639936),.bool true]):=by
 have e:ltB a b=true:=by unfold ltB;simp;omega
 have k:=nSub a b w ha hb
 rw[e] at k;rw[NV_more];exact k
theorem mSub_lt(a b m:Int)(w:World)(ha:In a)(hb:In b)(hm:In m)(h:m≠0)(hc:a%m<b%m):
 CC 77 #[NV a,NV b,NV m] w (.tuple #[NV ((a -b)%m),.int .i64 0]):=by
 have hm0:=hm.1
 have h1:=Int.emod_nonneg a h
 have h2:=Int.emod_lt_of_pos b (show 0<m by omega)
 have h3:=Int.emod_nonneg b h
 have h4:=Int.emod_lt_of_pos a (show 0<m by omega)
 have hm2:=hm.2
 have hr:NV ((a -b)%m)=NV (a%m -b%m+115792089237316195423570985008687907853269984665640564039457584007913129639936+m -115792089237316195423570985008687907853269984665640564039457584007913129639936):=by
  congr 1
  rw[Int.sub_emod,<-Int.add_emod_right (a%m -b%m) m,Int.emod_eq_of_lt (by omega) (by omega)]
  omega
 have hi:In (a%m -b%m+115792089237316195423570985008687907853269984665640564039457584007913129639936):=⟨by omega,by omega⟩
 have hj:115792089237316195423570985008687907853269984665640564039457584007913129639936<=a%m -b%m+115792089237316195423570985008687907853269984665640564039457584007913129639936+m:=by omega
 have Hr:Hid _:=hr
 clear hr h1 h2 h3 h4 hm2 hm0
 go_enter Tryz.func77,Tryz.ntmps77
 go_upto_region 1 with fail
 generalize hC:((((w.alloc (.cells (LN a:List Value).toArray 24)).alloc (.cells (LN b:List Value).toArray 24)).alloc (.cells (LN m:List Value).toArray 24)).alloc (.cells (L0s:List Value).toArray 24))=v0 at *
 have HB0:Bw w v0:=by rw[<-hC];exact Z0 (Z0 (Z0 (Z0 (Z2 w) _) _) _) _
 have K0:Bk w.heap.size v0 [(true,w.heap.size,LN a),(true,w.heap.size+1,LN b),(true,w.heap.size+1+1,LN m),(true,w.heap.size+1+1+1,L0s)]:=by rw[<-hC];exact(Bk.nil _ w).ad.ad.ad.ad
 clear hC
 refine rgD K0 HB0 HB0.size [.all 7 (LN (a%m))] [] [(0,12,NV a),(1,13,WV a),(2,14,NV m),(3,15,.tuple #[NV (a%m),.int .i64 0]),(4,11,.tuple #[NV (a%m),.int .i64 0]),(5,16,NV (a%m)),(6,17,.int .i64 0),(8,8,.int .i64 0)] [(7,0)] [] [] ?_ ?_
 ·exact oc (g_ld 0 uN iN)<|oc (g_cl Z7 (fun uZ=>X0 a uZ ha))<|oc (g_ld 2 uN iN)<|oc (g_cl Z6 (fun uZ=>Yd a m uZ ha.wide hm h))<|oc g_mv<|oc g_ex<|oc g_ex<|oc (g_st 0 iN)<|oc g_as on
 intro u1 HB1 sz1 K1
 simp only[sQ] at K1⊢
 clear K0 HB0
 go_upto_region 4 with fail
 refine rgD K1 HB1 HB1.size [.no,.all 7 (LN (b%m))] [] [(0,23,NV b),(1,24,WV b),(2,25,NV m),(3,26,.tuple #[NV (b%m),.int .i64 0]),(4,22,.tuple #[NV (b%m),.int .i64 0]),(5,27,NV (b%m)),(6,28,.int .i64 0)] [(7,0)] [] [] ?_ ?_
 ·exact oc (g_ld 1 uN iN)<|oc (g_cl Z7 (fun uZ=>X0 b uZ hb))<|oc (g_ld 2 uN iN)<|oc (g_cl Z6 (fun uZ=>Yd b m uZ hb.wide hm h))<|oc g_mv<|oc g_ex<|oc g_ex<|oc (g_st 1 iN) on
 intro u2 HB2 sz2 K2
 simp only[sQ] at K2⊢
 clear K1 HB1
 go_upto_region 5 with fail
 refine rgP K2 HB2 HB2.size [] [(6,9,L0s,some (7,LN (a%m -b%m+115792089237316195423570985008687907853269984665640564039457584007913129639936)))] [(0,30,NV (a%m)),(1,31,NV (b%m)),(2,32,.tuple #[NV (a%m -b%m+115792089237316195423570985008687907853269984665640564039457584007913129639936),.bool true]),(3,29,.tuple #[NV (a%m -b%m+115792089237316195423570985008687907853269984665640564039457584007913129639936),.bool true]),(4,33,NV (a%m -b%m+115792089237316195423570985008687907853269984665640564039457584007913129639936)),(5,34,.bool true),(8,10,.bool true)] [(7,6)] [] [false,false] ?_ ?_
 ·exact oc (g_ld 0 uN iN)<|oc (g_ld 1 uN iN)<|oc (g_cl Xk (fun uZ=>nSub_lt (a%m) (b%m) uZ (Zd hm h) (Zd hm h) hc))<|oc g_mv<|oc g_ex<|oc g_ex<|oc (g_al 0 aN)<|oc (g_sn 0 iN)<|oc g_as on
 intro u3 b3_6 HB3 sz3 K3
 simp only[sQ] at K3⊢
 clear K2 HB2
 go_upto_region 7 with fail
 refine rgP K3 HB3 HB3.size [.no,.no,.all 6 (LN (a%m -b%m+115792089237316195423570985008687907853269984665640564039457584007913129639936+m -115792089237316195423570985008687907853269984665640564039457584007913129639936))] [] [(0,37,NV (a%m -b%m+115792089237316195423570985008687907853269984665640564039457584007913129639936)),(1,38,NV m),(2,39,.tuple #[NV (a%m -b%m+115792089237316195423570985008687907853269984665640564039457584007913129639936+m -115792089237316195423570985008687907853269984665640564039457584007913129639936),.bool true]),(3,36,.tuple #[NV (a%m -b%m+115792089237316195423570985008687907853269984665640564039457584007913129639936+m -115792089237316195423570985008687907853269984665640564039457584007913129639936),.bool true]),(4,40,NV (a%m -b%m+115792089237316195423570985008687907853269984665640564039457584007913129639936+m -115792089237316195423570985008687907853269984665640564039457584007913129639936)),(5,41,.bool true)] [(6,0)] [] [false] ?_ ?_
 ·exact oc (g_ld 2 uN iN)<|oc (g_ld 0 uN iN)<|oc (g_cl Zy (fun uZ=>nAdd_ge (a%m -b%m+115792089237316195423570985008687907853269984665640564039457584007913129639936) m uZ hi hm hj))<|oc g_mv<|oc g_ex<|oc g_ex<|oc (g_st 2 iN) on
 intro u4 HB4 sz4 K4
 simp only[sQ] at K4⊢
 clear K3 HB3
 go_upto_region 8 with fail
 refine rgP K4 HB4 HB4.size [.all 1 (LN (a%m -b%m+115792089237316195423570985008687907853269984665640564039457584007913129639936+m -115792089237316195423570985008687907853269984665640564039457584007913129639936))] [] [(0,42,NV (a%m -b%m+115792089237316195423570985008687907853269984665640564039457584007913129639936+m -115792089237316195423570985008687907853269984665640564039457584007913129639936)),(2,7,(Go.Value.int Go.IntKind.i64 0))] [] [] [true,false] ?_ ?_
 ·exact oc (g_ld 1 uN iN)<|oc (g_st 0 iN)<|oc g_as on
 intro u5 HB5 sz5 K5
 simp only[sQ] at K5⊢
 clear K4 HB4
 have c6:=(K5.cv 0).n4
 go_wp2
 refine bodyPost_ret (v:= .tuple #[NV (a%m -b%m+115792089237316195423570985008687907853269984665640564039457584007913129639936+m -115792089237316195423570985008687907853269984665640564039457584007913129639936),.int .i64 0]) (by simp[results,Tryz.results77,go_sem,c6]) rfl ⟨by rw[Hr.out],HB5⟩
theorem mSub_ge(a b m:Int)(w:World)(ha:In a)(hb:In b)(hm:In m)(h:m≠0)(hc:b%m<=a%m):
 CC 77 #[NV a,NV b,NV m] w (.tuple #[NV ((a -b)%m),.int .i64 0]):=by
 have hm0:=hm.1
 have h3:=Int.emod_nonneg b h
 have h4:=Int.emod_lt_of_pos a (show 0<m by omega)
 have hr:NV ((a -b)%m)=NV (a%m -b%m):=by
  congr 1
  rw[Int.sub_emod,Int.emod_eq_of_lt (by omega) (by omega)]
 have Hr:Hid _:=hr
 clear hr h3 h4 hm0
 go_enter Tryz.func77,Tryz.ntmps77
 go_upto_region 1 with fail
 generalize hC:((((w.alloc (.cells (LN a:List Value).toArray 24)).alloc (.cells (LN b:List Value).toArray 24)).alloc (.cells (LN m:List Value).toArray 24)).alloc (.cells (L0s:List Value).toArray 24))=v0 at *
 have HB0:Bw w v0:=by rw[<-hC];exact Z0 (Z0 (Z0 (Z0 (Z2 w) _) _) _) _
 have K0:Bk w.heap.size v0 [(true,w.heap.size,LN a),(true,w.heap.size+1,LN b),(true,w.heap.size+1+1,LN m),(true,w.heap.size+1+1+1,L0s)]:=by rw[<-hC];exact(Bk.nil _ w).ad.ad.ad.ad
 clear hC
 refine rgD K0 HB0 HB0.size [.all 7 (LN (a%m))] [] [(0,12,NV a),(1,13,WV a),(2,14,NV m),(3,15,.tuple #[NV (a%m),.int .i64 0]),(4,11,.tuple #[NV (a%m),.int .i64 0]),(5,16,NV (a%m)),(6,17,.int .i64 0),(8,8,.int .i64 0)] [(7,0)] [] [] ?_ ?_
 ·exact oc (g_ld 0 uN iN)<|oc (g_cl Z7 (fun uZ=>X0 a uZ ha))<|oc (g_ld 2 uN iN)<|oc (g_cl Z6 (fun uZ=>Yd a m uZ ha.wide hm h))<|oc g_mv<|oc g_ex<|oc g_ex<|oc (g_st 0 iN)<|oc g_as on
 intro u1 HB1 sz1 K1
 simp only[sQ] at K1⊢
 clear K0 HB0
 go_upto_region 4 with fail
 refine rgD K1 HB1 HB1.size [.no,.all 7 (LN (b%m))] [] [(0,23,NV b),(1,24,WV b),(2,25,NV m),(3,26,.tuple #[NV (b%m),.int .i64 0]),(4,22,.tuple #[NV (b%m),.int .i64 0]),(5,27,NV (b%m)),(6,28,.int .i64 0)] [(7,0)] [] [true,true,false] ?_ ?_
 ·exact oc (g_ld 1 uN iN)<|oc (g_cl Z7 (fun uZ=>X0 b uZ hb))<|oc (g_ld 2 uN iN)<|oc (g_cl Z6 (fun uZ=>Yd b m uZ hb.wide hm h))<|oc g_mv<|oc g_ex<|oc g_ex<|oc (g_st 1 iN) on
 intro u2 HB2 sz2 K2
 simp only[sQ] at K2⊢
 clear K1 HB1
 go_upto_region 5 with fail
 refine rgP K2 HB2 HB2.size [] [(6,9,L0s,some (7,LN (a%m -b%m)))] [(0,30,NV (a%m)),(1,31,NV (b%m)),(2,32,.tuple #[NV (a%m -b%m),.bool false]),(3,29,.tuple #[NV (a%m -b%m),.bool false]),(4,33,NV (a%m -b%m)),(5,34,.bool false),(8,10,.bool false)] [(7,6)] [] [false,false] ?_ ?_
 ·exact oc (g_ld 0 uN iN)<|oc (g_ld 1 uN iN)<|oc (g_cl Xk (fun uZ=>nSub_ge (a%m) (b%m) uZ (Zd hm h) (Zd hm h) hc))<|oc g_mv<|oc g_ex<|oc g_ex<|oc (g_al 0 aN)<|oc (g_sn 0 iN)<|oc g_as on
 intro u3 b3_6 HB3 sz3 K3
 simp only[sQ] at K3⊢
 clear K2 HB2
 go_upto_region 8 with fail
 refine rgP K3 HB3 HB3.size [.all 1 (LN (a%m -b%m))] [] [(0,42,NV (a%m -b%m)),(2,7,(Go.Value.int Go.IntKind.i64 0))] [] [] [true,false] ?_ ?_
 ·exact oc (g_ld 1 uN iN)<|oc (g_st 0 iN)<|oc g_as on
 intro u4 HB4 sz4 K4
 simp only[sQ] at K4⊢
 clear K3 HB3
 have c6:=(K4.cv 0).n4
 go_wp2
 refine bodyPost_ret (v:= .tuple #[NV (a%m -b%m),.int .i64 0]) (by simp[results,Tryz.results77,go_sem,c6]) rfl ⟨by rw[Hr.out],HB4⟩
theorem mSub(a b m:Int)(w:World)(ha:In a)(hb:In b)(hm:In m)(h:m≠0):
 CC 77 #[NV a,NV b,NV m] w (.tuple #[NV ((a -b)%m),.int .i64 0]):=by
 by_cases hc:a%m<b%m
 ·exact mSub_lt a b m w ha hb hm h hc
 ·exact mSub_ge a b m w ha hb hm h (by omega)
theorem mMul(a b m:Int)(w:World)(ha:In a)(hb:In b)(hm:In m)(h:m≠0):
 CC 54 #[NV a,NV b,NV m] w (.tuple #[NV (a*b%m),.int .i64 0]):=by
 go_enter Tryz.func54,Tryz.ntmps54
 go_upto_region 1 with fail
 generalize hC:((((w.alloc (.cells (LN a:List Value).toArray 24)).alloc (.cells (LN b:List Value).toArray 24)).alloc (.cells (LN m:List Value).toArray 24)).alloc (.cells (L0s:List Value).toArray 24))=v0 at *
 have HB0:Bw w v0:=by rw[<-hC];exact Z0 (Z0 (Z0 (Z0 (Z2 w) _) _) _) _
 have K0:Bk w.heap.size v0 [(true,w.heap.size,LN a),(true,w.heap.size+1,LN b),(true,w.heap.size+1+1,LN m),(true,w.heap.size+1+1+1,L0s)]:=by rw[<-hC];exact(Bk.nil _ w).ad.ad.ad.ad
 clear hC
 refine rgD K0 HB0 HB0.size [.no,.no,.no,.all 7 (LN (a*b%m))] [] [(0,8,NV a),(1,9,NV b),(2,10,WV (a*b)),(3,11,NV m),(4,12,.tuple #[NV (a*b%m),.int .i64 0]),(5,13,NV (a*b%m)),(6,14,.int .i64 0),(8,7,.int .i64 0)] [] [] [false,false,false] ?_ ?_
 ·exact oc (g_ld 0 uN iN)<|oc (g_ld 1 uN iN)<|oc (g_cl Xl (fun uZ=>nMul a b uZ ha hb))<|oc (g_ld 2 uN iN)<|oc (g_cl Z6 (fun uZ=>Yd (a*b) m uZ (In_mul ha hb) hm h))<|oc g_ex<|oc g_ex<|oc (g_st 3 iN)<|oc g_as on
 intro u1 HB1 sz1 K1
 simp only[sQ] at K1⊢
 clear K0 HB0
 have c6:=(K1.cv 0).n4
 go_wp2
 refine bodyPost_ret (v:= .tuple #[NV (a*b%m),.int .i64 0]) (by simp[results,Tryz.results54,go_sem,c6]) rfl ⟨rfl,HB1⟩
theorem LN_LW(n:Int):A4 (D0 n) (D1 n) (D2 n) (D3 n)=NV (n%115792089237316195423570985008687907853269984665640564039457584007913129639936):=by
 have e0:D0 (n%115792089237316195423570985008687907853269984665640564039457584007913129639936)=D0 n:=by unfold D0;omega
 have e1:D1 (n%115792089237316195423570985008687907853269984665640564039457584007913129639936)=D1 n:=by unfold D1;omega
 have e2:D2 (n%115792089237316195423570985008687907853269984665640564039457584007913129639936)=D2 n:=by unfold D2;omega
 have e3:D3 (n%115792089237316195423570985008687907853269984665640564039457584007913129639936)=D3 n:=by unfold D3;omega
 rw[NV,e0,e1,e2,e3]
theorem mlow(n:Int)(w:World):CC 91 #[WV n] w (NV (n%115792089237316195423570985008687907853269984665640564039457584007913129639936)):=by
 have har: ∀b w,(Instr.arrayAt 24 (.slice (some ⟨b,0,none⟩) 4 8)).run Tryz.prog w= .ok (.pointer (some ⟨b,0,none⟩)) w:=fun _ _=>by kernel_rfl
 rw[<-LN_LW]
 go_enter Tryz.func91,Tryz.ntmps91
 go_wp2
 go_returns
 exact⟨rfl,by go_grown⟩
theorem In_div{a b:Int}(ha:In a)(hb:In b)(h:b≠0):In (a/b):=by
 have h0:=hb.1;have h1:=ha.1;have h2:=ha.2
 have:a/b<=a:=Int.ediv_le_self _ h1
 exact⟨Int.ediv_nonneg h1 h0,by omega⟩
theorem In_lo{n:Int}(h:In n):n%115792089237316195423570985008687907853269984665640564039457584007913129639936=n:=Int.emod_eq_of_lt h.1 h.2
theorem mdivide(a b:Int)(w:World)(ha:In a)(hb:In b)(h:b≠0):
 CC 90 #[NV a,NV b] w (.tuple #[NV (a/b),NV (a%b)]):=by
 go_enter Tryz.func90,Tryz.ntmps90
 go_upto_region 1 with fail
 generalize hC:((((w.alloc (.cells (LN a:List Value).toArray 24)).alloc (.cells (LN b:List Value).toArray 24)).alloc (.cells (L0s:List Value).toArray 24)).alloc (.cells (L0s:List Value).toArray 24))=v0 at *
 have HB0:Bw w v0:=by rw[<-hC];exact Z0 (Z0 (Z0 (Z0 (Z2 w) _) _) _) _
 have K0:Bk w.heap.size v0 [(true,w.heap.size,LN a),(true,w.heap.size+1,LN b),(true,w.heap.size+1+1,L0s),(true,w.heap.size+1+1+1,L0s)]:=by rw[<-hC];exact(Bk.nil _ w).ad.ad.ad.ad
 clear hC
 refine rgD K0 HB0 HB0.size [.no,.no,.no,.all 10 (LN (a%b))] [(8,6,L0w,some (9,LW (a/b)))] [(0,9,NV a),(1,10,WV a),(2,11,NV b),(3,12,.tuple #[WV (a/b),NV (a%b),.int .i64 0]),(4,8,.tuple #[WV (a/b),NV (a%b),.int .i64 0]),(5,13,WV (a/b)),(6,14,NV (a%b)),(7,15,.int .i64 0),(11,7,.int .i64 0)] [(9,8)] [] [false,false] ?_ ?_
 ·exact oc (g_ld 0 uN iN)<|oc (g_cl Z7 (fun uZ=>X0 a uZ ha))<|oc (g_ld 1 uN iN)<|oc (g_cl ent_limb_Divide (fun uZ=>nDivide a b uZ ha.wide hb h))<|oc g_mv<|oc g_ex<|oc g_ex<|oc g_ex<|oc (g_al 0 aW)<|oc (g_sn 0 iW)<|oc (g_st 3 iN)<|oc g_as on
 intro u1 b1_8 HB1 sz1 K1
 simp only[sQ] at K1⊢
 clear K0 HB0
 go_upto_region 2 with fail
 refine rgD K1 HB1 HB1.size [.all 3 (LN (a/b%115792089237316195423570985008687907853269984665640564039457584007913129639936)),.all 4 (LN (a%b))] [] [(0,16,WV (a/b)),(1,17,NV (a/b%115792089237316195423570985008687907853269984665640564039457584007913129639936)),(2,18,NV (a%b))] [(4,2)] [] [true,true,false] ?_ ?_
 ·exact oc (g_ld 2 uW iW)<|oc (g_cl ent_mod_low (fun uZ=>mlow (a/b) uZ))<|oc (g_ld 1 uN iN)<|oc (g_st 0 iN)<|oc (g_st 1 iN) on
 intro u2 HB2 sz2 K2
 simp only[sQ] at K2⊢
 clear K1 HB1
 have c4:=(K2.cv 0).n4
 have c5:=(K2.cv 1).n4
 go_wp2
 refine bodyPost_ret (v:= .tuple #[NV (a/b%115792089237316195423570985008687907853269984665640564039457584007913129639936),NV (a%b)]) (by simp[results,Tryz.results90,go_sem,c4,c5]) rfl ⟨by rw[In_lo (In_div ha hb h)],HB2⟩
theorem nrAdd(a b:Int)(w:World)(ha:In a)(hb:In b):CC 42 #[NV a,NV b] w (.tuple #[NV (a+b),.bool (ovB a b)]):=by
 have k:=rAdd_any _ _ _ _ _ _ _ _ w (W_D0 a) (W_D1 a) (W_D2 a) (W_D3 a) (W_D0 b) (W_D1 b) (W_D2 b) (W_D3 b)
 simp only[V_In ha,V_In hb] at k
 have e:(D4 (a+b)==1)=ovB a b:=by
  unfold In at ha hb;unfold ovB D4;rw[Bool.eq_iff_iff];simp;omega
 rw[e] at k
 exact k
theorem nrDivide(n m:Int)(w:World)(hn:InW n)(hm:In m)(h:m≠0):CC 48 #[WV n,NV m] w (.tuple #[WV (n/m),NV (n%m),.int .i64 0]):=by
 have k:=rDivide_1 _ _ _ _ _ _ _ _ _ _ _ _ w (W_D0 n) (W_D1 n) (W_D2 n) (W_D3 n) (W_D0 (D4 n)) (W_D1 (D4 n)) (W_D2 (D4 n)) (W_D3 (D4 n)) (W_D0 m) (W_D1 m) (W_D2 m) (W_D3 m) (by rw[V_In hm];exact h)
 simp only[V_In hm,V_InW hn] at k
 exact k
theorem nrWiden(n:Int)(w:World)(hn:In n):CC 26 #[NV n] w (WV n):=by
 rw[WV_In hn];exact rWiden_any _ _ _ _ w (W_D0 n) (W_D1 n) (W_D2 n) (W_D3 n)
theorem xReduce(n m:Int)(w:World)(hn:InW n)(hm:In m)(h:m≠0):
 CC 25 #[WV n,NV m] w (.tuple #[NV (n%m),.int .i64 0]):=by
 go_enter Tryz.func25,Tryz.ntmps25
 go_upto_region 1 with fail
 generalize hC:(((w.alloc (.cells (LW n:List Value).toArray 59)).alloc (.cells (LN m:List Value).toArray 24)).alloc (.cells (L0s:List Value).toArray 24))=v0 at *
 have HB0:Bw w v0:=by rw[<-hC];exact Z0 (Z0 (Z0 (Z2 w) _) _) _
 have K0:Bk w.heap.size v0 [(true,w.heap.size,LW n),(true,w.heap.size+1,LN m),(true,w.heap.size+1+1,L0s)]:=by rw[<-hC];exact(Bk.nil _ w).ad.ad.ad
 clear hC
 refine rgP K0 HB0 HB0.size [] [(7,6,L0w,some (9,LW (n/m))),(8,7,L0s,some (10,LN (n%m)))] [(0,10,WV n),(1,11,NV m),(2,12,.tuple #[WV (n/m),NV (n%m),.int .i64 0]),(3,9,.tuple #[WV (n/m),NV (n%m),.int .i64 0]),(4,13,WV (n/m)),(5,14,NV (n%m)),(6,15,.int .i64 0),(11,8,.int .i64 0)] [(9,7),(10,8)] [] [false,false,true,false] ?_ ?_
 ·exact oc (g_ld 0 uW iW)<|oc (g_ld 1 uN iN)<|oc (g_cl Y2 (fun uZ=>nrDivide n m uZ hn hm h))<|oc g_mv<|oc g_ex<|oc g_ex<|oc g_ex<|oc (g_al 0 aW)<|oc (g_al 1 aN)<|oc (g_sn 0 iW)<|oc (g_sn 1 iN)<|oc g_as on
 intro u1 b1_7 b1_8 HB1 sz1 K1
 simp only[sQ] at K1⊢
 clear K0 HB0
 go_upto_region 4 with fail
 refine rgP K1 HB1 HB1.size [.all 1 (LN (n%m))] [] [(0,19,NV (n%m)),(2,5,(Go.Value.int Go.IntKind.i64 0))] [] [] [true,false] ?_ ?_
 ·exact oc (g_ld 1 uN iN)<|oc (g_st 0 iN)<|oc g_as on
 intro u2 HB2 sz2 K2
 simp only[sQ] at K2⊢
 clear K1 HB1
 have c4:=(K2.cv 0).n4
 go_wp2
 refine bodyPost_ret (v:= .tuple #[NV (n%m),.int .i64 0]) (by simp[results,Tryz.results25,go_sem,c4]) rfl ⟨rfl,HB2⟩
end Go.Proofs.YtgieoghechekpaaGreatDoor
