import Derived.Test.YtgieoghechekpaaGreatDoorEE
import Derived.Test.YtgieoghechekpaaGreatDoorMM
namespace Go.Proofs.YtgieoghechekpaaGreatDoor
set_option linter.unusedVariables false
set_option linter.unusedSimpArgs false
set_option maxRecDepth 100000
set_option maxHeartbeats 4000000
section
end
section
open Go.RowKit
theorem addG_lt(a b m0 m1 m2 m3 r0 r1 r2 r3 ec:Int)(w:World)(ha:In a)(hb:In b)(hR:Hid (∀u,CC 60 #[WV (a+b),A4 m0 m1 m2 m3] u (.tuple #[A4 r0 r1 r2 r3,.int .i64 ec])))(hl:a+b<115792089237316195423570985008687907853269984665640564039457584007913129639936):CC 36 #[NV a,NV b,A4 m0 m1 m2 m3] w (.tuple #[A4 r0 r1 r2 r3,.int .i64 ec]):=by
 have hi:In (a+b):=⟨by have:=ha.1;have:=hb.1;omega,hl⟩
 go_enter Tryz.func36,Tryz.ntmps36
 go_upto_region 1 with fail
 generalize hC:((((w.alloc (.cells (LN a:List Value).toArray 24)).alloc (.cells (LN b:List Value).toArray 24)).alloc (.cells ([.int .u64 m0,.int .u64 m1,.int .u64 m2,.int .u64 m3]:List Value).toArray 24)).alloc (.cells (L0s:List Value).toArray 24))=v0 at *
 have HB0:Bw w v0:=by rw[<-hC];exact Z0 (Z0 (Z0 (Z0 (Z2 w) _) _) _) _
 have K0:Bk w.heap.size v0 [(true,w.heap.size,LN a),(true,w.heap.size+1,LN b),(true,w.heap.size+1+1,[.int .u64 m0,.int .u64 m1,.int .u64 m2,.int .u64 m3]),(true,w.heap.size+1+1+1,L0s)]:=by rw[<-hC];exact(Bk.nil _ w).ad.ad.ad.ad
 clear hC
 refine rgP K0 HB0 HB0.size [] [(6,8,L0s,some (7,LN (a+b)))] [(0,12,NV a),(1,13,NV b),(2,14,.tuple #[NV (a+b),.bool false]),(3,11,.tuple #[NV (a+b),.bool false]),(4,15,NV (a+b)),(5,16,.bool false),(8,9,.bool false)] [(7,6)] [] [false,false] ?_ ?_
 ·exact oc (g_ld 0 uN iN)<|oc (g_ld 1 uN iN)<|oc (g_cl Zy (fun uZ=>nAdd_lt a b uZ ha hb hl))<|oc g_mv<|oc g_ex<|oc g_ex<|oc (g_al 0 aN)<|oc (g_sn 0 iN)<|oc g_as on
 intro u1 b1_6 HB1 sz1 K1
 simp only[sQ] at K1⊢
 clear K0 HB0
 go_upto_region 2 with fail
 refine rgP K1 HB1 HB1.size [] [(2,10,L0w,some (3,LW (a+b)))] [(0,17,NV (a+b)),(1,18,WV (a+b))] [(3,2)] [] [true,true,false] ?_ ?_
 ·exact oc (g_ld 2 uN iN)<|oc (g_cl Z7 (fun uZ=>X0 (a+b) uZ hi))<|oc (g_al 0 aW)<|oc (g_sn 0 iW) on
 intro u2 b2_2 HB2 sz2 K2
 simp only[sQ] at K2⊢
 clear K1 HB1
 go_upto_region 5 with fail
 refine rgP K2 HB2 HB2.size [.no,.all 5 ([.int .u64 r0,.int .u64 r1,.int .u64 r2,.int .u64 r3])] [] [(0,21,WV (a+b)),(1,22,.agg #[.int .u64 m0,.int .u64 m1,.int .u64 m2,.int .u64 m3]),(2,23,.tuple #[A4 r0 r1 r2 r3,.int .i64 ec]),(3,24,A4 r0 r1 r2 r3),(4,25,.int .i64 ec),(6,7,.int .i64 ec)] [] [] [false,true,false] ?_ ?_
 ·exact oc (g_ld 2 uW iW)<|oc (g_ld 0 uN iN)<|oc (g_cl Z6 (fun uZ=>hR.out uZ))<|oc g_ex<|oc g_ex<|oc (g_st 1 iN)<|oc g_as on
 intro u3 HB3 sz3 K3
 simp only[sQ] at K3⊢
 clear K2 HB2
 have c6:=(K3.cv 0).n4
 go_wp2
 refine bodyPost_ret (v:= .tuple #[A4 r0 r1 r2 r3,.int .i64 ec]) (by simp[results,Tryz.results36,go_sem,c6]) rfl ⟨rfl,HB3⟩
theorem addG_ge(a b m0 m1 m2 m3 r0 r1 r2 r3 ec:Int)(w:World)(ha:In a)(hb:In b)(hR:Hid (∀u,CC 60 #[WV (a+b),A4 m0 m1 m2 m3] u (.tuple #[A4 r0 r1 r2 r3,.int .i64 ec])))(hl:115792089237316195423570985008687907853269984665640564039457584007913129639936<=a+b):CC 36 #[NV a,NV b,A4 m0 m1 m2 m3] w (.tuple #[A4 r0 r1 r2 r3,.int .i64 ec]):=by
 have ha2:=ha.2;have hb2:=hb.2
 obtain⟨s,hs⟩: ∃s,a+b -115792089237316195423570985008687907853269984665640564039457584007913129639936=s:=⟨_,rfl⟩
 have hA:WV (a+b)=A8 (D0 s) (D1 s) (D2 s) (D3 s) 1 0 0 0:=WV_of (a+b) (D0 s) (D1 s) (D2 s) (D3 s) 1 0 0 0 (W_D0 s) (W_D1 s) (W_D2 s) (W_D3 s) ⟨by omega,by omega⟩ W_0 W_0 W_0 (by rw[V_In ⟨by omega,by omega⟩];simp[V];omega)
 rw[hA] at hR
 have nA:Hid (∀u,CC 58 #[NV a,NV b] u (.tuple #[NV s,.bool true])):=fun u=>by rw[<-hs];exact nAdd_ge a b u ha hb hl
 clear hs hA ha2 hb2
 go_enter Tryz.func36,Tryz.ntmps36
 go_upto_region 1 with fail
 generalize hC:((((w.alloc (.cells (LN a:List Value).toArray 24)).alloc (.cells (LN b:List Value).toArray 24)).alloc (.cells ([.int .u64 m0,.int .u64 m1,.int .u64 m2,.int .u64 m3]:List Value).toArray 24)).alloc (.cells (L0s:List Value).toArray 24))=v0 at *
 have HB0:Bw w v0:=by rw[<-hC];exact Z0 (Z0 (Z0 (Z0 (Z2 w) _) _) _) _
 have K0:Bk w.heap.size v0 [(true,w.heap.size,LN a),(true,w.heap.size+1,LN b),(true,w.heap.size+1+1,[.int .u64 m0,.int .u64 m1,.int .u64 m2,.int .u64 m3]),(true,w.heap.size+1+1+1,L0s)]:=by rw[<-hC];exact(Bk.nil _ w).ad.ad.ad.ad
 clear hC
 refine rgP K0 HB0 HB0.size [] [(6,8,L0s,some (7,LN s))] [(0,12,NV a),(1,13,NV b),(2,14,.tuple #[NV s,.bool true]),(3,11,.tuple #[NV s,.bool true]),(4,15,NV s),(5,16,.bool true),(8,9,.bool true)] [(7,6)] [] [false,false] ?_ ?_
 ·exact oc (g_ld 0 uN iN)<|oc (g_ld 1 uN iN)<|oc (g_cl Zy (fun uZ=>nA.out uZ))<|oc g_mv<|oc g_ex<|oc g_ex<|oc (g_al 0 aN)<|oc (g_sn 0 iN)<|oc g_as on
 intro u1 b1_6 HB1 sz1 K1
 simp only[sQ] at K1⊢
 clear K0 HB0
 go_upto_region 2 with fail
 refine rgP K1 HB1 HB1.size [] [(2,10,L0w,some (3,[.int .u64 (D0 s),.int .u64 (D1 s),.int .u64 (D2 s),.int .u64 (D3 s),.int .u64 (0),.int .u64 (0),.int .u64 (0),.int .u64 (0)]))] [(0,17,NV s),(1,18,A8 (D0 s) (D1 s) (D2 s) (D3 s) (0) (0) (0) (0))] [(3,2)] [] [true,true,false] ?_ ?_
 ·exact oc (g_ld 2 uN iN)<|oc (g_cl Z7 (fun uZ=>Widen_any (D0 s) (D1 s) (D2 s) (D3 s) uZ))<|oc (g_al 0 aW)<|oc (g_sn 0 iW) on
 intro u2 b2_2 HB2 sz2 K2
 simp only[sQ] at K2⊢
 clear K1 HB1
 go_upto_region 4 with fail
 refine rgP K2 HB2 HB2.size [.no,.no,.cs [(4,1,(Go.Value.int Go.IntKind.u64 1))]] [] [(0,20,.pointer (some ⟨b2_2,4,none⟩))] [] [] [] ?_ ?_
 ·exact oc (g_ix (jW 4))<|oc (g_sc 2 0 sU) on
 intro u3 HB3 sz3 K3
 simp only[fX,nK,nP,Wr.f,aK,pM,List.foldl,List.set_cons_zero,List.set_cons_succ] at K3
 simp only[setG,setN,List.set_cons_zero,List.set_cons_succ]
 clear K2 HB2
 go_upto_region 5 with fail
 refine rgP K3 HB3 HB3.size [.no,.all 5 ([.int .u64 r0,.int .u64 r1,.int .u64 r2,.int .u64 r3])] [] [(0,21,.agg #[.int .u64 (D0 s),.int .u64 (D1 s),.int .u64 (D2 s),.int .u64 (D3 s),(Go.Value.int Go.IntKind.u64 1),.int .u64 (0),.int .u64 (0),.int .u64 (0)]),(1,22,.agg #[.int .u64 m0,.int .u64 m1,.int .u64 m2,.int .u64 m3]),(2,23,.tuple #[A4 r0 r1 r2 r3,.int .i64 ec]),(3,24,A4 r0 r1 r2 r3),(4,25,.int .i64 ec),(6,7,.int .i64 ec)] [] [] [false,true,false] ?_ ?_
 ·exact oc (g_ld 2 uW iW)<|oc (g_ld 0 uN iN)<|oc (g_cl Z6 (fun uZ=>hR.out uZ))<|oc g_ex<|oc g_ex<|oc (g_st 1 iN)<|oc g_as on
 intro u4 HB4 sz4 K4
 simp only[sQ] at K4⊢
 clear K3 HB3
 have c6:=(K4.cv 0).n4
 go_wp2
 refine bodyPost_ret (v:= .tuple #[A4 r0 r1 r2 r3,.int .i64 ec]) (by simp[results,Tryz.results36,go_sem,c6]) rfl ⟨rfl,HB4⟩
theorem addG(a b m0 m1 m2 m3 r0 r1 r2 r3 ec:Int)(w:World)(ha:In a)(hb:In b)(hR:Hid (∀u,CC 60 #[WV (a+b),A4 m0 m1 m2 m3] u (.tuple #[A4 r0 r1 r2 r3,.int .i64 ec]))):CC 36 #[NV a,NV b,A4 m0 m1 m2 m3] w (.tuple #[A4 r0 r1 r2 r3,.int .i64 ec]):=by
 by_cases hl:a+b<115792089237316195423570985008687907853269984665640564039457584007913129639936
 ·exact addG_lt a b m0 m1 m2 m3 r0 r1 r2 r3 ec w ha hb hR hl
 ·exact addG_ge a b m0 m1 m2 m3 r0 r1 r2 r3 ec w ha hb hR (by omega)
theorem mAdd(a b m:Int)(w:World)(ha:In a)(hb:In b)(hm:In m)(h:m≠0):CC 36 #[NV a,NV b,NV m] w (.tuple #[NV ((a+b)%m),.int .i64 0]):=
 addG a b _ _ _ _ _ _ _ _ 0 w ha hb (fun u=>Yd (a+b) m u ⟨by have:=ha.1;have:=hb.1;omega,by have:=ha.2;have:=hb.2;omega⟩ hm h)
end
end Go.Proofs.YtgieoghechekpaaGreatDoor
