import Derived.Test.YtknpepgonhdbgaaGreatDoorAN8
namespace Go.Proofs.YtknpepgonhdbgaaGreatDoor
set_option linter.unusedVariables false
set_option linter.unusedSimpArgs false
set_option maxRecDepth 100000
set_option maxHeartbeats 4000000
open Go.RowKit
def GMul (w:World):Prop:= ∀u p q g h ns v,Bw w u->In p->In q->In g->In h->NL u v ns->ns.length<=12->(∀k,k<ns.length->In (ns.getD k 0))->CC 18 #[GX p q g h,v] u (.tuple #[NV (mlX p q ns),.int .i64 (mlE p q ns)])
theorem Xu:EnT 20:=fun _ _=>by kernel_rfl
theorem Wc:EnT 18:=fun _ _=>by kernel_rfl
theorem Yr:EnT 31:=fun _ _=>by kernel_rfl
theorem Wv:EnT 28:=fun _ _=>by kernel_rfl
theorem the_core (P Q hh:Int) (w:World) (hP:Hid (∀u,Bw w u->CC 28 #[.int .i64 0] u (.tuple #[GX P Q 4 hh,.int .i64 0]))):
 CC 31 #[] w (GX P Q 4 hh):=by
 go_enter Tryz.func31,Tryz.ntmps31
 go_upto_region 1 with fail
 generalize hC:(w.alloc (.cells (L0g:List Value).toArray 26))=v0 at *
 have HB0:Bw w v0:=by rw[<-hC];exact Z1 (Z6 w) _
 have K0:Bk w.heap.size v0 [(true,w.heap.size,L0g)]:=by rw[<-hC];exact(Bk.nil _ w).ad
 clear hC
 go_upto_region 1 with fail
 refine rgP K0 HB0 HB0.size [] [(4,1,L0g,some (5,GE (P) (Q) (4) (hh)))] [(0,4,.tuple #[GX (P) (Q) (4) (hh),.int .i64 0]),(1,3,.tuple #[GX (P) (Q) (4) (hh),.int .i64 0]),(2,5,GX (P) (Q) (4) (hh)),(3,6,.int .i64 0),(6,2,.int .i64 0)] [(5,4)] [] [] ?_ ?_
 ·exact oc (g_cb Wv (fun uZ bZ=>hP.out uZ bZ))<|oc g_mv<|oc g_ex<|oc g_ex<|oc (g_al 0 Xg)<|oc (g_sn 0 Z0)<|oc g_as on
 intro u1 b1_4 HB1 sz1 K1
 simp only[sQ] at K1⊢
 clear K0 HB0
 go_upto_region 2 with fail
 refine rgP K1 HB1 HB1.size [.all 1 (GE (P) (Q) (4) (hh))] [] [(0,7,GX (P) (Q) (4) (hh))] [] [] [true,false] ?_ ?_
 ·exact oc (g_ld 1 Tryz.underlying26 Z0)<|oc (g_st 0 Z0) on
 intro u2 HB2 sz2 K2
 simp only[sQ] at K2⊢
 clear K1 HB1
 have c0_0:=((K2.cv 0) 0 _ rfl).1
 have c0_1:=((K2.cv 0) 1 _ rfl).1
 have c0_2:=((K2.cv 0) 2 _ rfl).1
 have c0_3:=((K2.cv 0) 3 _ rfl).1
 have c0_4:=((K2.cv 0) 4 _ rfl).1
 have c0_5:=((K2.cv 0) 5 _ rfl).1
 have c0_6:=((K2.cv 0) 6 _ rfl).1
 have c0_7:=((K2.cv 0) 7 _ rfl).1
 have c0_8:=((K2.cv 0) 8 _ rfl).1
 have c0_9:=((K2.cv 0) 9 _ rfl).1
 have c0_10:=((K2.cv 0) 10 _ rfl).1
 have c0_11:=((K2.cv 0) 11 _ rfl).1
 have c0_12:=((K2.cv 0) 12 _ rfl).1
 have c0_13:=((K2.cv 0) 13 _ rfl).1
 have c0_14:=((K2.cv 0) 14 _ rfl).1
 have c0_15:=((K2.cv 0) 15 _ rfl).1
 go_wp2
 refine bodyPost_ret (v:=GX (P) (Q) (4) (hh)) (by simp[results,Tryz.results31,go_sem,c0_0,c0_1,c0_2,c0_3,c0_4,c0_5,c0_6,c0_7,c0_8,c0_9,c0_10,c0_11,c0_12,c0_13,c0_14,c0_15]) rfl ⟨rfl,HB2⟩
theorem grpCommits_core (P Q hh s t s2 t2 a b c x y:Int) (w:World)
 (hW:Hid (∀u,Bw w u->CC 17 #[] u (.bool true)))
 (hT:Hid (∀u,Bw w u->CC 31 #[] u (GX P Q 4 hh)))
 (hA:Hid (∀u,Bw w u->CC 20 #[GX P Q 4 hh,NV s,NV t] u (.tuple #[NV a,.int .i64 0])))
 (hB:Hid (∀u,Bw w u->CC 20 #[GX P Q 4 hh,NV s2,NV t2] u (.tuple #[NV b,.int .i64 0])))
 (hX:Hid (∀u,Bw w u->CC 33 #[NV s,NV s2,NV Q] u (.tuple #[NV x,.int .i64 0])))
 (hY:Hid (∀u,Bw w u->CC 33 #[NV t,NV t2,NV Q] u (.tuple #[NV y,.int .i64 0])))
 (hC:Hid (∀u,Bw w u->CC 20 #[GX P Q 4 hh,NV x,NV y] u (.tuple #[NV c,.int .i64 0])))
 (hM:Hid (∀u v,Bw w u->NL u v [a,b]->CC 18 #[GX P Q 4 hh,v] u (.tuple #[NV c,.int .i64 0]))):
 CC 7 #[NV s,NV t,NV s2,NV t2] w (.bool true):=by
 go_enter Tryz.func7,Tryz.ntmps7
 go_upto_region 1 with fail
 generalize hC:((((w.alloc (.cells (LN s:List Value).toArray 24)).alloc (.cells (LN t:List Value).toArray 24)).alloc (.cells (LN s2:List Value).toArray 24)).alloc (.cells (LN t2:List Value).toArray 24))=v0 at *
 have HB0:Bw w v0:=by rw[<-hC];exact Z1 (Z1 (Z1 (Z1 (Z6 w) _) _) _) _
 have K0:Bk w.heap.size v0 [(true,w.heap.size,LN s),(true,w.heap.size+1,LN t),(true,w.heap.size+1+1,LN s2),(true,w.heap.size+1+1+1,LN t2)]:=by rw[<-hC];exact(Bk.nil _ w).ad.ad.ad.ad
 clear hC
 refine rgP K0 HB0 HB0.size [] [] [(0,22,.bool true),(1,23,.bool false)] [] [] [] ?_ ?_
 ·exact oc (g_cb Zs (fun uZ bZ=>hW.out uZ bZ))<|oc (g_un (fun uZ=>rfl)) on
 intro u1 HB1 sz1 K1
 simp only[sQ] at K1⊢
 clear K0 HB0
 go_upto_region 3 with fail
 refine rgP K1 HB1 HB1.size [] [(1,9,L0g,some (2,GE (P) (Q) (4) (hh)))] [(0,24,GX (P) (Q) (4) (hh))] [(2,1)] [] [] ?_ ?_
 ·exact oc (g_cb Yr (fun uZ bZ=>hT.out uZ bZ))<|oc (g_al 0 Xg)<|oc (g_sn 0 Z0) on
 intro u2 b2_1 HB2 sz2 K2
 simp only[sQ] at K2⊢
 clear K1 HB1
 go_upto_region 4 with fail
 refine rgP K2 HB2 HB2.size [] [(7,10,L0s,some (8,LN a))] [(0,26,GX (P) (Q) (4) (hh)),(1,27,NV s),(2,28,NV t),(3,29,.tuple #[NV a,.int .i64 0]),(4,25,.tuple #[NV a,.int .i64 0]),(5,30,NV a),(6,31,.int .i64 0),(9,11,.int .i64 0)] [(8,7)] [] [] ?_ ?_
 ·exact oc (g_ld 4 Tryz.underlying26 Z0)<|oc (g_ld 0 uN iN)<|oc (g_ld 1 uN iN)<|oc (g_cb Xu (fun uZ bZ=>hA.out uZ bZ))<|oc g_mv<|oc g_ex<|oc g_ex<|oc (g_al 0 aN)<|oc (g_sn 0 iN)<|oc g_as on
 intro u3 b3_7 HB3 sz3 K3
 simp only[sQ] at K3⊢
 clear K2 HB2
 go_upto_region 5 with fail
 refine rgP K3 HB3 HB3.size [] [(7,12,L0s,some (8,LN b))] [(0,33,GX (P) (Q) (4) (hh)),(1,34,NV s2),(2,35,NV t2),(3,36,.tuple #[NV b,.int .i64 0]),(4,32,.tuple #[NV b,.int .i64 0]),(5,37,NV b),(6,38,.int .i64 0),(9,13,.int .i64 0)] [(8,7)] [] [] ?_ ?_
 ·exact oc (g_ld 4 Tryz.underlying26 Z0)<|oc (g_ld 2 uN iN)<|oc (g_ld 3 uN iN)<|oc (g_cb Xu (fun uZ bZ=>hB.out uZ bZ))<|oc g_mv<|oc g_ex<|oc g_ex<|oc (g_al 0 aN)<|oc (g_sn 0 iN)<|oc g_as on
 intro u4 b4_7 HB4 sz4 K4
 simp only[sQ] at K4⊢
 clear K3 HB3
 go_upto_region 6 with fail
 refine rgP K4 HB4 HB4.size [] [(8,14,L0s,some (9,LN x))] [(0,40,NV s),(1,41,NV s2),(2,42,.pointer (some ⟨b2_1,4,none⟩)),(3,43,NV Q),(4,44,.tuple #[NV x,.int .i64 0]),(5,39,.tuple #[NV x,.int .i64 0]),(6,45,NV x),(7,46,.int .i64 0),(10,15,.int .i64 0)] [(9,8)] [] [false,true,false] ?_ ?_
 ·exact oc (g_ld 0 uN iN)<|oc (g_ld 2 uN iN)<|oc (g_fd (fun uZ=>fdG1 _ uZ))<|oc (g_lo 4 4 uN iN)<|oc (g_cb Xo (fun uZ bZ=>hX.out uZ bZ))<|oc g_mv<|oc g_ex<|oc g_ex<|oc (g_al 0 aN)<|oc (g_sn 0 iN)<|oc g_as on
 intro u5 b5_8 HB5 sz5 K5
 simp only[sQ] at K5⊢
 clear K4 HB4
 go_upto_region 7 with fail
 refine rgP K5 HB5 HB5.size [] [(8,16,L0s,some (9,LN y))] [(0,48,NV t),(1,49,NV t2),(2,50,.pointer (some ⟨b2_1,4,none⟩)),(3,51,NV Q),(4,52,.tuple #[NV y,.int .i64 0]),(5,47,.tuple #[NV y,.int .i64 0]),(6,53,NV y),(7,54,.int .i64 0),(10,17,.int .i64 0)] [(9,8)] [] [false,false] ?_ ?_
 ·exact oc (g_ld 0 uN iN)<|oc (g_ld 1 uN iN)<|oc (g_fd (fun uZ=>fdG1 _ uZ))<|oc (g_lo 2 4 uN iN)<|oc (g_cb Xo (fun uZ bZ=>hY.out uZ bZ))<|oc g_mv<|oc g_ex<|oc g_ex<|oc (g_al 0 aN)<|oc (g_sn 0 iN)<|oc g_as on
 intro u6 b6_8 HB6 sz6 K6
 simp only[sQ] at K6⊢
 clear K5 HB5
 go_upto_region 8 with fail
 refine rgP K6 HB6 HB6.size [] [(7,18,L0s,some (8,LN c))] [(0,56,GX (P) (Q) (4) (hh)),(1,57,NV x),(2,58,NV y),(3,59,.tuple #[NV c,.int .i64 0]),(4,55,.tuple #[NV c,.int .i64 0]),(5,60,NV c),(6,61,.int .i64 0),(9,19,.int .i64 0)] [(8,7)] [] [true,true,true,false,false] ?_ ?_
 ·exact oc (g_ld 0 Tryz.underlying26 Z0)<|oc (g_ld 3 uN iN)<|oc (g_ld 4 uN iN)<|oc (g_cb Xu (fun uZ bZ=>hC.out uZ bZ))<|oc g_mv<|oc g_ex<|oc g_ex<|oc (g_al 0 aN)<|oc (g_sn 0 iN)<|oc g_as on
 intro u7 b7_7 HB7 sz7 K7
 simp only[sQ] at K7⊢
 clear K6 HB6
 go_upto_region 9 with fail
 refine rgF K7 HB7 HB7.size [] [(8,20,L0s,some (9,LN c))] [(0,63,GX (P) (Q) (4) (hh)),(1,64,NV a),(2,65,NV b),(4,67,.tuple #[NV c,.int .i64 0]),(5,62,.tuple #[NV c,.int .i64 0]),(6,68,NV c),(7,69,.int .i64 0),(10,21,.int .i64 0)] [(9,8)] [] [⟨3,66,some 4,(N2 a b)⟩] [false,false,false] (.cons (fun _ _ _ h1 h2=>h2.stab h1)<|Stab.nil) ?_ ?_
 ·exact oc (g_ld 0 Tryz.underlying26 Z0)<|oc (g_ld 1 uN iN)<|oc (g_ld 2 uN iN)<|oc (g_bR 0 (N2 a b) [0,1] [NV a,NV b] (flN [a,b]) (bsN2 a b) (fun u hu=>inN2 a b u))<|oc (g_c2 0 (N2 a b) Wc (fun uZ yZ bZ hZ=>hM.out uZ yZ bZ hZ))<|oc g_mv<|oc g_ex<|oc g_ex<|oc (g_al 0 aN)<|oc (g_sn 0 iN)<|oc g_as on
 intro u8 b8_8 v8_3 hv8_3 HB8 sz8 K8
 simp only[sQ] at K8⊢
 clear K7 HB7
 go_upto_region 10 with fail
 refine rgP K8 HB8 HB8.size [] [] [(0,70,.int .i64 0),(1,71,.bool true),(2,72,.bool true),(3,73,.int .i64 0),(4,74,.bool true),(5,75,.bool true),(6,76,.bool true),(7,77,.int .i64 0),(8,78,.bool true),(9,79,.bool true),(10,80,.bool true),(11,81,.int .i64 0),(12,82,.bool true),(13,83,.bool true),(14,84,.bool true),(15,85,NV c),(16,86,NV c),(17,87,.bool true),(18,88,.bool true),(19,8,.bool true)] [] [] [false,false] ?_ ?_
 ·exact oc g_mv<|oc (g_bn (fun uZ=>Wa _ _ _ 0 0 _ uZ rfl))<|oc g_mv<|oc g_mv<|oc (g_bn (fun uZ=>Wa _ _ _ 0 0 _ uZ rfl))<|oc g_pk<|oc g_mv<|oc g_mv<|oc (g_bn (fun uZ=>Wa _ _ _ 0 0 _ uZ rfl))<|oc g_pk<|oc g_mv<|oc g_mv<|oc (g_bn (fun uZ=>Wa _ _ _ 0 0 _ uZ rfl))<|oc g_pk<|oc g_mv<|oc (g_ld 1 uN iN)<|oc (g_ld 0 uN iN)<|oc (g_bn (fun uZ=>Xr _ _ (c) uZ))<|oc g_pk<|oc g_as on
 intro u9 HB9 sz9 K9
 simp only[sQ] at K9⊢
 clear K8 HB8
 go_wp2
 refine bodyPost_ret (v:= .bool true) (by simp[results,Tryz.results7,go_sem,]) rfl ⟨rfl,HB9⟩
theorem coX_t {p q g h:Int} (hg:gOk p q) (h1:Mb p q g) (h2:Mb p q h) (s t:Int):coE p q g h=0/\coX p q g h s t=g^(s%q).toNat%p*(h^(t%q).toNat%p)%p:=by
 have e:(isB p q g&&isB p q h)=true:=by rw[Vz hg h1,Vz hg h2];rfl
 exact⟨if_pos e,if_pos e⟩
theorem coX_Mb {p q g h:Int} (hg:gOk p q) (h1:Mb p q g) (h2:Mb p q h) (s t:Int):Mb p q (coX p q g h s t):=by
 rw[(coX_t hg h1 h2 s t).2]
 exact(h1.pow hg _).mul hg (h2.pow hg _)
theorem In_two {a b:Int} (ha:In a) (hb:In b): ∀k,k<[a,b].length->In ([a,b].getD k 0):=fun k hk=>by
 have:k=0\/k=1:=by simp at hk;omega
 rcases this with rfl | rfl
 ·exact ha
 ·exact hb
theorem mb_40:Mb P0 Q0 4:=is_4 pr0
theorem xThe (w:World):CC 31 #[] w (GX P0 Q0 4 (meN P0 [104])):=
 the_core P0 Q0 (meN P0 [104]) w (fun u _=>xParams0 u)
theorem grpCommits_any (s t s2 t2:Int) (w:World) (hs:In s) (ht:In t) (hs2:In s2) (ht2:In t2) (hP:GPa0 w) (hE:GExp w) (hI:GIs w) (hC:GChk w) (hK:GCom w) (hM:GMul w):
 CC 7 #[NV s,NV t,NV s2,NV t2] w (.bool true):=by
 have iH:=Tq Yb mb_h0
 have hq0:Q0≠0:=by decide
 have k0:=coX_t X0 mb_40 mb_h0
 have kM:=coX_Mb X0 mb_40 mb_h0
 have iX:In ((s+s2)%Q0):=Zw Xh hq0
 have iY:In ((t+t2)%Q0):=Zw Xh hq0
 have hsum:=co_sum X0 mb_40 mb_h0 s t s2 t2 hs.1 ht.1 hs2.1 ht2.1
 rw[<-(k0 s t).2,<-(k0 s2 t2).2,<-(k0 ((s+s2)%Q0) ((t+t2)%Q0)).2] at hsum
 have hml:=ml_two X0 (kM s t) (kM s2 t2)
 refine grpCommits_core P0 Q0 (meN P0 [104]) s t s2 t2 (coX P0 Q0 4 (meN P0 [104]) s t) (coX P0 Q0 4 (meN P0 [104]) s2 t2) (coX P0 Q0 4 (meN P0 [104]) ((s+s2)%Q0) ((t+t2)%Q0)) ((s+s2)%Q0) ((t+t2)%Q0) w
  (fun u hB=>works9 u (hP.up hB) (hE.up hB) (hI.up hB) (hC.up hB)) (fun u _=>xThe u) (fun u hB=>?_) (fun u hB=>?_) (fun u _=>xAdd s s2 Q0 u hs hs2 Xh hq0) (fun u _=>xAdd t t2 Q0 u ht ht2 Xh hq0) (fun u hB=>?_) (fun u v hB hv=>?_)
 ·have:=hK u P0 Q0 4 (meN P0 [104]) s t hB Yb Xh T9 iH hs ht
  rw[(k0 s t).1] at this
  exact this
 ·have:=hK u P0 Q0 4 (meN P0 [104]) s2 t2 hB Yb Xh T9 iH hs2 ht2
  rw[(k0 s t).1] at this
  exact this
 ·have:=hK u P0 Q0 4 (meN P0 [104]) _ _ hB Yb Xh T9 iH iX iY
  rw[(k0 s t).1] at this
  exact this
 ·have:=hM u P0 Q0 4 (meN P0 [104]) _ v hB Yb Xh T9 iH hv (by simp) (In_two (Tq Yb (kM s t)) (Tq Yb (kM s2 t2)))
  rw[hml.1,hml.2,hsum] at this
  exact this
end Go.Proofs.YtknpepgonhdbgaaGreatDoor
