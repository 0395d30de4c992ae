import Derived.Test.YtknpepgonhdbgaaGreatDoorLC5
namespace Go.Proofs.YtknpepgonhdbgaaGreatDoor
set_option linter.unusedVariables false
set_option linter.unusedSimpArgs false
set_option maxRecDepth 100000
set_option maxHeartbeats 4000000
section
theorem sq_Mb {p q x:Int} (hp:Pr p.toNat) (hg:gOk p q) (h:x%p≠0):Mb p q (x*x%p):=by
 have h7:=hg.2
 have h2:=hg.1
 refine Mb.of hg ?_
 have ha0:=Int.emod_nonneg x (show p≠0 by omega)
 have ha1:=Int.emod_lt_of_pos x (show 0<p by omega)
 have e0:(x*x)^q.toNat%p=(x%p)^(p.toNat -1)%p:=by
  rw[show p.toNat -1=2*q.toNat by omega,Int.pow_mul,<-Ue (x*x),<-Ue ((x%p)^2),Int.pow_succ,Int.pow_succ,Int.pow_zero,Int.one_mul,<-Int.mul_emod]
 rw[e0]
 obtain⟨a,ea⟩: ∃a:Nat,x%p=(a:Int):=⟨(x%p).toNat,by omega⟩
 rw[ea] at h ha1⊢
 have hb: ¬p.toNat∣a:=fun hd=>by have:=Nat.le_of_dvd (by omega) hd;omega
 have hf:=hp.fermat hb
 have hf2:((a^(p.toNat -1)%p.toNat:Nat):Int)=1:=by rw[hf];rfl
 rw[Int.natCast_emod,Int.natCast_pow,Int.toNat_of_nonneg (by omega)] at hf2
 exact hf2
theorem one_Mb {p q:Int} (hg:gOk p q):Mb p q 1:=by
 have h7:=hg.2
 exact⟨by omega,by omega,by rw[Int.one_pow];exact one_mod (by omega)⟩
theorem meF_is {f:Nat->Int}: ∀(k s:Nat),meF f s k=1\/ ∃i,meF f s k=f i/\1<f i
 | 0,s=>.inl rfl
 | k+1,s=>by
  rw[meF]
  by_cases h:1<f s
  ·rw[if_pos h];exact .inr ⟨s,rfl,h⟩
  ·rw[if_neg h];exact meF_is k (s+1)
theorem meN_Mb {p q:Int} (hp:Pr p.toNat) (hg:gOk p q) (bs:List Nat):Mb p q (meN p bs):=by
 unfold meN
 rcases meF_is (f:=sqM p bs) 64 0 with h | ⟨i,h,h1⟩
 ·rw[h];exact one_Mb hg
 ·rw[h]
  unfold sqM at h1⊢
  refine sq_Mb hp hg fun e=>?_
  rw[Int.mul_emod,e,Int.mul_zero,Int.zero_emod] at h1
  omega
theorem dgN_lt (bs:List Nat) (s:ByteArray) {m:Int} (hm:0<m):0<=dgN bs s m/\dgN bs s m<m:=⟨Int.emod_nonneg _ (by omega),Int.emod_lt_of_pos _ hm⟩
theorem Vz {p q x:Int} (hg:gOk p q) (h:Mb p q x):isB p q x=true:=decide_eq_true ⟨hg,h⟩
abbrev P0:Int:=1162079267
abbrev Q0:Int:=581039633
theorem X0:gOk P0 Q0:=⟨by decide,by decide⟩
theorem is_4 (hp:Pr P0.toNat):Mb P0 Q0 4:=sq_Mb (x:=2) hp X0 (by decide)
theorem is_9 (hp:Pr P0.toNat):Mb P0 Q0 9:=sq_Mb (x:=3) hp X0 (by decide)
theorem is_no (hp:Pr P0.toNat):isB P0 Q0 (P0 -4)=false:=by
 have:=gn_neg (p:=P0) (q:=Q0) (a:=2) hp (by decide) (by decide) (by decide) (by decide) (by decide)
 unfold gnB at this
 have hn:=of_decide_eq_false this
 exact decide_eq_false fun h=>hn ⟨by decide,by decide,h.2.2.2⟩
end
section
open Go.RowKit
def P104 (u:World) (v:Value):Prop:=IN u u.heap.size v [104]
theorem P104.stab {u u2:World} {x:Value} (hB:Bw u u2) (h:P104 u x):P104 u2 x:=(IN.below h hB).mono hB.size
theorem bdG3 (p q g:Int) (w:World):(Instr.build 26 [(0,NV p),(1,NV q),(2,NV g)].toArray).run Tryz.prog w= .ok (GX p q g 0) w:=by kernel_rfl
theorem X2:EnT 24:=fun _ _=>by kernel_rfl
theorem bs104 (w:World):(Instr.buildSlice 36 1 ([0].zip [.int .u8 104]).toArray).run Tryz.prog w= .ok (.slice (some ⟨w.heap.size,0,none⟩) 1 1) (w.alloc (.cells [.int .u8 104].toArray 5)):=by kernel_rfl
theorem in104 (u:World):P104 (u.alloc (.cells [.int .u8 104].toArray 5)) (.slice (some ⟨u.heap.size,0,none⟩) 1 1):=
 ⟨_,1,u.heap.size,0,rfl,by simp,.inr rfl,by simp,fun j hj=>by
  have e:j=0:=by simp at hj;omega
  subst e
  exact(CV.new u [.int .u8 104] 5 0 _ rfl).1⟩
theorem xParams_core (k P Q a hh:Int) (n:Nat) (cs:List (Int×Int×Int)) (w:World) (hn:Hid (n=cs.length)) (h0:0<n) (h20:n<=20) (hc:cat cs (n -1)=(P,Q,a))
 (hX:Hid (∀u,Calls Tryz.prog 29 #[.int .i64 k] u fun e u'=> ∃v,e= .returned v/\PT 0 u.heap.size n (flC cs) u' v/\Bw u u'))
 (hM:Hid (∀u v,IN u u.heap.size v [104]->CC 24 #[GX P Q 4 0,v] u (.tuple #[NV hh,.int .i64 0]))):
 CC 28 #[.int .i64 k] w (.tuple #[GX P Q 4 hh,.int .i64 0]):=by
 go_enter Tryz.func28,Tryz.ntmps28
 go_upto_region 1 with fail
 generalize hC:(w.alloc (.cells (L0g:List Value).toArray 26))=v0 at *
 have HB0:Bw w v0:=by rw[<-hC];exact Z1 (Z6 w) _
 have K0:Bk w.heap.size v0 [(true,w.heap.size,L0g)]:=by rw[<-hC];exact(Bk.nil _ w).ad
 clear hC
 refine rgF K0 HB0 HB0.size [] [] [(0,9,.int .i64 k),(4,12,.int .i64 0),(6,5,.int .i64 0)] [] [] [⟨1,10,none,PT 0 v0.heap.size n (flC cs)⟩,⟨2,8,none,PT 0 v0.heap.size n (flC cs)⟩,⟨3,11,some 5,PS v0.heap.size n (flC cs)⟩,⟨5,4,none,PS v0.heap.size n (flC cs)⟩] [] (.cons (fun _ _ _ h1 h2=>h2.stab h1)<| .cons (fun _ _ _ h1 h2=>h2.stab h1)<| .cons (fun _ _ _ h1 h2=>h2.stab h1)<| .cons (fun _ _ _ h1 h2=>h2.stab h1)<|Stab.nil) ?_ ?_
 ·exact oc g_mv<|oc (g_cE 0 (PT 0 v0.heap.size n (flC cs)) V7 (fun u hB hs=>(hX.out u).mono fun e u2 ⟨v,e1,h1,h2⟩=>⟨v,e1,h1.mono hs,h2⟩))<|oc (g_mE 0 1 (PT 0 v0.heap.size n (flC cs)))<|oc (g_xE 1 2 (PT 0 v0.heap.size n (flC cs)) (PS v0.heap.size n (flC cs)) PT.fst)<|oc (g_xV 1 (PT 0 v0.heap.size n (flC cs)) PT.snd)<|oc (g_sE 2 3 (PS v0.heap.size n (flC cs)))<|oc g_as on
 intro u1 v1_1 hv1_1 v1_2 hv1_2 v1_3 hv1_3 v1_5 hv1_5 HB1 sz1 K1
 simp only[sQ] at K1⊢
 clear HB0
 obtain⟨bl,cl,rfl,l1,l2,l3,l4⟩:=hv1_5 rfl
 have K1xl:=Bk.more3 K0 K1 l1 l2 l4 (by intro x hx;first | (simp at hx;done) | (simp at hx⊢;omega))
 simp only[aK] at K1xl
 clear K1
 go_upto_region 2 with fail
 refine rgP K1xl HB1 HB1.size [] [] [(0,13,.int .i64 0),(1,14,.bool false)] [] [] [] ?_ ?_
 ·exact oc g_mv<|oc (g_bn (fun uZ=>Tu _ _ _ 0 0 _ uZ rfl)) on
 intro u2 HB2 sz2 K2
 simp only[sQ] at K2⊢
 clear HB1
 have hz3:(n:Int) -1=((n -1:Nat):Int):=by omega
 have hR:=flC_get cs (n -1)
 rw[hc] at hR
 have hR:Hid _:=hR
 go_upto_region 4 with fail
 refine rgP K2 HB2 HB2.size [] [(6,6,L0c,some (7,CE (P) (Q) (a)))] [(0,17,.slice (some ⟨bl,0,none⟩) n cl),(1,18,.slice (some ⟨bl,0,none⟩) n cl),(2,19,.int .i64 (n:Int)),(3,20,.int .i64 ((n -1:Nat):Int)),(4,21,.pointer (some ⟨bl,0+12*(n -1),none⟩)),(5,22,CX (P) (Q) (a))] [(7,6)] [] [] ?_ ?_
 ·exact oc g_mv<|oc g_mv<|oc (g_ln Tryz.underlying44)<|oc (g_bn (fun uZ=>Xm _ _ (n:Int) 1 ((n -1:Nat):Int) uZ hz3 (by omega) (by omega)))<|oc (g_ix (fun uZ=>ixC bl 0 n cl (n -1) (by omega) uZ))<|oc (g_lR 1 (0+12*(n -1)) (cs:=CE (P) (Q) (a)) ((fun c v hv=>by rw[Nat.zero_add];exact hR.out c v (by have:=hn.out;omega) hv)) Tryz.underlying82 Td)<|oc (g_al 0 al_api_Cert)<|oc (g_sn 0 Td) on
 intro u3 b3_6 HB3 sz3 K3
 simp only[sQ] at K3⊢
 clear K2 HB2
 go_upto_region 5 with fail
 refine rgD K3 HB3 HB3.size [] [(6,7,L0g,some (7,GE (P) (Q) (4) (0)))] [(0,23,.pointer (some ⟨b3_6,0,none⟩)),(1,24,NV P),(2,25,.pointer (some ⟨b3_6,4,none⟩)),(3,26,NV Q),(4,27,NV 4),(5,28,GX (P) (Q) (4) (0))] [(7,6)] [] [] ?_ ?_
 ·exact oc (g_fd (fun uZ=>fdC0 _ uZ))<|oc (g_lo 2 0 uN iN)<|oc (g_fd (fun uZ=>fdC1 _ uZ))<|oc (g_lo 2 4 uN iN)<|oc (g_cl Zt (fun uZ=>Uj 4 uZ (by omega) (by omega)))<|oc (g_bd (fun uZ=>bdG3 P Q 4 uZ))<|oc (g_al 0 Xg)<|oc (g_sn 0 Z0) on
 intro u4 b4_6 HB4 sz4 K4
 simp only[sQ] at K4⊢
 clear K3 HB3
 go_upto_region 6 with fail
 refine rgF K4 HB4 HB4.size [.no,.no,.no,.all 7 (GE (P) (Q) (4) (hh))] [] [(0,30,GX (P) (Q) (4) (0)),(2,32,.tuple #[NV hh,.int .i64 0]),(3,29,.tuple #[NV hh,.int .i64 0]),(4,33,NV hh),(5,34,.int .i64 0),(6,35,.pointer (some ⟨b4_6,12,none⟩))] [(7,0)] [] [⟨1,31,some 2,P104⟩] [] (.cons (fun _ _ _ h1 h2=>h2.stab h1)<|Stab.nil) ?_ ?_
 ·exact oc (g_ld 3 Tryz.underlying26 Z0)<|oc (g_bS 0 P104 [0] [.int .u8 104] bs104 in104)<|oc (g_c2 0 P104 X2 (fun uZ yZ _ hZ=>hM.out uZ yZ hZ))<|oc g_mv<|oc g_ex<|oc g_ex<|oc (g_fd (fun uZ=>fdG3 _ uZ))<|oc (g_sm 3 12 (LN P++LN Q++LN 4) (LN 0) ([]) (post:=LN hh) iN) on
 intro u5 v5_1 hv5_1 HB5 sz5 K5
 simp only[sQ] at K5⊢
 clear K4 HB4
 go_upto_region 7 with fail
 refine rgP K5 HB5 HB5.size [.all 1 (GE (P) (Q) (4) (hh))] [] [(0,36,GX (P) (Q) (4) (hh)),(2,3,(Go.Value.int Go.IntKind.i64 0))] [] [] [] ?_ ?_
 ·exact oc (g_ld 3 Tryz.underlying26 Z0)<|oc (g_st 0 Z0)<|oc g_as on
 intro u6 HB6 sz6 K6
 simp only[sQ] at K6⊢
 clear K5 HB5
 have c2_0:=((K6.cv 0) 0 _ rfl).1
 have c2_1:=((K6.cv 0) 1 _ rfl).1
 have c2_2:=((K6.cv 0) 2 _ rfl).1
 have c2_3:=((K6.cv 0) 3 _ rfl).1
 have c2_4:=((K6.cv 0) 4 _ rfl).1
 have c2_5:=((K6.cv 0) 5 _ rfl).1
 have c2_6:=((K6.cv 0) 6 _ rfl).1
 have c2_7:=((K6.cv 0) 7 _ rfl).1
 have c2_8:=((K6.cv 0) 8 _ rfl).1
 have c2_9:=((K6.cv 0) 9 _ rfl).1
 have c2_10:=((K6.cv 0) 10 _ rfl).1
 have c2_11:=((K6.cv 0) 11 _ rfl).1
 have c2_12:=((K6.cv 0) 12 _ rfl).1
 have c2_13:=((K6.cv 0) 13 _ rfl).1
 have c2_14:=((K6.cv 0) 14 _ rfl).1
 have c2_15:=((K6.cv 0) 15 _ rfl).1
 go_wp2
 refine bodyPost_ret (v:= .tuple #[GX (P) (Q) (4) (hh),.int .i64 0]) (by simp[results,Tryz.results28,go_sem,c2_0,c2_1,c2_2,c2_3,c2_4,c2_5,c2_6,c2_7,c2_8,c2_9,c2_10,c2_11,c2_12,c2_13,c2_14,c2_15]) rfl ⟨rfl,HB6⟩
theorem mem104 (p q:Int) (hg:gOk p q) (hp:In p) (hq:In q) (u:World) (v:Value) (h:IN u u.heap.size v [104]):
 CC 24 #[GX p q 4 0,v] u (.tuple #[NV (meN p [104]),.int .i64 0]):=by
 have h1:=xMemberG p q 4 0 [104] v u hp hq h (fun x hx=>by simp at hx;omega) (by decide)
 have e1:meX p q [104]=meN p [104]:=if_pos hg
 have e2:chE p q=0:=if_pos hg
 rw[e1,e2] at h1
 exact h1
theorem xParams0 (w:World):CC 28 #[.int .i64 0] w (.tuple #[GX P0 Q0 4 (meN P0 [104]),.int .i64 0]):=
 xParams_core 0 P0 Q0 2 (meN P0 [104]) 2 (stp ns0 2) w rfl (by omega) (by omega) rfl (fun u=>xChain0 u) (fun u v h=>mem104 P0 Q0 X0 ⟨by decide,by decide⟩ ⟨by decide,by decide⟩ u v h)
def GChk (w:World):Prop:= ∀u p q g h,Bw w u->In p->In q->In g->In h->CC 15 #[GX p q g h] u (.int .i64 (chE p q))
def GIs (w:World):Prop:= ∀u p q g h x,Bw w u->In p->In q->In g->In h->In x->CC 13 #[GX p q g h,NV x] u (.bool (isB p q x))
def GExp (w:World):Prop:= ∀u p q g h x e,Bw w u->In p->In q->In g->In h->In x->In e->CC 9 #[GX p q g h,NV x,NV e] u (.tuple #[NV (exPX p q x e),.int .i64 (exPE p q x)])
def GPa0 (w:World):Prop:= ∀u,Bw w u->CC 27 #[.int .i64 0] u (.tuple #[GX P0 Q0 4 (meN P0 [104]),.int .i64 0])
def GMem (w:World):Prop:= ∀u p q g h bs v,Bw w u->In p->In q->In g->In h->IN u u.heap.size v bs->(∀x∈bs,x<256)->bs.length<=200->CC 22 #[GX p q g h,v] u (.tuple #[NV (meX p q bs),.int .i64 (chE p q)])
def GSca (w:World):Prop:= ∀u p q g h bs v,Bw w u->In p->In q->In g->In h->IN u u.heap.size v bs->(∀x∈bs,x<256)->bs.length<=200->CC 25 #[GX p q g h,v] u (.tuple #[NV (scX p q bs),.int .i64 (chE p q)])
theorem Tj:EnT 15:=fun _ _=>by kernel_rfl
theorem Tx:EnT 13:=fun _ _=>by kernel_rfl
theorem Wd:EnT 9:=fun _ _=>by kernel_rfl
theorem ent_grp_Params:EnT 27:=fun _ _=>by kernel_rfl
theorem works9_core (P Q hh:Int) (w:World) (iP:In P) (i4:In 4) (hP4:4<=P)
 (hP:Hid (∀u,Bw w u->CC 27 #[.int .i64 0] u (.tuple #[GX P Q 4 hh,.int .i64 0])))
 (hE:Hid (∀u,Bw w u->CC 9 #[GX P Q 4 hh,NV 4,A4 0 0 0 0] u (.tuple #[NV 1,.int .i64 0])))
 (hI:Hid (∀u,Bw w u->CC 13 #[GX P Q 4 hh,NV 9] u (.bool true)))
 (hJ:Hid (∀u,Bw w u->CC 13 #[GX P Q 4 hh,NV (P -4)] u (.bool false)))
 (hC:Hid (∀u,Bw w u->CC 15 #[GX P Q 4 hh] u (.int .i64 0))):
 CC 17 #[] w (.bool true):=by
 go_enter Tryz.func17,Tryz.ntmps17
 have HB0:Bw w w:=Below.refl _ _
 have K0_1:=Bk.nil (w.heap.size) w
 go_upto_region 1 with fail
 refine rgP K0_1 HB0 HB0.size [] [(4,1,L0g,some (5,GE (P) (Q) (4) (hh)))] [(0,8,.tuple #[GX (P) (Q) (4) (hh),.int .i64 0]),(1,7,.tuple #[GX (P) (Q) (4) (hh),.int .i64 0]),(2,9,GX (P) (Q) (4) (hh)),(3,10,.int .i64 0),(6,2,.int .i64 0)] [(5,4)] [] [] ?_ ?_
 ·exact oc (g_cb ent_grp_Params (fun uZ bZ=>hP.out uZ bZ))<|oc g_mv<|oc g_ex<|oc g_ex<|oc (g_al 0 Xg)<|oc (g_sn 0 Z0)<|oc g_as on
 intro u1 b1_4 HB1 sz1 K1
 simp only[sQ] at K1⊢
 clear HB0
 go_upto_region 2 with fail
 refine rgD K1 HB1 HB1.size [] [(7,3,L0s,some (8,LN 1))] [(0,12,GX (P) (Q) (4) (hh)),(1,13,NV 4),(2,14,A4 (0) (0) (0) (0)),(3,15,.tuple #[NV 1,.int .i64 0]),(4,11,.tuple #[NV 1,.int .i64 0]),(5,16,NV 1),(6,17,.int .i64 0),(9,4,.int .i64 0)] [(8,7)] [] [] ?_ ?_
 ·exact oc (g_ld 0 Tryz.underlying26 Z0)<|oc (g_cl Zt (fun uZ=>Uj 4 uZ (by omega) (by omega)))<|oc (g_bd zN)<|oc (g_cb Wd (fun uZ bZ=>hE.out uZ bZ))<|oc g_mv<|oc g_ex<|oc g_ex<|oc (g_al 0 aN)<|oc (g_sn 0 iN)<|oc g_as on
 intro u2 b2_7 HB2 sz2 K2
 simp only[sQ] at K2⊢
 clear K1 HB1
 go_upto_region 3 with fail
 refine rgD K2 HB2 HB2.size [] [(7,5,L0s,some (8,LN (P -4)))] [(0,19,.pointer (some ⟨b1_4,0,none⟩)),(1,20,NV P),(2,21,NV 4),(3,22,.tuple #[NV (P -4),.bool false]),(4,18,.tuple #[NV (P -4),.bool false]),(5,23,NV (P -4)),(6,24,.bool false),(9,6,.bool false)] [(8,7)] [] [] ?_ ?_
 ·exact oc (g_fd (fun uZ=>fdG0 _ uZ))<|oc (g_lo 0 0 uN iN)<|oc (g_cl Zt (fun uZ=>Uj 4 uZ (by omega) (by omega)))<|oc (g_cl Yq (fun uZ=>nrSub_ge P 4 uZ iP i4 hP4))<|oc g_mv<|oc g_ex<|oc g_ex<|oc (g_al 0 aN)<|oc (g_sn 0 iN)<|oc g_as on
 intro u3 b3_7 HB3 sz3 K3
 simp only[sQ] at K3⊢
 clear K2 HB2
 go_upto_region 4 with fail
 refine rgD K3 HB3 HB3.size [] [] [(0,25,.int .i64 0),(1,26,.bool true),(2,27,.bool true),(3,28,.int .i64 0),(4,29,.bool true),(5,30,.bool true),(6,31,.bool true),(7,32,NV 1),(8,33,NV 1),(9,34,.bool true),(10,35,.bool true),(11,36,.bool true),(12,37,GX (P) (Q) (4) (hh)),(13,38,NV 9),(14,39,.bool true),(15,40,.bool true),(16,41,.bool true),(17,42,GX (P) (Q) (4) (hh)),(18,43,NV (P -4)),(19,44,.bool false),(20,45,.bool true),(21,46,.bool true),(22,47,.bool true),(23,48,GX (P) (Q) (4) (hh)),(24,49,.int .i64 0),(25,50,.bool true),(26,51,.bool true),(27,0,.bool true)] [] [] [false,false,false] ?_ ?_
 ·exact oc g_mv<|oc (g_bn (fun uZ=>Wa _ _ _ 0 0 _ uZ rfl))<|oc g_mv<|oc g_mv<|oc (g_bn (fun uZ=>Wa _ _ _ 0 0 _ uZ rfl))<|oc g_pk<|oc g_mv<|oc (g_ld 1 uN iN)<|oc (g_cl Zt (fun uZ=>Uj 1 uZ (by omega) (by omega)))<|oc (g_bn (fun uZ=>Xr _ _ (1) uZ))<|oc g_pk<|oc g_mv<|oc (g_ld 0 Tryz.underlying26 Z0)<|oc (g_cl Zt (fun uZ=>Uj 9 uZ (by omega) (by omega)))<|oc (g_cb Tx (fun uZ bZ=>hI.out uZ bZ))<|oc g_pk<|oc g_mv<|oc (g_ld 0 Tryz.underlying26 Z0)<|oc (g_ld 2 uN iN)<|oc (g_cb Tx (fun uZ bZ=>hJ.out uZ bZ))<|oc (g_un (fun uZ=>rfl))<|oc g_pk<|oc g_mv<|oc (g_ld 0 Tryz.underlying26 Z0)<|oc (g_cb Tj (fun uZ bZ=>hC.out uZ bZ))<|oc (g_bn (fun uZ=>Wa _ _ _ 0 0 _ uZ rfl))<|oc g_pk<|oc g_as on
 intro u4 HB4 sz4 K4
 simp only[sQ] at K4⊢
 clear K3 HB3
 go_wp2
 refine bodyPost_ret (v:= .bool true) (by simp[results,Tryz.results17,go_sem,]) rfl ⟨rfl,HB4⟩
theorem pr0:Pr P0.toNat:=(cfB_pr chain0_in chain0_ok).2
theorem Yb:In P0:=⟨by decide,by decide⟩
theorem Xh:In Q0:=⟨by decide,by decide⟩
theorem T9:In 4:=⟨by decide,by decide⟩
theorem In_n9:In 9:=⟨by decide,by decide⟩
theorem In_lt {p x:Int} (hp:In p) (h0:0<=x) (h1:x<=p):In x:=⟨h0,Int.lt_of_le_of_lt h1 hp.2⟩
theorem Tq {p q x:Int} (hp:In p) (h:Mb p q x):In x:=In_lt hp (by have:=h.1;omega) (by have:=h.2.1;omega)
theorem mb_h0:Mb P0 Q0 (meN P0 [104]):=meN_Mb pr0 X0 _
theorem works9 (w:World) (hP:GPa0 w) (hE:GExp w) (hI:GIs w) (hC:GChk w):CC 17 #[] w (.bool true):=by
 have iH:=Tq Yb mb_h0
 refine works9_core P0 Q0 (meN P0 [104]) w Yb T9 (by decide) (fun u hB=>?_) (fun u hB=>?_) (fun u hB=>?_) (fun u hB=>?_) (fun u hB=>?_)
 ·exact hP u hB
 ·have:=hE u P0 Q0 4 (meN P0 [104]) 4 0 hB Yb Xh T9 iH T9 ⟨by decide,by decide⟩
  rw[NV_0] at this
  have e1:isB P0 Q0 4=true:=Vz X0 (is_4 pr0)
  have e2:exPE P0 Q0 4=0:=if_pos e1
  have e3:exPX P0 Q0 4 0=1:=(if_pos e1).trans (by decide)
  rw[e2,e3] at this
  exact this
 ·have:=hI u P0 Q0 4 (meN P0 [104]) 9 hB Yb Xh T9 iH In_n9
  rw[Vz X0 (is_9 pr0)] at this
  exact this
 ·have:=hI u P0 Q0 4 (meN P0 [104]) (P0 -4) hB Yb Xh T9 iH ⟨by decide,by decide⟩
  rw[is_no pr0] at this
  exact this
 ·have:=hC u P0 Q0 4 (meN P0 [104]) hB Yb Xh T9 iH
  have e2:chE P0 Q0=0:=if_pos X0
  rw[e2] at this
  exact this
theorem Zs:EnT 17:=fun _ _=>by kernel_rfl
theorem GPa0.up {w u:World} (h:GPa0 w) (hB:Bw w u):GPa0 u:=fun u2 hB2=>h u2 (Zz hB hB2)
theorem GExp.up {w u:World} (h:GExp w) (hB:Bw w u):GExp u:=fun u2 p q g h' x e hB2=>h u2 p q g h' x e (Zz hB hB2)
theorem GIs.up {w u:World} (h:GIs w) (hB:Bw w u):GIs u:=fun u2 p q g h' x hB2=>h u2 p q g h' x (Zz hB hB2)
theorem GChk.up {w u:World} (h:GChk w) (hB:Bw w u):GChk u:=fun u2 p q g h' hB2=>h u2 p q g h' (Zz hB hB2)
end
end Go.Proofs.YtknpepgonhdbgaaGreatDoor
