import Derived.Test.YtknpepgonhdbgaaGreatDoorAO9
import Derived.Test.YtknpepgonhdbgaaGreatDoorTie
import Derived.Test.YtknpepgonhdbgaaGreatDoorCards
import Derived.LaidMore
import Derived.SevenTiedAt
namespace Go.Proofs.YtknpepgonhdbgaaGreatDoor
set_option linter.unusedVariables false
set_option linter.unusedSimpArgs false
set_option maxRecDepth 100000
set_option maxHeartbeats 4000000
section
theorem sq_Mb{p q x:Int}(hp:Pr p.toNat)(hg:gOk p q)(h:x%p≠0):Mb p q (x*x%p):=by
 have h7:=hg.2
 have h2:=hg.1
 refine Mb.of hg ?_
 have ha0:=Int.emod_nonneg x (show p≠0 by omega)
 have ha1:=Int.emod_lt_of_pos x (show 0<p by omega)
 have e0:(x*x)^q.toNat%p=(x%p)^(p.toNat -1)%p:=by
  rw[show p.toNat -1=2*q.toNat by omega,Int.pow_mul,<-Vi (x*x),<-Vi ((x%p)^2),Int.pow_succ,Int.pow_succ,Int.pow_zero,Int.one_mul,<-Int.mul_emod]
 rw[e0]
 obtain⟨a,ea⟩: ∃a:Nat,x%p=(a:Int):=⟨(x%p).toNat,by omega⟩
 rw[ea] at h ha1⊢
 have hb: ¬p.toNat∣a:=fun hd=>by have:=Nat.le_of_dvd (by omega) hd;omega
 have hf:=hp.fermat hb
 have hf2:((a^(p.toNat -1)%p.toNat:Nat):Int)=1:=by rw[hf];rfl
 rw[Int.natCast_emod,Int.natCast_pow,Int.toNat_of_nonneg (by omega)] at hf2
 exact hf2
theorem one_Mb{p q:Int}(hg:gOk p q):Mb p q 1:=by
 have h7:=hg.2
 exact⟨by omega,by omega,by rw[Int.one_pow];exact one_mod (by omega)⟩
theorem meF_is{f:Nat->Int}: ∀(k s:Nat),meF f s k=1\/ ∃i,meF f s k=f i/\1<f i
 | 0,s=>.inl rfl
 | k+1,s=>by
  rw[meF]
  by_cases h:1<f s
  ·rw[if_pos h];exact .inr ⟨s,rfl,h⟩
  ·rw[if_neg h];exact meF_is k (s+1)
theorem meN_Mb{p q:Int}(hp:Pr p.toNat)(hg:gOk p q)(bs:List Nat):Mb p q (meN p bs):=by
 unfold meN
 rcases meF_is (f:=sqM p bs) 64 0 with h | ⟨i,h,h1⟩
 ·rw[h];exact one_Mb hg
 ·rw[h]
  unfold sqM at h1⊢
  refine sq_Mb hp hg fun e=>?_
  rw[Int.mul_emod,e,Int.mul_zero,Int.zero_emod] at h1
  omega
theorem Ub{p q x:Int}(hg:gOk p q)(h:Mb p q x):isB p q x=true:=decide_eq_true ⟨hg,h⟩
theorem ml_two{p q x y:Int}(hg:gOk p q)(hx:Mb p q x)(hy:Mb p q y):mlE p q [x,y]=0/\mlX p q [x,y]=x*y%p:=by
 have hb:mlB p q [x,y]=true:=by
  unfold mlB
  rw[decide_eq_true hg]
  simp[Ub hg hx,Ub hg hy]
 unfold mlE mlX
 rw[hb]
 refine⟨rfl,?_⟩
 have h7:=hg.2
 show gat (fun a b=>(a*b)%p) (1%p) [x,y] 2=_
 rw[gat,gat,gat]
 simp only[List.getD_cons_zero,List.getD_cons_succ]
 rw[one_mod (by omega),Int.one_mul,Int.mul_emod,Int.emod_emod,<-Int.mul_emod]
theorem inv_one{p q x:Int}(hg:gOk p q)(hx:Mb p q x):x*invN p q x%p=1:=by
 have h3:=hg.q3
 unfold invN
 rw[Int.mul_emod,Int.emod_emod,<-Int.mul_emod,Int.mul_comm,<-Int.pow_succ,show (q.toNat -1).succ=q.toNat by omega];exact hx.2.2
theorem inv_Mb{p q x:Int}(hg:gOk p q)(hx:Mb p q x):Mb p q (invN p q x):=hx.pow hg _
abbrev P0:Int:=1162079267
abbrev Q0:Int:=581039633
theorem Xf:gOk P0 Q0:=⟨by decide,by decide⟩
theorem is_4(hp:Pr P0.toNat):Mb P0 Q0 4:=sq_Mb (x:=2) hp Xf (by decide)
theorem is_9(hp:Pr P0.toNat):Mb P0 Q0 9:=sq_Mb (x:=3) hp Xf (by decide)
theorem is_no(hp:Pr P0.toNat):isB P0 Q0 (P0 -4)=false:=by
 have:=gn_neg (p:=P0) (q:=Q0) (a:=2) hp (by decide) (by decide) (by decide) (by decide) (by decide)
 unfold gnB at this
 have hn:=of_decide_eq_false this
 exact decide_eq_false fun h=>hn ⟨by decide,by decide,h.2.2.2⟩
end
section
open Go.RowKit
def P104(u:World)(v:Value):Prop:=IN u u.heap.size v [104]
theorem P104.stab{u u2:World}{x:Value}(hB:Bw u u2)(h:P104 u x):P104 u2 x:=(IN.below h hB).mono hB.size
theorem bdG3(p q g:Int)(w:World):(Instr.build 26 [(0,NV p),(1,NV q),(2,NV g)].toArray).run Tryz.prog w= .ok (GX p q g 0) w:=by kernel_rfl
theorem W7:EnT 24:=fun _ _=>by kernel_rfl
theorem bs104(w:World):(Instr.buildSlice 36 1 ([0].zip [.int .u8 104]).toArray).run Tryz.prog w= .ok (.slice (some ⟨w.heap.size,0,none⟩) 1 1) (w.alloc (.cells [.int .u8 104].toArray 5)):=by kernel_rfl
theorem in104(u:World):P104 (u.alloc (.cells [.int .u8 104].toArray 5)) (.slice (some ⟨u.heap.size,0,none⟩) 1 1):=
 ⟨_,1,u.heap.size,0,rfl,by simp,.inr rfl,by simp,fun j hj=>by
  have e:j=0:=by simp at hj;omega
  subst e
  exact(CV.new u [.int .u8 104] 5 0 _ rfl).1⟩
theorem xParams_core(k P Q a hh:Int)(n:Nat)(cs:List (Int×Int×Int))(w:World)(hn:Hid (n=cs.length))(h0:0<n)(h20:n<=20)(hc:cat cs (n -1)=(P,Q,a))
 (hX:Hid (∀u,Calls Tryz.prog 29 #[.int .i64 k] u fun e u'=> ∃v,e= .returned v/\PT 0 u.heap.size n (flC cs) u' v/\Bw u u'))
 (hM:Hid (∀u v,IN u u.heap.size v [104]->CC 24 #[GX P Q 4 0,v] u (.tuple #[NV hh,.int .i64 0]))):
 CC 28 #[.int .i64 k] w (.tuple #[GX P Q 4 hh,.int .i64 0]):=by
 go_enter Tryz.func28,Tryz.ntmps28
 go_upto_region 1 with fail
 generalize hC:(w.alloc (.cells (L0g:List Value).toArray 26))=v0 at *
 have HB0:Bw w v0:=by rw[<-hC];exact Z0 (Z6 w) _
 have K0:Bk w.heap.size v0 [(true,w.heap.size,L0g)]:=by rw[<-hC];exact(Bk.nil _ w).ad
 clear hC
 refine rgF K0 HB0 HB0.size [] [] [(0,9,.int .i64 k),(4,12,.int .i64 0),(6,5,.int .i64 0)] [] [] [⟨1,10,none,PT 0 v0.heap.size n (flC cs)⟩,⟨2,8,none,PT 0 v0.heap.size n (flC cs)⟩,⟨3,11,some 5,PS v0.heap.size n (flC cs)⟩,⟨5,4,none,PS v0.heap.size n (flC cs)⟩] [] (.cons (fun _ _ _ h1 h2=>h2.stab h1)<| .cons (fun _ _ _ h1 h2=>h2.stab h1)<| .cons (fun _ _ _ h1 h2=>h2.stab h1)<| .cons (fun _ _ _ h1 h2=>h2.stab h1)<|Stab.nil) ?_ ?_
 ·exact oc g_mv<|oc (g_cE 0 (PT 0 v0.heap.size n (flC cs)) Wd (fun u hB hs=>(hX.out u).mono fun e u2 ⟨v,e1,h1,h2⟩=>⟨v,e1,h1.mono hs,h2⟩))<|oc (g_mE 0 1 (PT 0 v0.heap.size n (flC cs)))<|oc (g_xE 1 2 (PT 0 v0.heap.size n (flC cs)) (PS v0.heap.size n (flC cs)) PT.fst)<|oc (g_xV 1 (PT 0 v0.heap.size n (flC cs)) PT.snd)<|oc (g_sE 2 3 (PS v0.heap.size n (flC cs)))<|oc g_as on
 intro u1 v1_1 hv1_1 v1_2 hv1_2 v1_3 hv1_3 v1_5 hv1_5 HB1 sz1 K1
 simp only[sQ] at K1⊢
 clear HB0
 obtain⟨bl,cl,rfl,l1,l2,l3,l4⟩:=hv1_5 rfl
 have K1xl:=Bk.more3 K0 K1 l1 l2 l4 (by intro x hx;first | (simp at hx;done) | (simp at hx⊢;omega))
 simp only[aK] at K1xl
 clear K1
 go_upto_region 2 with fail
 refine rgP K1xl HB1 HB1.size [] [] [(0,13,.int .i64 0),(1,14,.bool false)] [] [] [] ?_ ?_
 ·exact oc g_mv<|oc (g_bn (fun uZ=>neq_i _ _ _ 0 0 _ uZ rfl)) on
 intro u2 HB2 sz2 K2
 simp only[sQ] at K2⊢
 clear HB1
 have hz3:(n:Int) -1=((n -1:Nat):Int):=by omega
 have hR:=flC_get cs (n -1)
 rw[hc] at hR
 have hR:Hid _:=hR
 go_upto_region 4 with fail
 refine rgP K2 HB2 HB2.size [] [(6,6,L0c,some (7,CE P Q a))] [(0,17,.slice (some ⟨bl,0,none⟩) n cl),(1,18,.slice (some ⟨bl,0,none⟩) n cl),(2,19,.int .i64 (n:Int)),(3,20,.int .i64 ((n -1:Nat):Int)),(4,21,.pointer (some ⟨bl,0+12*(n -1),none⟩)),(5,22,CX P Q a)] [(7,6)] [] [] ?_ ?_
 ·exact oc g_mv<|oc g_mv<|oc (g_ln Tryz.underlying44)<|oc (g_bn (fun uZ=>X9 _ _ (n:Int) 1 ((n -1:Nat):Int) uZ hz3 (by omega) (by omega)))<|oc (g_ix (fun uZ=>ixC bl 0 n cl (n -1) (by omega) uZ))<|oc (g_lR 1 (0+12*(n -1)) (cs:=CE P Q a) ((fun c v hv=>by rw[Nat.zero_add];exact hR.out c v (by have:=hn.out;omega) hv)) Tryz.underlying82 Uc)<|oc (g_al 0 al_api_Cert)<|oc (g_sn 0 Uc) on
 intro u3 b3_6 HB3 sz3 K3
 simp only[sQ] at K3⊢
 clear K2 HB2
 go_upto_region 5 with fail
 refine rgD K3 HB3 HB3.size [] [(6,7,L0g,some (7,GE P Q (4) (0)))] [(0,23,.pointer (some ⟨b3_6,0,none⟩)),(1,24,NV P),(2,25,.pointer (some ⟨b3_6,4,none⟩)),(3,26,NV Q),(4,27,NV 4),(5,28,GX P Q (4) (0))] [(7,6)] [] [] ?_ ?_
 ·exact oc (g_fd (fun uZ=>fdC0 _ uZ))<|oc (g_lo 2 0 uN iN)<|oc (g_fd (fun uZ=>fdC1 _ uZ))<|oc (g_lo 2 4 uN iN)<|oc (g_cl Zm (fun uZ=>Vn 4 uZ (by omega) (by omega)))<|oc (g_bd (fun uZ=>bdG3 P Q 4 uZ))<|oc (g_al 0 W0)<|oc (g_sn 0 Z1) on
 intro u4 b4_6 HB4 sz4 K4
 simp only[sQ] at K4⊢
 clear K3 HB3
 go_upto_region 6 with fail
 refine rgF K4 HB4 HB4.size [.no,.no,.no,.all 7 (GE P Q (4) hh)] [] [(0,30,GX P Q (4) (0)),(2,32,.tuple #[NV hh,.int .i64 0]),(3,29,.tuple #[NV hh,.int .i64 0]),(4,33,NV hh),(5,34,.int .i64 0),(6,35,.pointer (some ⟨b4_6,12,none⟩))] [(7,0)] [] [⟨1,31,some 2,P104⟩] [] (.cons (fun _ _ _ h1 h2=>h2.stab h1)<|Stab.nil) ?_ ?_
 ·exact oc (g_ld 3 Tryz.underlying26 Z1)<|oc (g_bS 0 P104 [0] [.int .u8 104] bs104 in104)<|oc (g_c2 0 P104 W7 (fun uZ yZ _ hZ=>hM.out uZ yZ hZ))<|oc g_mv<|oc g_ex<|oc g_ex<|oc (g_fd (fun uZ=>fdG3 _ uZ))<|oc (g_sm 3 12 (LN P++LN Q++LN 4) (LN 0) ([]) (post:=LN hh) iN) on
 intro u5 v5_1 hv5_1 HB5 sz5 K5
 simp only[sQ] at K5⊢
 clear K4 HB4
 go_upto_region 7 with fail
 refine rgP K5 HB5 HB5.size [.all 1 (GE P Q (4) hh)] [] [(0,36,GX P Q (4) hh),(2,3,(Go.Value.int Go.IntKind.i64 0))] [] [] [] ?_ ?_
 ·exact oc (g_ld 3 Tryz.underlying26 Z1)<|oc (g_st 0 Z1)<|oc g_as on
 intro u6 HB6 sz6 K6
 simp only[sQ] at K6⊢
 clear K5 HB5
 have c2_0:=((K6.cv 0) 0 _ rfl).1
 have c2_1:=((K6.cv 0) 1 _ rfl).1
 have c2_2:=((K6.cv 0) 2 _ rfl).1
 have c2_3:=((K6.cv 0) 3 _ rfl).1
 have c2_4:=((K6.cv 0) 4 _ rfl).1
 have c2_5:=((K6.cv 0) 5 _ rfl).1
 have c2_6:=((K6.cv 0) 6 _ rfl).1
 have c2_7:=((K6.cv 0) 7 _ rfl).1
 have c2_8:=((K6.cv 0) 8 _ rfl).1
 have c2_9:=((K6.cv 0) 9 _ rfl).1
 have c2_10:=((K6.cv 0) 10 _ rfl).1
 have c2_11:=((K6.cv 0) 11 _ rfl).1
 have c2_12:=((K6.cv 0) 12 _ rfl).1
 have c2_13:=((K6.cv 0) 13 _ rfl).1
 have c2_14:=((K6.cv 0) 14 _ rfl).1
 have c2_15:=((K6.cv 0) 15 _ rfl).1
 go_wp2
 refine bodyPost_ret (v:= .tuple #[GX P Q (4) hh,.int .i64 0]) (by simp[results,Tryz.results28,go_sem,c2_0,c2_1,c2_2,c2_3,c2_4,c2_5,c2_6,c2_7,c2_8,c2_9,c2_10,c2_11,c2_12,c2_13,c2_14,c2_15]) rfl ⟨rfl,HB6⟩
theorem mem104(p q:Int)(hg:gOk p q)(hp:In p)(hq:In q)(u:World)(v:Value)(h:IN u u.heap.size v [104]):
 CC 24 #[GX p q 4 0,v] u (.tuple #[NV (meN p [104]),.int .i64 0]):=by
 have h1:=xMemberG p q 4 0 [104] v u hp hq h (fun x hx=>by simp at hx;omega) (by decide)
 have e1:meX p q [104]=meN p [104]:=if_pos hg
 have e2:chE p q=0:=if_pos hg
 rw[e1,e2] at h1
 exact h1
theorem xParams0(w:World):CC 28 #[.int .i64 0] w (.tuple #[GX P0 Q0 4 (meN P0 [104]),.int .i64 0]):=
 xParams_core 0 P0 Q0 2 (meN P0 [104]) 2 (stp ns0 2) w rfl (by omega) (by omega) rfl (fun u=>xChain0 u) (fun u v h=>mem104 P0 Q0 Xf ⟨by decide,by decide⟩ ⟨by decide,by decide⟩ u v h)
def GChk(w:World):Prop:= ∀u p q g h,Bw w u->In p->In q->In g->In h->CC 15 #[GX p q g h] u (.int .i64 (chE p q))
def GIs(w:World):Prop:= ∀u p q g h x,Bw w u->In p->In q->In g->In h->In x->CC 13 #[GX p q g h,NV x] u (.bool (isB p q x))
def GExp(w:World):Prop:= ∀u p q g h x e,Bw w u->In p->In q->In g->In h->In x->In e->CC 9 #[GX p q g h,NV x,NV e] u (.tuple #[NV (exPX p q x e),.int .i64 (exPE p q x)])
def GInv(w:World):Prop:= ∀u p q g h x,Bw w u->In p->In q->In g->In h->In x->CC 11 #[GX p q g h,NV x] u (.tuple #[NV (inPX p q x),.int .i64 (exPE p q x)])
def GPa0(w:World):Prop:= ∀u,Bw w u->CC 27 #[.int .i64 0] u (.tuple #[GX P0 Q0 4 (meN P0 [104]),.int .i64 0])
def GMem(w:World):Prop:= ∀u p q g h bs v,Bw w u->In p->In q->In g->In h->IN u u.heap.size v bs->(∀x∈bs,x<256)->bs.length<=200->CC 22 #[GX p q g h,v] u (.tuple #[NV (meX p q bs),.int .i64 (chE p q)])
theorem ent_grp_Check:EnT 15:=fun _ _=>by kernel_rfl
theorem ent_grp_Is:EnT 13:=fun _ _=>by kernel_rfl
theorem Wm:EnT 9:=fun _ _=>by kernel_rfl
theorem ent_grp_Inverse:EnT 11:=fun _ _=>by kernel_rfl
theorem ent_grp_Params:EnT 27:=fun _ _=>by kernel_rfl
theorem works9_core(P Q hh:Int)(w:World)(iP:In P)(i4:In 4)(hP4:4<=P)
 (hP:Hid (∀u,Bw w u->CC 27 #[.int .i64 0] u (.tuple #[GX P Q 4 hh,.int .i64 0])))
 (hE:Hid (∀u,Bw w u->CC 9 #[GX P Q 4 hh,NV 4,A4 0 0 0 0] u (.tuple #[NV 1,.int .i64 0])))
 (hI:Hid (∀u,Bw w u->CC 13 #[GX P Q 4 hh,NV 9] u (.bool true)))
 (hJ:Hid (∀u,Bw w u->CC 13 #[GX P Q 4 hh,NV (P -4)] u (.bool false)))
 (hC:Hid (∀u,Bw w u->CC 15 #[GX P Q 4 hh] u (.int .i64 0))):
 CC 17 #[] w (.bool true):=by
 go_enter Tryz.func17,Tryz.ntmps17
 have HB0:Bw w w:=Below.refl _ _
 have K0_1:=Bk.nil (w.heap.size) w
 go_upto_region 1 with fail
 refine rgP K0_1 HB0 HB0.size [] [(4,1,L0g,some (5,GE P Q (4) hh))] [(0,8,.tuple #[GX P Q (4) hh,.int .i64 0]),(1,7,.tuple #[GX P Q (4) hh,.int .i64 0]),(2,9,GX P Q (4) hh),(3,10,.int .i64 0),(6,2,.int .i64 0)] [(5,4)] [] [] ?_ ?_
 ·exact oc (g_cb ent_grp_Params (fun uZ bZ=>hP.out uZ bZ))<|oc g_mv<|oc g_ex<|oc g_ex<|oc (g_al 0 W0)<|oc (g_sn 0 Z1)<|oc g_as on
 intro u1 b1_4 HB1 sz1 K1
 simp only[sQ] at K1⊢
 clear HB0
 go_upto_region 2 with fail
 refine rgD K1 HB1 HB1.size [] [(7,3,L0s,some (8,LN 1))] [(0,12,GX P Q (4) hh),(1,13,NV 4),(2,14,A4 (0) (0) (0) (0)),(3,15,.tuple #[NV 1,.int .i64 0]),(4,11,.tuple #[NV 1,.int .i64 0]),(5,16,NV 1),(6,17,.int .i64 0),(9,4,.int .i64 0)] [(8,7)] [] [] ?_ ?_
 ·exact oc (g_ld 0 Tryz.underlying26 Z1)<|oc (g_cl Zm (fun uZ=>Vn 4 uZ (by omega) (by omega)))<|oc (g_bd zN)<|oc (g_cb Wm (fun uZ bZ=>hE.out uZ bZ))<|oc g_mv<|oc g_ex<|oc g_ex<|oc (g_al 0 aN)<|oc (g_sn 0 iN)<|oc g_as on
 intro u2 b2_7 HB2 sz2 K2
 simp only[sQ] at K2⊢
 clear K1 HB1
 go_upto_region 3 with fail
 refine rgD K2 HB2 HB2.size [] [(7,5,L0s,some (8,LN (P -4)))] [(0,19,.pointer (some ⟨b1_4,0,none⟩)),(1,20,NV P),(2,21,NV 4),(3,22,.tuple #[NV (P -4),.bool false]),(4,18,.tuple #[NV (P -4),.bool false]),(5,23,NV (P -4)),(6,24,.bool false),(9,6,.bool false)] [(8,7)] [] [] ?_ ?_
 ·exact oc (g_fd (fun uZ=>fdG0 _ uZ))<|oc (g_lo 0 0 uN iN)<|oc (g_cl Zm (fun uZ=>Vn 4 uZ (by omega) (by omega)))<|oc (g_cl Wt (fun uZ=>nrSub_ge P 4 uZ iP i4 hP4))<|oc g_mv<|oc g_ex<|oc g_ex<|oc (g_al 0 aN)<|oc (g_sn 0 iN)<|oc g_as on
 intro u3 b3_7 HB3 sz3 K3
 simp only[sQ] at K3⊢
 clear K2 HB2
 go_upto_region 4 with fail
 refine rgD K3 HB3 HB3.size [] [] [(0,25,.int .i64 0),(1,26,.bool true),(2,27,.bool true),(3,28,.int .i64 0),(4,29,.bool true),(5,30,.bool true),(6,31,.bool true),(7,32,NV 1),(8,33,NV 1),(9,34,.bool true),(10,35,.bool true),(11,36,.bool true),(12,37,GX P Q (4) hh),(13,38,NV 9),(14,39,.bool true),(15,40,.bool true),(16,41,.bool true),(17,42,GX P Q (4) hh),(18,43,NV (P -4)),(19,44,.bool false),(20,45,.bool true),(21,46,.bool true),(22,47,.bool true),(23,48,GX P Q (4) hh),(24,49,.int .i64 0),(25,50,.bool true),(26,51,.bool true),(27,0,.bool true)] [] [] [false,false,false] ?_ ?_
 ·exact oc g_mv<|oc (g_bn (fun uZ=>eql_i _ _ _ 0 0 _ uZ rfl))<|oc g_mv<|oc g_mv<|oc (g_bn (fun uZ=>eql_i _ _ _ 0 0 _ uZ rfl))<|oc g_pk<|oc g_mv<|oc (g_ld 1 uN iN)<|oc (g_cl Zm (fun uZ=>Vn 1 uZ (by omega) (by omega)))<|oc (g_bn (fun uZ=>eql_same _ _ (1) uZ))<|oc g_pk<|oc g_mv<|oc (g_ld 0 Tryz.underlying26 Z1)<|oc (g_cl Zm (fun uZ=>Vn 9 uZ (by omega) (by omega)))<|oc (g_cb ent_grp_Is (fun uZ bZ=>hI.out uZ bZ))<|oc g_pk<|oc g_mv<|oc (g_ld 0 Tryz.underlying26 Z1)<|oc (g_ld 2 uN iN)<|oc (g_cb ent_grp_Is (fun uZ bZ=>hJ.out uZ bZ))<|oc (g_un (fun uZ=>rfl))<|oc g_pk<|oc g_mv<|oc (g_ld 0 Tryz.underlying26 Z1)<|oc (g_cb ent_grp_Check (fun uZ bZ=>hC.out uZ bZ))<|oc (g_bn (fun uZ=>eql_i _ _ _ 0 0 _ uZ rfl))<|oc g_pk<|oc g_as on
 intro u4 HB4 sz4 K4
 simp only[sQ] at K4⊢
 clear K3 HB3
 go_wp2
 refine bodyPost_ret (v:= .bool true) (by simp[results,Tryz.results17,go_sem,]) rfl ⟨rfl,HB4⟩
theorem pr0:Pr P0.toNat:=(cfB_pr chain0_in chain0_ok).2
theorem Yt:In P0:=⟨by decide,by decide⟩
theorem Un:In Q0:=⟨by decide,by decide⟩
theorem In_n4:In 4:=⟨by decide,by decide⟩
theorem In_n9:In 9:=⟨by decide,by decide⟩
theorem In_lt{p x:Int}(hp:In p)(h0:0<=x)(h1:x<=p):In x:=⟨h0,Int.lt_of_le_of_lt h1 hp.2⟩
theorem In_Mb{p q x:Int}(hp:In p)(h:Mb p q x):In x:=In_lt hp (by have:=h.1;omega) (by have:=h.2.1;omega)
theorem mb_h0:Mb P0 Q0 (meN P0 [104]):=meN_Mb pr0 Xf _
theorem works9(w:World)(hP:GPa0 w)(hE:GExp w)(hI:GIs w)(hC:GChk w):CC 17 #[] w (.bool true):=by
 have iH:=In_Mb Yt mb_h0
 refine works9_core P0 Q0 (meN P0 [104]) w Yt In_n4 (by decide) (fun u hB=>?_) (fun u hB=>?_) (fun u hB=>?_) (fun u hB=>?_) (fun u hB=>?_)
 ·exact hP u hB
 ·have:=hE u P0 Q0 4 (meN P0 [104]) 4 0 hB Yt Un In_n4 iH In_n4 ⟨by decide,by decide⟩
  rw[NV_0] at this
  have e1:isB P0 Q0 4=true:=Ub Xf (is_4 pr0)
  have e2:exPE P0 Q0 4=0:=if_pos e1
  have e3:exPX P0 Q0 4 0=1:=(if_pos e1).trans (by decide)
  rw[e2,e3] at this
  exact this
 ·have:=hI u P0 Q0 4 (meN P0 [104]) 9 hB Yt Un In_n4 iH In_n9
  rw[Ub Xf (is_9 pr0)] at this
  exact this
 ·have:=hI u P0 Q0 4 (meN P0 [104]) (P0 -4) hB Yt Un In_n4 iH ⟨by decide,by decide⟩
  rw[is_no pr0] at this
  exact this
 ·have:=hC u P0 Q0 4 (meN P0 [104]) hB Yt Un In_n4 iH
  have e2:chE P0 Q0=0:=if_pos Xf
  rw[e2] at this
  exact this
theorem We:EnT 17:=fun _ _=>by kernel_rfl
theorem GPa0.up{w u:World}(h:GPa0 w)(hB:Bw w u):GPa0 u:=fun u2 hB2=>h u2 (Zt hB hB2)
theorem GExp.up{w u:World}(h:GExp w)(hB:Bw w u):GExp u:=fun u2 p q g h' x e hB2=>h u2 p q g h' x e (Zt hB hB2)
theorem GIs.up{w u:World}(h:GIs w)(hB:Bw w u):GIs u:=fun u2 p q g h' x hB2=>h u2 p q g h' x (Zt hB hB2)
theorem GChk.up{w u:World}(h:GChk w)(hB:Bw w u):GChk u:=fun u2 p q g h' hB2=>h u2 p q g h' (Zt hB hB2)
def GMul(w:World):Prop:= ∀u p q g h ns v,Bw w u->In p->In q->In g->In h->NL u v ns->ns.length<=12->(∀k,k<ns.length->In (ns.getD k 0))->CC 18 #[GX p q g h,v] u (.tuple #[NV (mlX p q ns),.int .i64 (mlE p q ns)])
theorem U4:EnT 18:=fun _ _=>by kernel_rfl
theorem Wv:EnT 31:=fun _ _=>by kernel_rfl
theorem W6:EnT 28:=fun _ _=>by kernel_rfl
theorem the_core(P Q hh:Int)(w:World)(hP:Hid (∀u,Bw w u->CC 28 #[.int .i64 0] u (.tuple #[GX P Q 4 hh,.int .i64 0]))):
 CC 31 #[] w (GX P Q 4 hh):=by
 go_enter Tryz.func31,Tryz.ntmps31
 go_upto_region 1 with fail
 generalize hC:(w.alloc (.cells (L0g:List Value).toArray 26))=v0 at *
 have HB0:Bw w v0:=by rw[<-hC];exact Z0 (Z6 w) _
 have K0:Bk w.heap.size v0 [(true,w.heap.size,L0g)]:=by rw[<-hC];exact(Bk.nil _ w).ad
 clear hC
 go_upto_region 1 with fail
 refine rgP K0 HB0 HB0.size [] [(4,1,L0g,some (5,GE P Q (4) hh))] [(0,4,.tuple #[GX P Q (4) hh,.int .i64 0]),(1,3,.tuple #[GX P Q (4) hh,.int .i64 0]),(2,5,GX P Q (4) hh),(3,6,.int .i64 0),(6,2,.int .i64 0)] [(5,4)] [] [] ?_ ?_
 ·exact oc (g_cb W6 (fun uZ bZ=>hP.out uZ bZ))<|oc g_mv<|oc g_ex<|oc g_ex<|oc (g_al 0 W0)<|oc (g_sn 0 Z1)<|oc g_as on
 intro u1 b1_4 HB1 sz1 K1
 simp only[sQ] at K1⊢
 clear K0 HB0
 go_upto_region 2 with fail
 refine rgP K1 HB1 HB1.size [.all 1 (GE P Q (4) hh)] [] [(0,7,GX P Q (4) hh)] [] [] [true,false] ?_ ?_
 ·exact oc (g_ld 1 Tryz.underlying26 Z1)<|oc (g_st 0 Z1) on
 intro u2 HB2 sz2 K2
 simp only[sQ] at K2⊢
 clear K1 HB1
 have c0_0:=((K2.cv 0) 0 _ rfl).1
 have c0_1:=((K2.cv 0) 1 _ rfl).1
 have c0_2:=((K2.cv 0) 2 _ rfl).1
 have c0_3:=((K2.cv 0) 3 _ rfl).1
 have c0_4:=((K2.cv 0) 4 _ rfl).1
 have c0_5:=((K2.cv 0) 5 _ rfl).1
 have c0_6:=((K2.cv 0) 6 _ rfl).1
 have c0_7:=((K2.cv 0) 7 _ rfl).1
 have c0_8:=((K2.cv 0) 8 _ rfl).1
 have c0_9:=((K2.cv 0) 9 _ rfl).1
 have c0_10:=((K2.cv 0) 10 _ rfl).1
 have c0_11:=((K2.cv 0) 11 _ rfl).1
 have c0_12:=((K2.cv 0) 12 _ rfl).1
 have c0_13:=((K2.cv 0) 13 _ rfl).1
 have c0_14:=((K2.cv 0) 14 _ rfl).1
 have c0_15:=((K2.cv 0) 15 _ rfl).1
 go_wp2
 refine bodyPost_ret (v:=GX P Q (4) hh) (by simp[results,Tryz.results31,go_sem,c0_0,c0_1,c0_2,c0_3,c0_4,c0_5,c0_6,c0_7,c0_8,c0_9,c0_10,c0_11,c0_12,c0_13,c0_14,c0_15]) rfl ⟨rfl,HB2⟩
theorem In_two{a b:Int}(ha:In a)(hb:In b): ∀k,k<[a,b].length->In ([a,b].getD k 0):=fun k hk=>by
 have:k=0\/k=1:=by simp at hk;omega
 rcases this with rfl | rfl
 ·exact ha
 ·exact hb
theorem xThe(w:World):CC 31 #[] w (GX P0 Q0 4 (meN P0 [104])):=
 the_core P0 Q0 (meN P0 [104]) w (fun u _=>xParams0 u)
theorem slHG(sl:Option Addr)(n cap k:Nat)(h:k<=n)(hc:n<=cap)(hn:sl=none->cap=0)(w:World):(Instr.sliceAt 36 (.slice sl n cap) none (some (.int .i64 k)) none).run Tryz.prog w= .ok (.slice sl k cap) w:=by
 cases sl with
 | none=>
  have e0:=hn rfl
  have e1:n=0:=by omega
  have e2:k=0:=by omega
  subst e0 e1 e2
  show (Instr.sliceAt 36 (.slice none 0 0) none (some (.int .i64 0)) none).run Tryz.prog w=_
  kernel_rfl
 | some a=>
  have h3:k<=cap:=by omega
  simp[Instr.sliceAt,Instr.slice,go_sem,Tryz.underlying36,h3]
theorem bdN1(x:Int)(w:World):(Instr.build 24 [(0,.int .u64 x)].toArray).run Tryz.prog w= .ok (A4 x 0 0 0) w:=by kernel_rfl
theorem shrG(p q:Operand)(x:Int)(w:World)(h0:0<=x)(h1:x<18446744073709551616):(do eqGuard .shr 22 p q (.int .u64 x) (.int .u64 1);binOp .shr 22 (.int .u64 x) (.int .u64 1):Sem Value).run Tryz.prog w= .ok (.int .u64 (x/2)) w:=by
 go_simp
theorem Vy:EnT 22:=fun _ _=>by kernel_rfl
theorem grpCloses_core(P Q hh x y e f pp ua va wa z:Int)(sl1 sl2:Option Addr)(n1 cap1 m1 n2 cap2 m2:Nat)(w:World)(hmin1:min (n1:Int) 100=(m1:Int))(hm1:m1<=n1)(hc1:n1<=cap1)(hsn1:sl1=none->cap1=0)(hmin2:min (n2:Int) 100=(m2:Int))(hm2:m2<=n2)(hc2:n2<=cap2)(hsn2:sl2=none->cap2=0)(e0:0<=e)(e1:e<18446744073709551616)(f0:0<=f)(fb:f<18446744073709551616)
 (hW:Hid (∀u,Bw w u->CC 17 #[] u (.bool true)))
 (hT:Hid (∀u,Bw w u->CC 31 #[] u (GX P Q 4 hh)))
 (hM1:Hid (∀u,Bw w u->CC 22 #[GX P Q 4 hh,(.slice sl1 m1 cap1)] u (.tuple #[NV x,.int .i64 0])))
 (hM2:Hid (∀u,Bw w u->CC 22 #[GX P Q 4 hh,(.slice sl2 m2 cap2)] u (.tuple #[NV y,.int .i64 0])))
 (hP:Hid (∀u v,Bw w u->NL u v [x,y]->CC 18 #[GX P Q 4 hh,v] u (.tuple #[NV pp,.int .i64 0])))
 (hE1:Hid (∀u,Bw w u->CC 9 #[GX P Q 4 hh,NV x,A4 (e/2) 0 0 0] u (.tuple #[NV ua,.int .i64 0])))
 (hE2:Hid (∀u,Bw w u->CC 9 #[GX P Q 4 hh,NV x,A4 (f/2) 0 0 0] u (.tuple #[NV va,.int .i64 0])))
 (hE3:Hid (∀u,Bw w u->CC 9 #[GX P Q 4 hh,NV x,A4 (e/2+f/2) 0 0 0] u (.tuple #[NV wa,.int .i64 0])))
 (hP2:Hid (∀u v,Bw w u->NL u v [ua,va]->CC 18 #[GX P Q 4 hh,v] u (.tuple #[NV wa,.int .i64 0])))
 (hV:Hid (∀u,Bw w u->CC 11 #[GX P Q 4 hh,NV x] u (.tuple #[NV z,.int .i64 0])))
 (hP3:Hid (∀u v,Bw w u->NL u v [x,z]->CC 18 #[GX P Q 4 hh,v] u (.tuple #[NV 1,.int .i64 0])))
 (hI1:Hid (∀u,Bw w u->CC 14 #[GX P Q 4 hh,NV pp] u (.bool true)))
 (hI2:Hid (∀u,Bw w u->CC 14 #[GX P Q 4 hh,NV ua] u (.bool true)))
 (hI3:Hid (∀u,Bw w u->CC 14 #[GX P Q 4 hh,NV z] u (.bool true))):
 CC 6 #[(.slice sl1 n1 cap1),(.slice sl2 n2 cap2),.int .u64 e,.int .u64 f] w (.bool true):=by
 go_enter Tryz.func6,Tryz.ntmps6
 have HB0:Bw w w:=Below.refl _ _
 have K0_1:=Bk.nil (w.heap.size) w
 go_upto_region 1 with fail
 refine rgP K0_1 HB0 HB0.size [] [] [(0,28,.bool true),(1,29,.bool false)] [] [] [] ?_ ?_
 ·exact oc (g_cb We (fun uZ bZ=>hW.out uZ bZ))<|oc (g_un (fun uZ=>rfl)) on
 intro u1 HB1 sz1 K1
 simp only[sQ] at K1⊢
 clear HB0
 go_upto_region 3 with fail
 refine rgP K1 HB1 HB1.size [] [(1,9,L0g,some (2,GE P Q (4) hh))] [(0,30,GX P Q (4) hh)] [(2,1)] [] [] ?_ ?_
 ·exact oc (g_cb Wv (fun uZ bZ=>hT.out uZ bZ))<|oc (g_al 0 W0)<|oc (g_sn 0 Z1) on
 intro u2 b2_1 HB2 sz2 K2
 simp only[sQ] at K2⊢
 clear K1 HB1
 go_upto_region 4 with fail
 refine rgD K2 HB2 HB2.size [] [(10,10,L0s,some (11,LN x))] [(0,32,GX P Q (4) hh),(1,33,(.slice sl1 n1 cap1)),(2,34,(.slice sl1 n1 cap1)),(3,35,.int .i64 (n1:Int)),(4,36,.int .i64 (m1:Int)),(5,37,(.slice sl1 m1 cap1)),(6,38,.tuple #[NV x,.int .i64 0]),(7,31,.tuple #[NV x,.int .i64 0]),(8,39,NV x),(9,40,.int .i64 0),(12,11,.int .i64 0)] [(11,10)] [] [] ?_ ?_
 ·exact oc (g_ld 0 Tryz.underlying26 Z1)<|oc g_mv<|oc g_mv<|oc (g_ln Tryz.underlying36)<|oc (g_mn hmin1)<|oc (g_sl (fun uZ=>slHG sl1 n1 cap1 m1 hm1 hc1 hsn1 uZ))<|oc (g_cb Vy (fun uZ bZ=>hM1.out uZ bZ))<|oc g_mv<|oc g_ex<|oc g_ex<|oc (g_al 0 aN)<|oc (g_sn 0 iN)<|oc g_as on
 intro u3 b3_10 HB3 sz3 K3
 simp only[sQ] at K3⊢
 clear K2 HB2
 go_upto_region 5 with fail
 refine rgD K3 HB3 HB3.size [] [(10,12,L0s,some (11,LN y))] [(0,42,GX P Q (4) hh),(1,43,(.slice sl2 n2 cap2)),(2,44,(.slice sl2 n2 cap2)),(3,45,.int .i64 (n2:Int)),(4,46,.int .i64 (m2:Int)),(5,47,(.slice sl2 m2 cap2)),(6,48,.tuple #[NV y,.int .i64 0]),(7,41,.tuple #[NV y,.int .i64 0]),(8,49,NV y),(9,50,.int .i64 0),(12,13,.int .i64 0)] [(11,10)] [] [] ?_ ?_
 ·exact oc (g_ld 0 Tryz.underlying26 Z1)<|oc g_mv<|oc g_mv<|oc (g_ln Tryz.underlying36)<|oc (g_mn hmin2)<|oc (g_sl (fun uZ=>slHG sl2 n2 cap2 m2 hm2 hc2 hsn2 uZ))<|oc (g_cb Vy (fun uZ bZ=>hM2.out uZ bZ))<|oc g_mv<|oc g_ex<|oc g_ex<|oc (g_al 0 aN)<|oc (g_sn 0 iN)<|oc g_as on
 intro u4 b4_10 HB4 sz4 K4
 simp only[sQ] at K4⊢
 clear K3 HB3
 go_upto_region 6 with fail
 refine rgP K4 HB4 HB4.size [] [] [(0,51,.int .u64 e),(1,52,.int .u64 (e/2)),(2,53,.int .u64 f),(3,54,.int .u64 (f/2)),(4,2,.int .u64 (e/2)),(5,3,.int .u64 (f/2))] [(4,0),(5,2)] [(4,2),(5,3)] [] ?_ ?_
 ·exact oc g_mv<|oc (g_bn (fun uZ=>shrG _ _ e uZ e0 e1))<|oc g_mv<|oc (g_bn (fun uZ=>shrG _ _ f uZ f0 fb))<|oc g_as<|oc g_as on
 intro u5 HB5 sz5 K5
 simp only[sQ] at K5⊢
 clear K4 HB4
 go_upto_region 7 with fail
 refine rgF K5 HB5 HB5.size [] [(8,14,L0s,some (9,LN pp))] [(0,56,GX P Q (4) hh),(1,57,NV x),(2,58,NV y),(4,60,.tuple #[NV pp,.int .i64 0]),(5,55,.tuple #[NV pp,.int .i64 0]),(6,61,NV pp),(7,62,.int .i64 0),(10,15,.int .i64 0)] [(9,8)] [] [⟨3,59,some 4,(N2 x y)⟩] [true,true,false] (.cons (fun _ _ _ h1 h2=>h2.stab h1)<|Stab.nil) ?_ ?_
 ·exact oc (g_ld 0 Tryz.underlying26 Z1)<|oc (g_ld 1 uN iN)<|oc (g_ld 2 uN iN)<|oc (g_bR 0 (N2 x y) [0,1] [NV x,NV y] (flN [x,y]) (bsN2 x y) (fun u hu=>inN2 x y u))<|oc (g_c2 0 (N2 x y) U4 (fun uZ yZ bZ hZ=>hP.out uZ yZ bZ hZ))<|oc g_mv<|oc g_ex<|oc g_ex<|oc (g_al 0 aN)<|oc (g_sn 0 iN)<|oc g_as on
 intro u6 b6_8 v6_3 hv6_3 HB6 sz6 K6
 simp only[sQ] at K6⊢
 clear K5 HB5
 go_upto_region 8 with fail
 refine rgP K6 HB6 HB6.size [] [(8,16,L0s,some (9,LN ua))] [(0,64,GX P Q (4) hh),(1,65,NV x),(2,66,.int .u64 (e/2)),(3,67,A4 (e/2) (0) (0) (0)),(4,68,.tuple #[NV ua,.int .i64 0]),(5,63,.tuple #[NV ua,.int .i64 0]),(6,69,NV ua),(7,70,.int .i64 0),(10,17,.int .i64 0)] [(9,8)] [] [] ?_ ?_
 ·exact oc (g_ld 0 Tryz.underlying26 Z1)<|oc (g_ld 1 uN iN)<|oc g_mv<|oc (g_bd (fun uZ=>bdN1 (e/2) uZ))<|oc (g_cb Wm (fun uZ bZ=>hE1.out uZ bZ))<|oc g_mv<|oc g_ex<|oc g_ex<|oc (g_al 0 aN)<|oc (g_sn 0 iN)<|oc g_as on
 intro u7 b7_8 HB7 sz7 K7
 simp only[sQ] at K7⊢
 clear K6 HB6
 go_upto_region 9 with fail
 refine rgP K7 HB7 HB7.size [] [(8,18,L0s,some (9,LN va))] [(0,72,GX P Q (4) hh),(1,73,NV x),(2,74,.int .u64 (f/2)),(3,75,A4 (f/2) (0) (0) (0)),(4,76,.tuple #[NV va,.int .i64 0]),(5,71,.tuple #[NV va,.int .i64 0]),(6,77,NV va),(7,78,.int .i64 0),(10,19,.int .i64 0)] [(9,8)] [] [] ?_ ?_
 ·exact oc (g_ld 0 Tryz.underlying26 Z1)<|oc (g_ld 1 uN iN)<|oc g_mv<|oc (g_bd (fun uZ=>bdN1 (f/2) uZ))<|oc (g_cb Wm (fun uZ bZ=>hE2.out uZ bZ))<|oc g_mv<|oc g_ex<|oc g_ex<|oc (g_al 0 aN)<|oc (g_sn 0 iN)<|oc g_as on
 intro u8 b8_8 HB8 sz8 K8
 simp only[sQ] at K8⊢
 clear K7 HB7
 go_upto_region 10 with fail
 refine rgP K8 HB8 HB8.size [] [(10,20,L0s,some (11,LN wa))] [(0,80,GX P Q (4) hh),(1,81,NV x),(2,82,.int .u64 (e/2)),(3,83,.int .u64 (f/2)),(4,84,.int .u64 (e/2+f/2)),(5,85,A4 (e/2+f/2) (0) (0) (0)),(6,86,.tuple #[NV wa,.int .i64 0]),(7,79,.tuple #[NV wa,.int .i64 0]),(8,87,NV wa),(9,88,.int .i64 0),(12,21,.int .i64 0)] [(11,10)] [] [] ?_ ?_
 ·exact oc (g_ld 0 Tryz.underlying26 Z1)<|oc (g_ld 1 uN iN)<|oc g_mv<|oc g_mv<|oc (g_bn (fun uZ=>add_u _ _ (e/2) (f/2) (e/2+f/2) uZ (by omega)))<|oc (g_bd (fun uZ=>bdN1 (e/2+f/2) uZ))<|oc (g_cb Wm (fun uZ bZ=>hE3.out uZ bZ))<|oc g_mv<|oc g_ex<|oc g_ex<|oc (g_al 0 aN)<|oc (g_sn 0 iN)<|oc g_as on
 intro u9 b9_10 HB9 sz9 K9
 simp only[sQ] at K9⊢
 clear K8 HB8
 go_upto_region 11 with fail
 refine rgF K9 HB9 HB9.size [] [(8,22,L0s,some (9,LN wa))] [(0,90,GX P Q (4) hh),(1,91,NV ua),(2,92,NV va),(4,94,.tuple #[NV wa,.int .i64 0]),(5,89,.tuple #[NV wa,.int .i64 0]),(6,95,NV wa),(7,96,.int .i64 0),(10,23,.int .i64 0)] [(9,8)] [] [⟨3,93,some 4,(N2 ua va)⟩] [true,true,true,true,false] (.cons (fun _ _ _ h1 h2=>h2.stab h1)<|Stab.nil) ?_ ?_
 ·exact oc (g_ld 0 Tryz.underlying26 Z1)<|oc (g_ld 3 uN iN)<|oc (g_ld 4 uN iN)<|oc (g_bR 0 (N2 ua va) [0,1] [NV ua,NV va] (flN [ua,va]) (bsN2 ua va) (fun u hu=>inN2 ua va u))<|oc (g_c2 0 (N2 ua va) U4 (fun uZ yZ bZ hZ=>hP2.out uZ yZ bZ hZ))<|oc g_mv<|oc g_ex<|oc g_ex<|oc (g_al 0 aN)<|oc (g_sn 0 iN)<|oc g_as on
 intro u10 b10_8 v10_3 hv10_3 HB10 sz10 K10
 simp only[sQ] at K10⊢
 clear K9 HB9
 go_upto_region 12 with fail
 refine rgP K10 HB10 HB10.size [] [(6,24,L0s,some (7,LN z))] [(0,98,GX P Q (4) hh),(1,99,NV x),(2,100,.tuple #[NV z,.int .i64 0]),(3,97,.tuple #[NV z,.int .i64 0]),(4,101,NV z),(5,102,.int .i64 0),(8,25,.int .i64 0)] [(7,6)] [] [] ?_ ?_
 ·exact oc (g_ld 0 Tryz.underlying26 Z1)<|oc (g_ld 1 uN iN)<|oc (g_cb ent_grp_Inverse (fun uZ bZ=>hV.out uZ bZ))<|oc g_mv<|oc g_ex<|oc g_ex<|oc (g_al 0 aN)<|oc (g_sn 0 iN)<|oc g_as on
 intro u11 b11_6 HB11 sz11 K11
 simp only[sQ] at K11⊢
 clear K10 HB10
 go_upto_region 13 with fail
 refine rgF K11 HB11 HB11.size [] [(8,26,L0s,some (9,LN 1))] [(0,104,GX P Q (4) hh),(1,105,NV x),(2,106,NV z),(4,108,.tuple #[NV 1,.int .i64 0]),(5,103,.tuple #[NV 1,.int .i64 0]),(6,109,NV 1),(7,110,.int .i64 0),(10,27,.int .i64 0)] [(9,8)] [] [⟨3,107,some 4,(N2 x z)⟩] [true,false] (.cons (fun _ _ _ h1 h2=>h2.stab h1)<|Stab.nil) ?_ ?_
 ·exact oc (g_ld 0 Tryz.underlying26 Z1)<|oc (g_ld 1 uN iN)<|oc (g_ld 6 uN iN)<|oc (g_bR 0 (N2 x z) [0,1] [NV x,NV z] (flN [x,z]) (bsN2 x z) (fun u hu=>inN2 x z u))<|oc (g_c2 0 (N2 x z) U4 (fun uZ yZ bZ hZ=>hP3.out uZ yZ bZ hZ))<|oc g_mv<|oc g_ex<|oc g_ex<|oc (g_al 0 aN)<|oc (g_sn 0 iN)<|oc g_as on
 intro u12 b12_8 v12_3 hv12_3 HB12 sz12 K12
 simp only[sQ] at K12⊢
 clear K11 HB11
 go_upto_region 14 with fail
 refine rgD K12 HB12 HB12.size [] [] [(0,111,.int .i64 0),(1,112,.bool true),(2,113,.bool true),(3,114,.int .i64 0),(4,115,.bool true),(5,116,.bool true),(6,117,.bool true),(7,118,GX P Q (4) hh),(8,119,NV pp),(9,120,.bool true),(10,121,.bool true),(11,122,.bool true),(12,123,GX P Q (4) hh),(13,124,NV ua),(14,125,.bool true),(15,126,.bool true),(16,127,.bool true),(17,128,GX P Q (4) hh),(18,129,NV z),(19,130,.bool true),(20,131,.bool true),(21,132,.bool true),(22,133,NV wa),(23,134,NV wa),(24,135,.bool true),(25,136,.bool true),(26,137,.bool true),(27,138,NV 1),(28,139,NV 1),(29,140,.bool true),(30,141,.bool true),(31,8,.bool true)] [] [] [false,false,false,false,false,false,false] ?_ ?_
 ·exact oc g_mv<|oc (g_bn (fun uZ=>eql_i _ _ _ 0 0 _ uZ rfl))<|oc g_mv<|oc g_mv<|oc (g_bn (fun uZ=>eql_i _ _ _ 0 0 _ uZ rfl))<|oc g_pk<|oc g_mv<|oc (g_ld 0 Tryz.underlying26 Z1)<|oc (g_ld 1 uN iN)<|oc (g_cb Yj (fun uZ bZ=>hI1.out uZ bZ))<|oc g_pk<|oc g_mv<|oc (g_ld 0 Tryz.underlying26 Z1)<|oc (g_ld 2 uN iN)<|oc (g_cb Yj (fun uZ bZ=>hI2.out uZ bZ))<|oc g_pk<|oc g_mv<|oc (g_ld 0 Tryz.underlying26 Z1)<|oc (g_ld 5 uN iN)<|oc (g_cb Yj (fun uZ bZ=>hI3.out uZ bZ))<|oc g_pk<|oc g_mv<|oc (g_ld 4 uN iN)<|oc (g_ld 3 uN iN)<|oc (g_bn (fun uZ=>eql_same _ _ wa uZ))<|oc g_pk<|oc g_mv<|oc (g_ld 6 uN iN)<|oc (g_cl Zm (fun uZ=>Vn 1 uZ (by omega) (by omega)))<|oc (g_bn (fun uZ=>eql_same _ _ (1) uZ))<|oc g_pk<|oc g_as on
 intro u13 HB13 sz13 K13
 simp only[sQ] at K13⊢
 clear K12 HB12
 go_wp2
 refine bodyPost_ret (v:= .bool true) (by simp[results,Tryz.results6,go_sem,]) rfl ⟨rfl,HB13⟩
theorem GMem0{w:World}(hK:GMem w)(ys:List Nat)(v:Value)(hin: ∀u,Bw w u->IN u u.heap.size v ys)(hb: ∀x∈ys,x<256)(hl:ys.length<=200)(u:World)(hB:Bw w u):
 CC 22 #[GX P0 Q0 4 (meN P0 [104]),v] u (.tuple #[NV (meN P0 ys),.int .i64 0]):=by
 have h:=hK u P0 Q0 4 (meN P0 [104]) ys v hB Yt Un In_n4 (In_Mb Yt mb_h0) (hin u hB) hb hl
 have e1:meX P0 Q0 ys=meN P0 ys:=if_pos Xf
 have e2:chE P0 Q0=0:=if_pos Xf
 rw[e1,e2] at h
 exact h
theorem xIs0(x:Int)(u:World)(hx:Mb P0 Q0 x):CC 14 #[GX P0 Q0 4 (meN P0 [104]),NV x] u (.bool true):=by
 have h:=xIs P0 Q0 4 (meN P0 [104]) x u Yt Un (In_Mb Yt hx)
 rw[Ub Xf hx] at h
 exact h
theorem GMul0{w:World}(hK:GMul w){a b c:Int}(ha:Mb P0 Q0 a)(hb:Mb P0 Q0 b)(hc:a*b%P0=c)(u:World)(v:Value)(hB:Bw w u)(hv:NL u v [a,b]):
 CC 18 #[GX P0 Q0 4 (meN P0 [104]),v] u (.tuple #[NV c,.int .i64 0]):=by
 have h:=hK u P0 Q0 4 (meN P0 [104]) _ v hB Yt Un In_n4 (In_Mb Yt mb_h0) hv (by simp) (In_two (In_Mb Yt ha) (In_Mb Yt hb))
 have hml:=ml_two Xf ha hb
 rw[hml.1,hml.2,hc] at h
 exact h
theorem GExp0{w:World}(hK:GExp w){x:Int}(hx:Mb P0 Q0 x){e:Int}(h0:0<=e)(h1:e<18446744073709551616)(u:World)(hB:Bw w u):
 CC 9 #[GX P0 Q0 4 (meN P0 [104]),NV x,A4 e 0 0 0] u (.tuple #[NV (x^(e%Q0).toNat%P0),.int .i64 0]):=by
 have h:=hK u P0 Q0 4 (meN P0 [104]) x e hB Yt Un In_n4 (In_Mb Yt mb_h0) (In_Mb Yt hx) ⟨h0,Int.lt_trans h1 (by decide)⟩
 have e1:exPE P0 Q0 x=0:=if_pos (Ub Xf hx)
 have e2:exPX P0 Q0 x e=x^(e%Q0).toNat%P0:=if_pos (Ub Xf hx)
 rw[e1,e2,Vo h0 h1] at h
 exact h
theorem GInv0{w:World}(hK:GInv w){x:Int}(hx:Mb P0 Q0 x)(u:World)(hB:Bw w u):
 CC 11 #[GX P0 Q0 4 (meN P0 [104]),NV x] u (.tuple #[NV (invN P0 Q0 x),.int .i64 0]):=by
 have h:=hK u P0 Q0 4 (meN P0 [104]) x hB Yt Un In_n4 (In_Mb Yt mb_h0) (In_Mb Yt hx)
 have e1:exPE P0 Q0 x=0:=if_pos (Ub Xf hx)
 have e2:inPX P0 Q0 x=invN P0 Q0 x:=if_pos (Ub Xf hx)
 rw[e1,e2] at h
 exact h
theorem grpCloses_any(sl1 sl2:Option Addr)(n1 cap1 m1 n2 cap2 m2:Nat)(ys zs:List Nat)(e f:Int)(w:World)(hmin1:min (n1:Int) 100=(m1:Int))(hm1:m1<=n1)(hc1:n1<=cap1)(hsn1:sl1=none->cap1=0)
 (hmin2:min (n2:Int) 100=(m2:Int))(hm2:m2<=n2)(hc2:n2<=cap2)(hsn2:sl2=none->cap2=0)
 (hin1: ∀u,Bw w u->IN u u.heap.size (.slice sl1 m1 cap1) ys)(hb1: ∀x∈ys,x<256)(hl1:ys.length<=200)
 (hin2: ∀u,Bw w u->IN u u.heap.size (.slice sl2 m2 cap2) zs)(hb2: ∀x∈zs,x<256)(hl2:zs.length<=200)
 (e0:0<=e)(e1:e<18446744073709551616)(f0:0<=f)(f1:f<18446744073709551616)
 (hP:GPa0 w)(hE:GExp w)(hI:GIs w)(hC:GChk w)(hK:GMem w)(hM:GMul w)(hV:GInv w):
 CC 6 #[.slice sl1 n1 cap1,.slice sl2 n2 cap2,.int .u64 e,.int .u64 f] w (.bool true):=by
 have hx:=meN_Mb pr0 Xf ys
 have hy:=meN_Mb pr0 Xf zs
 have k1:=GMem0 hK ys _ hin1 hb1 hl1
 have k2:=GMem0 hK zs _ hin2 hb2 hl2
 obtain⟨x,ex⟩: ∃x,meN P0 ys=x:=⟨_,rfl⟩
 obtain⟨y,ey⟩: ∃y,meN P0 zs=y:=⟨_,rfl⟩
 rw[ex] at hx k1
 rw[ey] at hy k2
 exact grpCloses_core P0 Q0 (meN P0 [104]) x y e f (x*y%P0) (x^(e/2%Q0).toNat%P0) (x^(f/2%Q0).toNat%P0) (x^((e/2+f/2)%Q0).toNat%P0) (invN P0 Q0 x) sl1 sl2 n1 cap1 m1 n2 cap2 m2 w hmin1 hm1 hc1 hsn1 hmin2 hm2 hc2 hsn2 e0 e1 f0 f1
  (fun u hB=>works9 u (hP.up hB) (hE.up hB) (hI.up hB) (hC.up hB)) (fun u _=>xThe u) k1 k2 (GMul0 hM hx hy rfl)
  (GExp0 hE hx (by omega) (by omega)) (GExp0 hE hx (by omega) (by omega)) (GExp0 hE hx (by omega) (by omega))
  (GMul0 hM (hx.pow Xf _) (hx.pow Xf _) (hx.sum Xf (e/2) (f/2) (by omega) (by omega))) (GInv0 hV hx) (GMul0 hM hx (inv_Mb Xf hx) (inv_one Xf hx))
  (fun u _=>xIs0 _ u (hx.mul Xf hy)) (fun u _=>xIs0 _ u (hx.pow Xf _)) (fun u _=>xIs0 _ u (inv_Mb Xf hx))
def PGI(ys:List Nat)(u:World)(v:Value):Prop:=IN u u.heap.size v ys
theorem PGI.stab{ys:List Nat}{u u2:World}{x:Value}(hB:Bw u u2)(h:PGI ys u x):PGI ys u2 x:=(IN.below h hB).mono hB.size
theorem gPa0(w:World)(hV:GV w):GPa0 w:=fun u hB=>par_k 0 P0 Q0 _ u (fun u _=>cNumbers 0 1162079267 581039633 [131101,581039633,1162079267] u (by decide) (by decide) rfl rfl (fun u=>cPrimes0 u)) (fun u2 y hB2 hy=>cMemberOf P0 [104] y u2 (hV.below (Zt hB hB2) hV.sz) Yt (by decide) hy (by decide) (by decide))
theorem gChk(w:World):GChk w:=fun u p q g h hB hp hq hg hh=>cCheckG p q g h u hp hq
theorem gIs(w:World)(hG:GT w):GIs w:=fun u p q g h x hB hp hq hg hh hx=>cIsG p q g h x u (hG.below hB) hp hq hx
theorem gExp(w:World)(hG:GT w):GExp w:=fun u p q g h x e hB hp hq hg hh hx he=>cExpG p q g h x e u (hG.below hB) hp hq hx he
theorem gInv(w:World)(hG:GT w):GInv w:=fun u p q g h x hB hp hq hg hh hx=>cInvG p q g h x u (hG.below hB) hp hq hx
theorem gMem(w:World)(hV:GV w):GMem w:=fun u p q g h bs v hB hp hq hg hh hin hb hl=>cMemG p q g h bs v u (hV.below hB hV.sz) hp hq hin hb (by omega)
theorem gMul(w:World)(hG:GT w):GMul w:=fun u p q g h ns v hB hp hq hg hh hy hn hns=>cMulG p q g h ns v u (hG.below hB) (by omega) hp hq hns hy
end
section
open Go.ChangeShapes Go.WideShapes Go.ChangeAt Go.RowKit
theorem own4:ownKnob Tryz.prog.godebug=none:=by kernel_rfl
theorem laid4:laidOutB Tryz.prog=true:=by kernel_rfl
abbrev lstG:List (String×DataW Unit):=[("math/bits.deBruijn32tab",Rows.laid_math_bits_deBruijn32tab),("math/bits.deBruijn64tab",Rows.laid_math_bits_deBruijn64tab),("internal/strconv.uint64pow10",Rows.laid_internal_strconv_uint64pow10),("seneschal/sha.constants",Rows.laid_seneschal_sha_constants),("seneschal/sha.first",Rows.laid_seneschal_sha_first)]
theorem gCon:Tryz.prog.globalNamed "seneschal/sha.constants" =some 7:=by kernel_rfl
theorem gFir:Tryz.prog.globalNamed "seneschal/sha.first" =some 3:=by kernel_rfl
theorem tCon:(Tryz.prog.globals[7]?).map (·.type)=some 197:=by kernel_rfl
theorem tFir:(Tryz.prog.globals[3]?).map (·.type)=some 183:=by kernel_rfl
theorem tPow:(Tryz.prog.globals[0]?).map (·.type)=some 179:=by kernel_rfl
theorem powIs:(Rows.laid_internal_strconv_uint64pow10:DataW Unit)=Lib.tabData .u64 Lib.pow10Tab:=by kernel_rfl
def lits{H:Type}(ks:List Nat):DataW H:= .agg (ks.map fun(k:Nat)=>.lit (.int .u32 (k:Int)))
theorem con_is{H:Type}:(Rows.laid_seneschal_sha_constants:DataW H)=lits kcs:=by kernel_rfl
theorem fir_is{H:Type}:(Rows.laid_seneschal_sha_first:DataW H)=lits fst8:=by kernel_rfl
theorem cells32:Tryz.prog.cellsOf 180=1:=by kernel_rfl
theorem arr_cells{H:Type}{enc:TypeId×Value->H}{W:World}{base fuel:Nat}{sp:Nat->Bool}{held:Bool}{t:TypeId}{n:Nat}(ht:Tryz.prog.underlying t=some (.array n 180)){cs:List Value}{ks:List Nat}{pl:List MemPlace}(h:DataW.trod enc Tryz.prog W base sp held fuel t cs=some (lits ks,pl))(hk:ks.length=n): ∀i,i<n->cs[i]?=some (.int .u32 ((ks.getD i 0:Nat):Int)):=fun i hi=>by
 obtain⟨xs,m,rfl,hx,hlen,hn,hel⟩:=DataW.trod_array ht h
 simp only[Prod.mk.injEq,lits,DataW.agg.injEq] at hx
 have h1:=hel i hi
 rw[cells32,Nat.mul_one,List.getElem?_eq_getElem (by omega)] at h1
 obtain⟨k,e1,e2,_⟩:=DataW.trod_int Tryz.underlying180 h1
 have e3:(xs.map (·.1))[i]?=some (.lit (.int .u32 k)):=by
  rw[List.getElem?_map,List.getElem?_eq_getElem (by omega)]
  simp[e2]
 rw[<-hx.1,List.getElem?_map,List.getElem?_eq_getElem (by omega)] at e3
 simp at e3
 have e4:(cs.drop i)[0]?=some (.int .u32 k):=by
  have:((cs.drop i).take 1)[0]?=some (.int .u32 k):=by rw[e1];rfl
  rwa [List.getElem?_take_of_lt (by omega)] at this
 rw[List.getElem?_drop,Nat.add_zero] at e4
 rw[e4,List.getD_eq_getElem?_getD,List.getElem?_eq_getElem (by omega),<-e3]
 rfl
structure GG(w:World):Prop where
 v:GV w
 t:GT w
 sz:0<w.heap.size
theorem of_laidG{W:World}(h:laidMetH Tryz.prog lstG W):GG W:=by
 rw[MakeChecks.laidMetH_plain _ _ _ (by kernel_rfl)] at h
 obtain⟨ps,⟨g0,t0,cs0,f0,p0,q0,hg0,ht0,hv0,hd0,⟨g1,t1,cs1,f1,p1,q1,hg1,ht1,hv1,hd1,⟨g2,t2,cs2,f2,p2,q2,hg2,ht2,hv2,hd2,⟨g3,t3,cs3,f3,p3,q3,hg3,ht3,hv3,hd3,⟨g4,t4,cs4,f4,p4,q4,hg4,ht4,hv4,hd4,_,_⟩,_⟩,_⟩,_⟩,_⟩,_,_⟩:=h
 obtain rfl:=Option.some.inj (gPow.symm.trans hg2)
 obtain rfl:=Option.some.inj (tPow.symm.trans ht2)
 obtain rfl:=Option.some.inj (gCon.symm.trans hg3)
 obtain rfl:=Option.some.inj (gFir.symm.trans hg4)
 obtain rfl:=Option.some.inj (tCon.symm.trans ht3)
 obtain rfl:=Option.some.inj (tFir.symm.trans ht4)
 rw[powIs] at hd2
 rw[con_is] at hd3
 rw[fir_is] at hd4
 have htab:Lib.TabIs Tryz.prog W "internal/strconv.uint64pow10" .u64 Lib.pow10Tab:=by
  unfold Lib.TabIs
  rw[hv2,<-Lib.cells_of_tab Tryz.underlying179 Tryz.underlying22 (by kernel_rfl) (by kernel_rfl) hd2]
 have hc2:=htab.cell gPow 0 (by rw[Lib.pow10Tab_length];omega)
 have k0:=arr_cells Tryz.underlying197 hd3 rfl
 have k1:=arr_cells Tryz.underlying183 hd4 rfl
 have c0: ∀t,t<64->W.cell? ⟨7,t,none⟩=some (.int .u32 ((kcs.getD t 0:Nat):Int)):=fun t ht=>by
  rw[World.var?_cell hg3 hv3 t,<-Array.getElem?_toList];exact k0 t ht
 have c1: ∀t,t<8->W.cell? ⟨3,t,none⟩=some (.int .u32 ((fst8.getD t 0:Nat):Int)):=fun t ht=>by
  rw[World.var?_cell hg4 hv4 t,<-Array.getElem?_toList];exact k1 t ht
 have s0:7<W.heap.size:=World.block_lt_of_cell? W _ (c0 0 (by decide))
 have s1:3<W.heap.size:=World.block_lt_of_cell? W _ (c1 0 (by decide))
 exact⟨⟨by omega,c0,c1⟩,⟨World.block_lt_of_cell? W _ hc2,htab⟩,by omega⟩
theorem doorG(os:Go.Os)(args:Array Value):laidMetH Tryz.prog lstG ((World.doorLaid Tryz.prog 400 os).forCall (fun _ _=>0) ⟨#[],args,[]⟩).memory:=
 laidMetH_of_parts3 (fuel:=8) (laidMet_of_run' 8 (by kernel_rfl) (by kernel_rfl)) (by kernel_rfl) (by kernel_rfl)
theorem cells8:Tryz.prog.cellsOf 5=1:=by kernel_rfl
theorem open_by{H:Type}{enc:TypeId×Value->H}{W:World}{base:Nat}{v:Value}{x:DataW H}{p:List MemPlace}(h1:0<W.heap.size)(hv:Value.okWide Tryz.prog W .any base 36 v)(h:DataW.Trod enc Tryz.prog W 0 (fun _=>true) true 36 v x p):
 ∃sl cap gb go,∃xs:List Nat,v= .slice sl xs.length cap/\xs.length<=cap/\(sl=none->cap=0)/\(xs.length=0\/sl=some ⟨gb,go,none⟩)/\gb<W.heap.size/\SB W gb go xs/\ ∀x∈xs,x<256:=by
 obtain⟨a0,len,cap,rfl⟩:=okWide_slice Tryz.underlying36 hv
 obtain⟨fuel,hf⟩:=h
 rcases Go.Deep.open_slice1 Tryz.underlying36 cells8 hf with⟨hcs,hx⟩ | ⟨ad,len',cap',m,n,V,D,Pl,hcs,hbs,hl,hm,hmm,hx,hall⟩
 ·simp[Value.cells] at hcs
  obtain⟨rfl,rfl,rfl⟩:=hcs
  exact⟨_,_,0,0,[],rfl,Nat.le_refl _,fun _=>rfl,.inl rfl,h1,fun j hj=>by simp at hj,fun x hx=>by simp at hx⟩
 ·simp[Value.cells] at hcs
  obtain⟨rfl,rfl,rfl⟩:=hcs
  simp only[if_true] at hmm
  by_cases h0:cap=0
  ·subst h0
   have e:len=0:=by omega
   subst e
   exact⟨_,_,0,0,[],rfl,Nat.le_refl _,fun _=>rfl,.inl rfl,h1,fun j hj=>by simp at hj,fun x hx=>by simp at hx⟩
  ·have hrow: ∀i,i<cap-> ∃k:Nat,k<256/\W.cell? (ad.add i)=some (.int .u8 (k:Int)):=fun i hi=>by
    obtain⟨k1,k2⟩:=hall i (by omega)
    obtain⟨k,e1,e2,e3⟩:=DataW.trod_int Tryz.underlying5 k2
    simp at e1
    have e3:0<=k/\k<256:=by
     simp[Lit.wf,IntKind.min,IntKind.max,IntKind.signed,IntKind.bits] at e3
     omega
    refine⟨k.toNat,by omega,?_⟩
    rw[k1,e1,show ((k.toNat:Nat):Int)=k by omega]
   obtain⟨gb,go,spot⟩:=ad
   have hspot:spot=none:=by
    obtain⟨z,_,hz⟩:=hrow 0 (by omega)
    simpa [Addr.add] using World.cell?_spot hz
   subst hspot
   have hadd: ∀i:Nat,((⟨gb,go,none⟩:Addr).add i)=⟨gb,go+i,none⟩:=fun i=>by unfold Addr.add;(repeat' split)<;>simp_all
   have hlist: ∀n,n<=cap-> ∃xs:List Nat,xs.length=n/\(∀x∈xs,x<256)/\SB W gb go xs:=fun n=>by
    induction n with
    | zero=>exact fun _=>⟨[],rfl,fun x hx=>by simp at hx,fun j hj=>by simp at hj⟩
    | succ n ih=>
     intro hn
     obtain⟨xs,e1,e2,e3⟩:=ih (by omega)
     obtain⟨k,hk,hc⟩:=hrow n (by omega)
     rw[hadd] at hc
     refine⟨xs++[k],by simp[e1],fun x hx=>?_,fun j hj=>?_⟩
     ·rcases List.mem_append.1 hx with h | h
      ·exact e2 x h
      ·simp at h;omega
     ·by_cases hj2:j<xs.length
      ·rw[e3 j hj2]
       simp[List.getElem?_append_left hj2]
      ·have:j=n:=by simp at hj;omega
       subst this
       rw[hc]
       simp[<-e1]
   obtain⟨xs,e1,e2,e3⟩:=hlist len (by omega)
   have hblk:gb<W.heap.size:=by
    obtain⟨z,_,hz⟩:=hrow 0 (by omega)
    rw[hadd] at hz
    exact World.block_lt_of_cell? W _ hz
   subst e1
   exact⟨_,_,gb,go,xs,rfl,hl,fun e=>(by cases e),.inr rfl,hblk,e3,e2⟩
theorem in_pre(L:Nat){sl:Option Addr}{cap gb go:Nat}{xs:List Nat}{W:World}(k1:xs.length<=cap)(k3:xs.length=0\/sl=some ⟨gb,go,none⟩)(k4:gb<W.heap.size)(k5:SB W gb go xs): ∀u,Bw W u->IN u u.heap.size (.slice sl (xs.take L).length cap) (xs.take L):=fun u hB=>by
 have hl:(xs.take L).length<=xs.length:=by rw[List.length_take];omega
 refine⟨sl,cap,gb,go,rfl,by omega,k3.imp (fun h=>by omega) id,Nat.lt_of_lt_of_le k4 hB.size,fun j hj=>?_⟩
 have hj3:j<L:=by rw[List.length_take] at hj;omega
 rw[hB.cell (p:=⟨gb,go+j,none⟩) k4,k5 j (by omega)]
 simp[List.getElem?_take_of_lt hj3]
theorem min_pre(L:Nat)(xs:List Nat):min (xs.length:Int) L=((xs.take L).length:Int)/\(xs.take L).length<=xs.length/\(xs.take L).length<=L:=by rw[List.length_take];omega
theorem flN_atg: ∀(ns:List Int) (j:Nat) (v:Value),(flN ns)[j]?=some v->j/4<ns.length/\(LN (ns.getD (j/4) 0))[j%4]?=some v
 | [],j,v,h=>by simp[flN] at h
 | n::r,j,v,h=>by
  rw[flN] at h
  by_cases hj:j<4
  ·rw[List.getElem?_append_left (by show j<4;exact hj)] at h
   rw[show j/4=0 by omega,show j%4=j by omega]
   exact⟨by simp,by simpa using h⟩
  ·rw[List.getElem?_append_right (by show 4<=j;omega)] at h
   have h:(flN r)[j -4]?=some v:=h
   have:=flN_atg r (j -4) v h
   rw[show j/4=(j -4)/4+1 by omega,show j%4=(j -4)%4 by omega]
   exact⟨by simpa using this.1,by simpa using this.2⟩
theorem SN.of{w:World}{g o:Nat}{ns:List Int}(h: ∀i,i<ns.length-> ∀c v,(LN (ns.getD i 0))[c]?=some v->w.cell? ⟨g,o+(i*4+c),none⟩=some v):SN w g o ns:=fun j v hj=>by
 obtain⟨h1,h2⟩:=flN_atg ns j v hj
 have:=h _ h1 _ v h2
 rwa [show j/4*4+j%4=j by omega] at this
end
end Go.Proofs.YtknpepgonhdbgaaGreatDoor
