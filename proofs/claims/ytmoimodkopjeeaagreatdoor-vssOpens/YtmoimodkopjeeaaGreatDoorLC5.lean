import Derived.Test.YtmoimodkopjeeaaGreatDoorCTP
namespace Go.Proofs.YtmoimodkopjeeaaGreatDoor
set_option linter.unusedVariables false
set_option linter.unusedSimpArgs false
set_option maxRecDepth 100000
set_option maxHeartbeats 4000000
open Go.RowKit
theorem W3:EnT 81:=fun _ _=>by kernel_rfl
def P104(u:World)(v:Value):Prop:=IN u u.heap.size v [104]
theorem P104.stab{u u2:World}{x:Value}(hB:Bw u u2)(h:P104 u x):P104 u2 x:=(IN.below h hB).mono hB.size
theorem bdG3(p q g:Int)(w:World):(Instr.build 26 [(0,NV p),(1,NV q),(2,NV g)].toArray).run Tryz.prog w= .ok (GX p q g 0) w:=by kernel_rfl
theorem Xv:EnT 82:=fun _ _=>by kernel_rfl
theorem bs104(w:World):(Instr.buildSlice 118 1 ([0].zip [.int .u8 104]).toArray).run Tryz.prog w= .ok (.slice (some ⟨w.heap.size,0,none⟩) 1 1) (w.alloc (.cells [.int .u8 104].toArray 5)):=by kernel_rfl
theorem in104(u:World):P104 (u.alloc (.cells [.int .u8 104].toArray 5)) (.slice (some ⟨u.heap.size,0,none⟩) 1 1):=
 ⟨_,1,u.heap.size,0,rfl,by simp,.inr rfl,by simp,fun j hj=>by
  have e:j=0:=by simp at hj;omega
  subst e
  exact(CV.new u [.int .u8 104] 5 0 _ rfl).1⟩
theorem xParams_core(k P Q a hh:Int)(n:Nat)(cs:List (Int×Int×Int))(w:World)(hn:Hid (n=cs.length))(h0:0<n)(h20:n<=20)(hc:cat cs (n -1)=(P,Q,a))
 (hX:Hid (∀u,Calls Tryz.prog 81 #[iI k] u fun e u'=> ∃v,e= .returned v/\PT 0 u.heap.size n (flC cs) u' v/\Bw u u'))
 (hM:Hid (∀u v,IN u u.heap.size v [104]->CC 82 #[GX P Q 4 0,v] u (.tuple #[NV hh,iI 0]))):
 CC 57 #[iI k] w (.tuple #[GX P Q 4 hh,iI 0]):=by
 go_enter Tryz.func57,Tryz.ntmps57
 go_upto_region 1 with fail
 obtain⟨v0,hC,HB0,K0⟩:=bx1 w L0g 26
 rw[hC]
 clear hC
 refine Rf K0 HB0 [] [] [(0,9,_),(4,12,_),(6,5,_)] [] [] [⟨1,10,none,PT 0 v0.heap.size n (flC cs)⟩,⟨2,8,none,PT 0 v0.heap.size n (flC cs)⟩,⟨3,11,some 5,PS v0.heap.size n (flC cs)⟩,⟨5,4,none,PS v0.heap.size n (flC cs)⟩] [] (oc g_mv<|oc (g_cE 0 (PT 0 v0.heap.size n (flC cs)) W3 (fun u hB hs=>(hX.out u).mono fun e u2 ⟨v,e1,h1,h2⟩=>⟨v,e1,h1.mono hs,h2⟩))<|oc (g_mE 0 1 (PT 0 v0.heap.size n (flC cs)))<|oc (g_xE 1 2 (PT 0 v0.heap.size n (flC cs)) (PS v0.heap.size n (flC cs)) PT.fst)<|oc (g_xV 1 (PT 0 v0.heap.size n (flC cs)) PT.snd)<|oc (g_sE 2 3 (PS v0.heap.size n (flC cs)))<|oc g_as on) fun u1 v1_1 hv1_1 v1_2 hv1_2 v1_3 hv1_3 v1_5 hv1_5 HB1 _ K1=>?_
 simp only[sQ] at K1⊢
 obtain⟨bl,cl,rfl,l1,l2,l3,l4⟩:=hv1_5 rfl
 have K1xl:=Bk.more3 K0 K1 l1 l2 l4 (by intro x hx;first | (simp at hx;done) | (simp at hx⊢;omega))
 simp only[aK] at K1xl
 go_upto_region 2 with fail
 refine Rn K1xl HB1 [(0,13,_),(1,14,_)] (oc g_mv<|oc (g_bn (fun uZ=>Zw _ _ _ 0 0 _ uZ rfl)) on) fun u2 HB2 _ K2=>?_
 simp only[sQ] at K2⊢
 have hz3:(n:Int) -1=((n -1:Nat):Int):=by omega
 have hR:=flC_get cs (n -1)
 rw[hc] at hR
 have hR:Hid _:=hR
 go_upto_region 4 with fail
 refine Rp K2 HB2 [] [(6,6,L0c,some (7,CE P Q a))] (cG 0 17 [_,_,_,_,_,_] []) [(7,6)] [] [] (oc g_mv<|oc g_mv<|oc (g_ln Tryz.underlying112)<|oc (g_bn (fun uZ=>X8 _ _ (n:Int) 1 ((n -1:Nat):Int) uZ hz3 (by omega) (by omega)))<|oc (g_ix (fun uZ=>ixC bl 0 n cl (n -1) (by omega) uZ))<|oc (g_lR 1 (0+12*(n -1)) (cs:=CE P Q a) ((fun c v hv=>by rw[Nat.zero_add];exact hR.out c v (by have:=hn.out;omega) hv)) Tryz.underlying116 Vz)<|oc (g_al 0 al_api_Cert)<|oc (g_sn 0 Vz) on) fun u3 b3_6 HB3 _ K3=>?_
 simp only[sQ] at K3⊢
 go_upto_region 5 with fail
 refine Rd K3 HB3 [] [(6,7,L0g,some (7,GE P Q (4) (0)))] (cG 0 23 [_,_,_,_,_,_] []) [(7,6)] [] [] (oc (g_fd (fdC0 _))<|oc (g_lo 2 0 uN iN)<|oc (g_fd (fdC1 _))<|oc (g_lo 2 4 uN iN)<|oc (g_cl Ww (fun uZ=>Xr 4 uZ (by omega) (by omega)))<|oc (g_bd (bdG3 P Q 4))<|oc (g_al 0 Uz)<|oc (g_sn 0 Z0) on) fun u4 b4_6 HB4 _ K4=>?_
 simp only[sQ] at K4⊢
 go_upto_region 6 with fail
 refine Rf K4 HB4 [.no,.no,.no,.all 7 (GE P Q (4) hh)] [] [(0,30,_),(2,32,_),(3,29,_),(4,33,_),(5,34,_),(6,35,_)] [(7,0)] [] [⟨1,31,some 2,P104⟩] [] (oc (g_ld 3 Tryz.underlying26 Z0)<|oc (g_bS 0 P104 [0] [.int .u8 104] bs104 in104)<|oc (g_c2 0 P104 Xv (fun uZ yZ _ hZ=>hM.out uZ yZ hZ))<|oc g_mv<|oc g_ex<|oc g_ex<|oc (g_fd (fdG3 _))<|oc (g_sm 3 12 (LN P++LN Q++LN 4) (LN 0) ([]) (post:=LN hh) iN) on) fun u5 v5_1 hv5_1 HB5 _ K5=>?_
 simp only[sQ] at K5⊢
 go_upto_region 7 with fail
 refine Rp K5 HB5 [.all 1 (GE P Q (4) hh)] [] [(0,36,_),(2,3,_)] [] [] [] (oc (g_ld 3 Tryz.underlying26 Z0)<|oc (g_st 0 Z0)<|oc g_as on) fun u6 HB6 _ K6=>?_
 simp only[sQ] at K6⊢
 have c2_0:=((K6.cv 0) 0 _ rfl).1
 have c2_1:=((K6.cv 0) 1 _ rfl).1
 have c2_2:=((K6.cv 0) 2 _ rfl).1
 have c2_3:=((K6.cv 0) 3 _ rfl).1
 have c2_4:=((K6.cv 0) 4 _ rfl).1
 have c2_5:=((K6.cv 0) 5 _ rfl).1
 have c2_6:=((K6.cv 0) 6 _ rfl).1
 have c2_7:=((K6.cv 0) 7 _ rfl).1
 have c2_8:=((K6.cv 0) 8 _ rfl).1
 have c2_9:=((K6.cv 0) 9 _ rfl).1
 have c2_10:=((K6.cv 0) 10 _ rfl).1
 have c2_11:=((K6.cv 0) 11 _ rfl).1
 have c2_12:=((K6.cv 0) 12 _ rfl).1
 have c2_13:=((K6.cv 0) 13 _ rfl).1
 have c2_14:=((K6.cv 0) 14 _ rfl).1
 have c2_15:=((K6.cv 0) 15 _ rfl).1
 go_wp2
 refine bodyPost_ret (v:= .tuple #[GX P Q (4) hh,iI 0]) (by simp[results,Tryz.results57,go_sem,c2_0,c2_1,c2_2,c2_3,c2_4,c2_5,c2_6,c2_7,c2_8,c2_9,c2_10,c2_11,c2_12,c2_13,c2_14,c2_15]) rfl ⟨rfl,HB6⟩
theorem mem104(p q:Int)(hg:gOk p q)(hp:In p)(hq:In q)(u:World)(v:Value)(h:IN u u.heap.size v [104]):
 CC 82 #[GX p q 4 0,v] u (.tuple #[NV (meN p [104]),iI 0]):=by
 have h1:=xMemberG p q 4 0 [104] v u hp hq h (fun x hx=>by simp at hx;omega) (by decide)
 have e1:meX p q [104]=meN p [104]:=if_pos hg
 have e2:chE p q=0:=if_pos hg
 rw[e1,e2] at h1
 exact h1
theorem xParams0(w:World):CC 57 #[iI 0] w (.tuple #[GX P0 Q0 4 (meN P0 [104]),iI 0]):=
 xParams_core 0 P0 Q0 2 (meN P0 [104]) 2 (stp ns0 2) w rfl (by omega) (by omega) rfl (fun u=>xChain0 u) (fun u v h=>mem104 P0 Q0 g0_ok ⟨by decide,by decide⟩ ⟨by decide,by decide⟩ u v h)
def GChk(w:World):Prop:= ∀u p q g h,Bw w u->In p->In q->In g->In h->CC 50 #[GX p q g h] u (iI (chE p q))
def GExp(w:World):Prop:= ∀u p q g h x e,Bw w u->In p->In q->In g->In h->In x->In e->CC 46 #[GX p q g h,NV x,NV e] u (.tuple #[NV (exPX p q x e),iI (exPE p q x)])
theorem pr0:Pr P0.toNat:=(cfB_pr chain0_in chain0_ok).2
theorem In_P0':In P0:=⟨by decide,by decide⟩
theorem In_Q0':In Q0:=⟨by decide,by decide⟩
theorem In_n4:In 4:=⟨by decide,by decide⟩
theorem In_lt{p x:Int}(hp:In p)(h0:0<=x)(h1:x<=p):In x:=⟨h0,Int.lt_of_le_of_lt h1 hp.2⟩
theorem In_Mb{p q x:Int}(hp:In p)(h:Mb p q x):In x:=In_lt hp (by have:=h.1;omega) (by have:=h.2.1;omega)
theorem mb_h0:Mb P0 Q0 (meN P0 [104]):=meN_Mb pr0 g0_ok _
theorem GExp.up{w u:World}(h:GExp w)(hB:Bw w u):GExp u:=fun u2 p q g h' x e hB2=>h u2 p q g h' x e (Zg hB hB2)
theorem GChk.up{w u:World}(h:GChk w)(hB:Bw w u):GChk u:=fun u2 p q g h' hB2=>h u2 p q g h' (Zg hB hB2)
section
section
variable {R:Rg} {P:Program} {Q:Exit->Act->World->Prop} {ops:Array Oper} {i:Nat} {o:Oper}
end
def H0:Int:=meN P0 [104]
theorem ent_M1:EnT 57:=fun _ _=>by kernel_rfl
theorem the_core(p q g h:Int)(w:World)(hP:Hid (∀u,CC 57 #[iI 0] u (.tuple #[GX p q g h,iI 0]))):
 CC 28 #[] w (GX p q g h):=by
 go_enter Tryz.func28,Tryz.ntmps28
 go_upto_region 1 with fail
 obtain⟨v0,hC,HB0,K0⟩:=bx1 w L0g 26
 rw[hC]
 clear hC
 refine Rp K0 HB0 [] [(4,1,L0g,some (5,GE p q g h))] [(0,4,_),(1,3,_),(2,5,_),(3,6,_),(6,2,_)] [(5,4)] [] [] (oc (g_cl ent_M1 hP.out)<|oc g_mv<|oc g_ex<|oc g_ex<|oc (g_al 0 Uz)<|oc (g_sn 0 Z0)<|oc g_as on) fun u1 b1_4 HB1 _ K1=>?_
 simp only[sQ] at K1⊢
 go_upto_region 2 with fail
 refine Rp K1 HB1 [.all 1 (GE p q g h)] [] [(0,7,_)] [] [] [] (oc (g_ld 1 Tryz.underlying26 Z0)<|oc (g_st 0 Z0) on) fun u2 HB2 _ K2=>?_
 simp only[sQ] at K2⊢
 have c0_0:=((K2.cv 0) 0 _ rfl).1
 have c0_1:=((K2.cv 0) 1 _ rfl).1
 have c0_2:=((K2.cv 0) 2 _ rfl).1
 have c0_3:=((K2.cv 0) 3 _ rfl).1
 have c0_4:=((K2.cv 0) 4 _ rfl).1
 have c0_5:=((K2.cv 0) 5 _ rfl).1
 have c0_6:=((K2.cv 0) 6 _ rfl).1
 have c0_7:=((K2.cv 0) 7 _ rfl).1
 have c0_8:=((K2.cv 0) 8 _ rfl).1
 have c0_9:=((K2.cv 0) 9 _ rfl).1
 have c0_10:=((K2.cv 0) 10 _ rfl).1
 have c0_11:=((K2.cv 0) 11 _ rfl).1
 have c0_12:=((K2.cv 0) 12 _ rfl).1
 have c0_13:=((K2.cv 0) 13 _ rfl).1
 have c0_14:=((K2.cv 0) 14 _ rfl).1
 have c0_15:=((K2.cv 0) 15 _ rfl).1
 go_wp2
 refine bodyPost_ret (v:=GX p q g h) (by simp[results,Tryz.results28,go_sem,c0_0,c0_1,c0_2,c0_3,c0_4,c0_5,c0_6,c0_7,c0_8,c0_9,c0_10,c0_11,c0_12,c0_13,c0_14,c0_15]) rfl ⟨rfl,HB2⟩
theorem cThe(w:World):CC 28 #[] w (GX P0 Q0 4 H0):=the_core P0 Q0 4 H0 w fun u=>xParams0 u
theorem is4:isB P0 Q0 4=true:=decide_eq_true ⟨g0_ok,is_4 pr0⟩
theorem isH0:isB P0 Q0 H0=true:=decide_eq_true ⟨g0_ok,mb_h0⟩
theorem In_H0:In H0:=In_Mb In_P0' mb_h0
end
theorem prQ:Pr Q0.toNat:=crB_pr chain0_in 0 (by decide) (by simp[crB,knB,cat,chain0,Us,chain0_1])
theorem Mb.cancel{p q X A B:Int}(hg:gOk p q)(hX:Mb p q X)(h:A*X%p=B*X%p):A%p=B%p:=by
 have hi:=hX.inv hg
 obtain⟨c,hc⟩:=hi.2.2
 rw[Int.emod_eq_of_lt (by have:=hX.1;omega) hX.2.1] at hc
 generalize invN p q X=I at *
 have h2:=Int.emod_eq_emod_iff_emod_sub_eq_zero.1 h
 obtain⟨k,hk⟩:=Int.dvd_of_emod_eq_zero h2
 refine Int.emod_eq_emod_iff_emod_sub_eq_zero.2 (Int.emod_eq_zero_of_dvd ⟨I*k -(A -B)*c,?_⟩)
 grind
theorem co_inj1{p q g h s s' t:Int}(hq:Pr q.toNat)(h1:isB p q g=true)(h2:isB p q h=true)(hne:g≠1):coX p q g h s t=coX p q g h s' t↔s%q=s'%q:=by
 obtain⟨hg,m1⟩:=Ug h1
 obtain⟨_,m2⟩:=Ug h2
 have h3:=hg.q3
 rw[coX_is h1 h2,coX_is h1 h2]
 refine⟨fun e=>?_,fun e=>by rw[e]⟩
 have e:=Mb.cancel hg (m2.pow hg _) e
 rw[Int.emod_emod,Int.emod_emod] at e
 have e:=pow_inj hq hg m1 hne e
 have r1:=Int.emod_nonneg s (show q≠0 by omega)
 have r2:=Int.emod_nonneg s' (show q≠0 by omega)
 rwa [Int.toNat_of_nonneg r1,Int.toNat_of_nonneg r2,Int.emod_emod,Int.emod_emod] at e
def dlE(p q g h d:Int)(ss ts:List Int):Int:=if gOk p q then (if ndB d&&shB ss.length ts.length then (if isB p q g&&isB p q h then 0 else 90) else 110) else 90
def dlD(p q g h d:Int)(ss ts:List Int):Int:=if dlE p q g h d ss ts=0 then d else 0
def dlC(p q g h d:Int)(ss ts:List Int):List Int:=if dlE p q g h d ss ts=0 then cmS p q g h ss ts else []
structure VOK(w:World):Prop where
 share: ∀u,Bw w u-> ∀(p q g h nd:Int) (ss ts:List Int) (v v2:Value),In p->In q->In g->In h-> -9223372036854775808<=nd/\nd<9223372036854775808->NL u v ss->NL u v2 ts->(∀z∈ss,In z)->(∀z∈ts,In z)->ss.length<=7->ts.length<=7->CC 12 #[GX p q g h,iI nd,v,v2] u (.tuple #[shV p q nd ss ts,iI (shO p q nd ss ts)])
 deal: ∀u,Bw w u-> ∀(p q g h d:Int) (ss ts:List Int) (v v2:Value),In p->In q->In g->In h-> -9223372036854775808<=d/\d<9223372036854775808->NL u v ss->NL u v2 ts->(∀z∈ss,In z)->(∀z∈ts,In z)->ss.length<=7->ts.length<=7->Calls Tryz.prog 10 #[GX p q g h,iI d,v,v2] u fun e u'=> ∃y,e= .returned (.tuple #[DX (dlD p q g h d ss ts) y,iI (dlE p q g h d ss ts)])/\NL u' y (dlC p q g h d ss ts)/\Bw u u'
 check: ∀u,Bw w u-> ∀(p q g h d:Int) (ns:List Int) (v:Value),In p->In q->In g->In h-> -9223372036854775808<=d/\d<9223372036854775808->NL u v ns->(∀z∈ns,In z)->ns.length<=7->CC 19 #[GX p q g h,DX d v] u (iI (dcE p q d ns))
 verify: ∀u,Bw w u-> ∀(p q g h d nd s t:Int) (ns:List Int) (v:Value),In p->In q->In g->In h-> -9223372036854775808<=d/\d<9223372036854775808-> -9223372036854775808<=nd/\nd<9223372036854775808->In s->In t->NL u v ns->(∀z∈ns,In z)->ns.length<=7->CC 21 #[GX p q g h,DX d v,SX nd s t] u (iI (veE p q g h d nd s t ns))
theorem VOK.up{w u:World}(h:VOK w)(hB:Bw w u):VOK u:=⟨fun v hv=>h.share v (Zg hB hv),fun v hv=>h.deal v (Zg hB hv),fun v hv=>h.check v (Zg hB hv),fun v hv=>h.verify v (Zg hB hv)⟩
theorem w_sh:shO P0 Q0 2 [3,2] [5,7]=0:=by decide
theorem w_s:hoN Q0 2 [3,2] ([3,2]:List Int).length=7:=by decide
theorem w_t:hoN Q0 2 [5,7] ([5,7]:List Int).length=19:=by decide
theorem w_sv:shV P0 Q0 2 [3,2] [5,7]=SX 2 7 19:=by rw[shV,if_pos w_sh,w_s,w_t]
theorem dl_0{d:Int}{ss ts:List Int}(hd:ndB d=true)(hs:shB ss.length ts.length=true):dlE P0 Q0 4 H0 d ss ts=0:=by
 unfold dlE;rw[if_pos g0_ok,hd,hs,is4,isH0];rfl
theorem w_v7:veE P0 Q0 4 H0 1 2 7 19 (cmS P0 Q0 4 H0 [3,2] [5,7])=0:=by
 rw[verify_is is4 isH0 (by decide) (by decide) (by decide),w_s,w_t,if_pos rfl]
theorem w_v8:veE P0 Q0 4 H0 1 2 8 19 (cmS P0 Q0 4 H0 [3,2] [5,7])=100:=by
 rw[verify_is is4 isH0 (by decide) (by decide) (by decide),w_s,w_t,if_neg]
 exact fun e=>absurd ((co_inj1 prQ is4 isH0 (by decide)).1 e) (by decide)
end Go.Proofs.YtmoimodkopjeeaaGreatDoor
