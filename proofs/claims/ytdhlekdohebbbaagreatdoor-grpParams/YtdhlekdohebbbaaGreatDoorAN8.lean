import Derived.Test.YtdhlekdohebbbaaGreatDoorAN6
import Derived.Test.YtdhlekdohebbbaaGreatDoorLC5
namespace Go.Proofs.YtdhlekdohebbbaaGreatDoor
set_option linter.unusedVariables false
set_option linter.unusedSimpArgs false
set_option maxRecDepth 100000
set_option maxHeartbeats 4000000
section
theorem sq_Mb{p q x:Int}(hp:Pr p.toNat)(hg:gOk p q)(h:x%p≠0):Mb p q (x*x%p):=by
 have h7:=hg.2
 have h2:=hg.1
 refine Mb.of hg ?_
 have ha0:=Int.emod_nonneg x (show p≠0 by omega)
 have ha1:=Int.emod_lt_of_pos x (show 0<p by omega)
 have e0:(x*x)^q.toNat%p=(x%p)^(p.toNat -1)%p:=by
  rw[show p.toNat -1=2*q.toNat by omega,Int.pow_mul,<-pow_modG (x*x),<-pow_modG ((x%p)^2),Int.pow_succ,Int.pow_succ,Int.pow_zero,Int.one_mul,<-Int.mul_emod]
 rw[e0]
 obtain⟨a,ea⟩: ∃a:Nat,x%p=(a:Int):=⟨(x%p).toNat,by omega⟩
 rw[ea] at h ha1⊢
 have hb: ¬p.toNat∣a:=fun hd=>by have:=Nat.le_of_dvd (by omega) hd;omega
 have hf:=hp.fermat hb
 have hf2:((a^(p.toNat -1)%p.toNat:Nat):Int)=1:=by rw[hf];rfl
 rw[Int.natCast_emod,Int.natCast_pow,Int.toNat_of_nonneg (by omega)] at hf2
 exact hf2
theorem one_Mb{p q:Int}(hg:gOk p q):Mb p q 1:=by
 have h7:=hg.2
 exact⟨by omega,by omega,by rw[Int.one_pow];exact one_mod (by omega)⟩
theorem meF_is{f:Nat->Int}: ∀(k s:Nat),meF f s k=1\/ ∃i,meF f s k=f i/\1<f i
 | 0,s=>.inl rfl
 | k+1,s=>by
  rw[meF]
  by_cases h:1<f s
  ·rw[if_pos h];exact .inr ⟨s,rfl,h⟩
  ·rw[if_neg h];exact meF_is k (s+1)
theorem meN_Mb{p q:Int}(hp:Pr p.toNat)(hg:gOk p q)(bs:List Nat):Mb p q (meN p bs):=by
 unfold meN
 rcases meF_is (f:=sqM p bs) 64 0 with h | ⟨i,h,h1⟩
 ·rw[h];exact one_Mb hg
 ·rw[h]
  unfold sqM at h1⊢
  refine sq_Mb hp hg fun e=>?_
  rw[Int.mul_emod,e,Int.mul_zero,Int.zero_emod] at h1
  omega
theorem isB_of{p q x:Int}(hg:gOk p q)(h:Mb p q x):isB p q x=true:=decide_eq_true ⟨hg,h⟩
abbrev P0:Int:=1162079267
abbrev Q0:Int:=581039633
theorem g0_ok:gOk P0 Q0:=⟨by decide,by decide⟩
theorem is_4(hp:Pr P0.toNat):Mb P0 Q0 4:=sq_Mb (x:=2) hp g0_ok (by decide)
theorem is_9(hp:Pr P0.toNat):Mb P0 Q0 9:=sq_Mb (x:=3) hp g0_ok (by decide)
theorem is_no(hp:Pr P0.toNat):isB P0 Q0 (P0 -4)=false:=by
 have:=gn_neg (p:=P0) (q:=Q0) (a:=2) hp (by decide) (by decide) (by decide) (by decide) (by decide)
 unfold gnB at this
 have hn:=of_decide_eq_false this
 exact decide_eq_false fun h=>hn ⟨by decide,by decide,h.2.2.2⟩
end
section
open Go.RowKit
def P104(u:World)(v:Value):Prop:=IN u u.heap.size v [104]
theorem P104.stab{u u2:World}{x:Value}(hB:Bw u u2)(h:P104 u x):P104 u2 x:=(IN.below h hB).mono hB.size
theorem zG(w:World):(Instr.build 26 [].toArray).run Tryz.prog w= .ok (.agg L0g.toArray) w:=by kernel_rfl
theorem bdG3(p q g:Int)(w:World):(Instr.build 26 [(0,NV p),(1,NV q),(2,NV g)].toArray).run Tryz.prog w= .ok (GX p q g 0) w:=by kernel_rfl
theorem Wg:EnT 15:=fun _ _=>by kernel_rfl
theorem bs104(w:World):(Instr.buildSlice 46 1 ([0].zip [.int .u8 104]).toArray).run Tryz.prog w= .ok (.slice (some ⟨w.heap.size,0,none⟩) 1 1) (w.alloc (.cells [.int .u8 104].toArray 5)):=by kernel_rfl
theorem in104(u:World):P104 (u.alloc (.cells [.int .u8 104].toArray 5)) (.slice (some ⟨u.heap.size,0,none⟩) 1 1):=
 ⟨_,1,u.heap.size,0,rfl,by simp,.inr rfl,by simp,fun j hj=>by
  have e:j=0:=by simp at hj;omega
  subst e
  exact(CV.new u [.int .u8 104] 5 0 _ rfl).1⟩
theorem xParams_bad(k:Int)(w:World)(k0:(k==0)=false)(k1:(k==1)=false):
 CC 5 #[iI k] w (.tuple #[.agg L0g.toArray,iI 2]):=by
 go_enter Tryz.func5,Tryz.ntmps5
 go_upto_region 1 with fail
 obtain⟨v0,hC,HB0,K0⟩:=bx1 w L0g 26
 rw[hC]
 clear hC
 refine Rn K0 HB0 [(0,9,iI k),(1,10,.tuple #[.slice none 0 0,iI 2]),(2,8,.tuple #[.slice none 0 0,iI 2]),(3,11,.slice none 0 0),(4,12,iI 2),(5,4,.slice none 0 0),(6,5,iI 2)] (oc g_mv<|oc (g_cl Yi (fun uZ=>xChain_bad k uZ k0 k1))<|oc g_mv<|oc g_ex<|oc g_ex<|oc g_as<|oc g_as on) fun u1 HB1 _ K1=>?_
 simp only[sQ] at K1⊢
 go_upto_region 2 with fail
 refine Rn K1 HB1 [(0,13,iI 2),(1,14,.bool true)] (oc g_mv<|oc (g_bn (fun uZ=>V9 _ _ _ 2 0 _ uZ rfl)) on) fun u2 HB2 _ K2=>?_
 simp only[sQ] at K2⊢
 go_upto_region 3 with fail
 refine Rp K2 HB2 [.all 2 L0g] [] [(0,15,.agg L0g.toArray),(1,16,iI 2),(3,3,iI 2)] [] [] [] (oc (g_bd zG)<|oc g_mv<|oc (g_st 0 Z3)<|oc g_as on) fun u3 HB3 _ K3=>?_
 simp only[sQ] at K3⊢
 have c2_0:=((K3.cv 0) 0 _ rfl).1
 have c2_1:=((K3.cv 0) 1 _ rfl).1
 have c2_2:=((K3.cv 0) 2 _ rfl).1
 have c2_3:=((K3.cv 0) 3 _ rfl).1
 have c2_4:=((K3.cv 0) 4 _ rfl).1
 have c2_5:=((K3.cv 0) 5 _ rfl).1
 have c2_6:=((K3.cv 0) 6 _ rfl).1
 have c2_7:=((K3.cv 0) 7 _ rfl).1
 have c2_8:=((K3.cv 0) 8 _ rfl).1
 have c2_9:=((K3.cv 0) 9 _ rfl).1
 have c2_10:=((K3.cv 0) 10 _ rfl).1
 have c2_11:=((K3.cv 0) 11 _ rfl).1
 have c2_12:=((K3.cv 0) 12 _ rfl).1
 have c2_13:=((K3.cv 0) 13 _ rfl).1
 have c2_14:=((K3.cv 0) 14 _ rfl).1
 have c2_15:=((K3.cv 0) 15 _ rfl).1
 go_wp2
 refine bodyPost_ret (v:= .tuple #[.agg L0g.toArray,iI 2]) (by simp[results,Tryz.results5,go_sem,c2_0,c2_1,c2_2,c2_3,c2_4,c2_5,c2_6,c2_7,c2_8,c2_9,c2_10,c2_11,c2_12,c2_13,c2_14,c2_15]) rfl ⟨rfl,HB3⟩
theorem Ta(k P Q a hh:Int)(n:Nat)(cs:List (Int×Int×Int))(w:World)(hn:Hid (n=cs.length))(h0:0<n)(h20:n<=20)(hc:cat cs (n -1)=(P,Q,a))
 (hX:Hid (∀u,Calls Tryz.prog 7 #[iI k] u fun e u'=> ∃v,e= .returned v/\PT 0 u.heap.size n (flC cs) u' v/\Bw u u'))
 (hM:Hid (∀u v,IN u u.heap.size v [104]->CC 15 #[GX P Q 4 0,v] u (.tuple #[NV hh,iI 0]))):
 CC 5 #[iI k] w (.tuple #[GX P Q 4 hh,iI 0]):=by
 go_enter Tryz.func5,Tryz.ntmps5
 go_upto_region 1 with fail
 obtain⟨v0,hC,HB0,K0⟩:=bx1 w L0g 26
 rw[hC]
 clear hC
 refine Rf K0 HB0 [] [] [(0,9,iI k),(4,12,iI 0),(6,5,iI 0)] [] [] [⟨1,10,none,PT 0 v0.heap.size n (flC cs)⟩,⟨2,8,none,PT 0 v0.heap.size n (flC cs)⟩,⟨3,11,some 5,PS v0.heap.size n (flC cs)⟩,⟨5,4,none,PS v0.heap.size n (flC cs)⟩] [] (hst:=(.cons (fun _ _ _ h1 h2=>h2.stab h1)<| .cons (fun _ _ _ h1 h2=>h2.stab h1)<| .cons (fun _ _ _ h1 h2=>h2.stab h1)<| .cons (fun _ _ _ h1 h2=>h2.stab h1)<|Stab.nil)) (oc g_mv<|oc (g_cE 0 (PT 0 v0.heap.size n (flC cs)) Yi (fun u hB hs=>(hX.out u).mono fun e u2 ⟨v,e1,h1,h2⟩=>⟨v,e1,h1.mono hs,h2⟩))<|oc (g_mE 0 1 (PT 0 v0.heap.size n (flC cs)))<|oc (g_xE 1 2 (PT 0 v0.heap.size n (flC cs)) (PS v0.heap.size n (flC cs)) PT.fst)<|oc (g_xV 1 (PT 0 v0.heap.size n (flC cs)) PT.snd)<|oc (g_sE 2 3 (PS v0.heap.size n (flC cs)))<|oc g_as on) fun u1 v1_1 hv1_1 v1_2 hv1_2 v1_3 hv1_3 v1_5 hv1_5 HB1 _ K1=>?_
 simp only[sQ] at K1⊢
 obtain⟨bl,cl,rfl,l1,l2,l3,l4⟩:=hv1_5 rfl
 have K1xl:=Bk.more3 K0 K1 l1 l2 l4 (by intro x hx;first | (simp at hx;done) | (simp at hx⊢;omega))
 simp only[aK] at K1xl
 go_upto_region 2 with fail
 refine Rn K1xl HB1 [(0,13,iI 0),(1,14,.bool false)] (oc g_mv<|oc (g_bn (fun uZ=>V9 _ _ _ 0 0 _ uZ rfl)) on) fun u2 HB2 _ K2=>?_
 simp only[sQ] at K2⊢
 have hz3:(n:Int) -1=((n -1:Nat):Int):=by omega
 have hR:=flC_get cs (n -1)
 rw[hc] at hR
 have hR:Hid _:=hR
 go_upto_region 4 with fail
 refine Rp K2 HB2 [] [(6,6,L0c,some (7,CE P Q a))] (cG 0 17 [.slice (some ⟨bl,0,none⟩) n cl,.slice (some ⟨bl,0,none⟩) n cl,iI (n:Int),iI ((n -1:Nat):Int),.pointer (some ⟨bl,0+12*(n -1),none⟩),CX P Q a] []) [(7,6)] [] [] (oc g_mv<|oc g_mv<|oc (g_ln Tryz.underlying31)<|oc (g_bn (fun uZ=>Y6 _ _ (n:Int) 1 ((n -1:Nat):Int) uZ hz3 (by omega) (by omega)))<|oc (g_ix (fun uZ=>ixC bl 0 n cl (n -1) (by omega) uZ))<|oc (g_lR 1 (0+12*(n -1)) (cs:=CE P Q a) ((fun c v hv=>by rw[Nat.zero_add];exact hR.out c v (by have:=hn.out;omega) hv)) Tryz.underlying48 Yu)<|oc (g_al 0 al_api_Cert)<|oc (g_sn 0 Yu) on) fun u3 b3_6 HB3 _ K3=>?_
 simp only[sQ] at K3⊢
 go_upto_region 5 with fail
 refine Rd K3 HB3 [] [(6,7,L0g,some (7,GE P Q (4) (0)))] (cG 0 23 [.pointer (some ⟨b3_6,0,none⟩),NV P,.pointer (some ⟨b3_6,4,none⟩),NV Q,NV 4,GX P Q (4) (0)] []) [(7,6)] [] [] (oc (g_fd (fdC0 _))<|oc (g_lo 2 0 uN iN)<|oc (g_fd (fdC1 _))<|oc (g_lo 2 4 uN iN)<|oc (g_cl Y0 (fun uZ=>Un 4 uZ (by omega) (by omega)))<|oc (g_bd (bdG3 P Q 4))<|oc (g_al 0 Xg)<|oc (g_sn 0 Z3) on) fun u4 b4_6 HB4 _ K4=>?_
 simp only[sQ] at K4⊢
 go_upto_region 6 with fail
 refine Rf K4 HB4 [.no,.no,.no,.all 7 (GE P Q (4) hh)] [] [(0,30,GX P Q (4) (0)),(2,32,.tuple #[NV hh,iI 0]),(3,29,.tuple #[NV hh,iI 0]),(4,33,NV hh),(5,34,iI 0),(6,35,.pointer (some ⟨b4_6,12,none⟩))] [(7,0)] [] [⟨1,31,some 2,P104⟩] [] (hst:=(.cons (fun _ _ _ h1 h2=>h2.stab h1)<|Stab.nil)) (oc (g_ld 3 Tryz.underlying26 Z3)<|oc (g_bS 0 P104 [0] [.int .u8 104] bs104 in104)<|oc (g_c2 0 P104 Wg (fun uZ yZ _ hZ=>hM.out uZ yZ hZ))<|oc g_mv<|oc g_ex<|oc g_ex<|oc (g_fd (fdG3 _))<|oc (g_sm 3 12 (LN P++LN Q++LN 4) (LN 0) ([]) (post:=LN hh) iN) on) fun u5 v5_1 hv5_1 HB5 _ K5=>?_
 simp only[sQ] at K5⊢
 go_upto_region 7 with fail
 refine Rp K5 HB5 [.all 1 (GE P Q (4) hh)] [] [(0,36,GX P Q (4) hh),(2,3,(Go.Value.int Go.IntKind.i64 0))] [] [] [] (oc (g_ld 3 Tryz.underlying26 Z3)<|oc (g_st 0 Z3)<|oc g_as on) fun u6 HB6 _ K6=>?_
 simp only[sQ] at K6⊢
 have c2_0:=((K6.cv 0) 0 _ rfl).1
 have c2_1:=((K6.cv 0) 1 _ rfl).1
 have c2_2:=((K6.cv 0) 2 _ rfl).1
 have c2_3:=((K6.cv 0) 3 _ rfl).1
 have c2_4:=((K6.cv 0) 4 _ rfl).1
 have c2_5:=((K6.cv 0) 5 _ rfl).1
 have c2_6:=((K6.cv 0) 6 _ rfl).1
 have c2_7:=((K6.cv 0) 7 _ rfl).1
 have c2_8:=((K6.cv 0) 8 _ rfl).1
 have c2_9:=((K6.cv 0) 9 _ rfl).1
 have c2_10:=((K6.cv 0) 10 _ rfl).1
 have c2_11:=((K6.cv 0) 11 _ rfl).1
 have c2_12:=((K6.cv 0) 12 _ rfl).1
 have c2_13:=((K6.cv 0) 13 _ rfl).1
 have c2_14:=((K6.cv 0) 14 _ rfl).1
 have c2_15:=((K6.cv 0) 15 _ rfl).1
 go_wp2
 refine bodyPost_ret (v:= .tuple #[GX P Q (4) hh,iI 0]) (by simp[results,Tryz.results5,go_sem,c2_0,c2_1,c2_2,c2_3,c2_4,c2_5,c2_6,c2_7,c2_8,c2_9,c2_10,c2_11,c2_12,c2_13,c2_14,c2_15]) rfl ⟨rfl,HB6⟩
def PB1:Int:=0x41f4600a97299a716ac336aae469e3514af0fae171206cbec2f0ebee989a79bb
def QB1:Int:=0x20fa30054b94cd38b5619b557234f1a8a5787d70b890365f617875f74c4d3cdd
theorem g1_ok:gOk PB1 QB1:=⟨by decide+kernel,by decide+kernel⟩
theorem mem104(p q:Int)(hg:gOk p q)(hp:In p)(hq:In q)(u:World)(v:Value)(h:IN u u.heap.size v [104]):
 CC 15 #[GX p q 4 0,v] u (.tuple #[NV (meN p [104]),iI 0]):=by
 have h1:=xMemberG p q 4 0 [104] v u hp hq h (fun x hx=>by simp at hx;omega) (by decide)
 have e1:meX p q [104]=meN p [104]:=if_pos hg
 have e2:chE p q=0:=if_pos hg
 rw[e1,e2] at h1
 exact h1
theorem xParams0(w:World):CC 5 #[iI 0] w (.tuple #[GX P0 Q0 4 (meN P0 [104]),iI 0]):=
 Ta 0 P0 Q0 2 (meN P0 [104]) 2 (stp ns0 2) w rfl (by omega) (by omega) rfl (fun u=>xChain0 u) (fun u v h=>mem104 P0 Q0 g0_ok ⟨by decide,by decide⟩ ⟨by decide,by decide⟩ u v h)
theorem xParams1(w:World):CC 5 #[iI 1] w (.tuple #[GX PB1 QB1 4 (meN PB1 [104]),iI 0]):=
 Ta 1 PB1 QB1 2 (meN PB1 [104]) 5 (stp ns1 5) w rfl (by omega) (by omega) rfl (fun u=>xChain1 u) (fun u v h=>mem104 PB1 QB1 g1_ok ⟨by decide+kernel,by decide+kernel⟩ ⟨by decide+kernel,by decide+kernel⟩ u v h)
def paP(k:Int):Int:=if k=0 then P0 else if k=1 then PB1 else 0
def paQ(k:Int):Int:=if k=0 then Q0 else if k=1 then QB1 else 0
def paG(k:Int):Int:=if k=0\/k=1 then 4 else 0
def paH(k:Int):Int:=if k=0 then meN P0 [104] else if k=1 then meN PB1 [104] else 0
def paE(k:Int):Int:=if k=0\/k=1 then 0 else 2
theorem xParams(k:Int)(w:World):CC 5 #[iI k] w (.tuple #[GX (paP k) (paQ k) (paG k) (paH k),iI (paE k)]):=by
 by_cases k0:k=0
 ·subst k0
  have e1:paP 0=P0:=if_pos rfl
  have e2:paQ 0=Q0:=if_pos rfl
  have e3:paG 0=4:=if_pos (.inl rfl)
  have e4:paH 0=meN P0 [104]:=if_pos rfl
  have e5:paE 0=0:=if_pos (.inl rfl)
  rw[e1,e2,e3,e4,e5]
  exact xParams0 w
 ·by_cases k1:k=1
  ·subst k1
   have e1:paP 1=PB1:=(if_neg k0).trans (if_pos rfl)
   have e2:paQ 1=QB1:=(if_neg k0).trans (if_pos rfl)
   have e3:paG 1=4:=if_pos (.inr rfl)
   have e4:paH 1=meN PB1 [104]:=(if_neg k0).trans (if_pos rfl)
   have e5:paE 1=0:=if_pos (.inr rfl)
   rw[e1,e2,e3,e4,e5]
   exact xParams1 w
  ·have e1:paP k=0:=by simp[paP,k0,k1]
   have e2:paQ k=0:=by simp[paQ,k0,k1]
   have e3:paG k=0:=by simp[paG,k0,k1]
   have e4:paH k=0:=by simp[paH,k0,k1]
   have e5:paE k=2:=by simp[paE,k0,k1]
   rw[e1,e2,e3,e4,e5]
   exact xParams_bad k w (by simpa using k0) (by simpa using k1)
def GChk(w:World):Prop:= ∀u p q g h,Bw w u->In p->In q->In g->In h->CC 19 #[GX p q g h] u (iI (chE p q))
def GIs(w:World):Prop:= ∀u p q g h x,Bw w u->In p->In q->In g->In h->In x->CC 18 #[GX p q g h,NV x] u (.bool (isB p q x))
def GExp(w:World):Prop:= ∀u p q g h x e,Bw w u->In p->In q->In g->In h->In x->In e->CC 16 #[GX p q g h,NV x,NV e] u (.tuple #[NV (exPX p q x e),iI (exPE p q x)])
def GPar(w:World):Prop:= ∀u k,Bw w u-> -9223372036854775808<=k->k<=9223372036854775807->CC 4 #[iI k] u (.tuple #[GX (paP k) (paQ k) (paG k) (paH k),iI (paE k)])
def GPa0(w:World):Prop:= ∀u,Bw w u->CC 4 #[iI 0] u (.tuple #[GX P0 Q0 4 (meN P0 [104]),iI 0])
theorem ent_grp_Check:EnT 19:=fun _ _=>by kernel_rfl
theorem ent_grp_Is:EnT 18:=fun _ _=>by kernel_rfl
theorem ent_grp_Exp:EnT 16:=fun _ _=>by kernel_rfl
theorem Wj:EnT 4:=fun _ _=>by kernel_rfl
theorem works9_core(P Q hh:Int)(w:World)(iP:In P)(i4:In 4)(hP4:4<=P)
 (hP:Hid (∀u,Bw w u->CC 4 #[iI 0] u (.tuple #[GX P Q 4 hh,iI 0])))
 (hE:Hid (∀u,Bw w u->CC 16 #[GX P Q 4 hh,NV 4,A4 0 0 0 0] u (.tuple #[NV 1,iI 0])))
 (hI:Hid (∀u,Bw w u->CC 18 #[GX P Q 4 hh,NV 9] u (.bool true)))
 (hJ:Hid (∀u,Bw w u->CC 18 #[GX P Q 4 hh,NV (P -4)] u (.bool false)))
 (hC:Hid (∀u,Bw w u->CC 19 #[GX P Q 4 hh] u (iI 0))):
 CC 6 #[] w (.bool true):=by
 go_enter Tryz.func6,Tryz.ntmps6
 have HB0:Bw w w:=Below.refl _ _
 have K0_1:=Bk.nil (w.heap.size) w
 go_upto_region 1 with fail
 refine Rp K0_1 HB0 [] [(4,1,L0g,some (5,GE P Q (4) hh))] [(0,8,.tuple #[GX P Q (4) hh,iI 0]),(1,7,.tuple #[GX P Q (4) hh,iI 0]),(2,9,GX P Q (4) hh),(3,10,iI 0),(6,2,iI 0)] [(5,4)] [] [] (oc (g_cb Wj hP.out)<|oc g_mv<|oc g_ex<|oc g_ex<|oc (g_al 0 Xg)<|oc (g_sn 0 Z3)<|oc g_as on) fun u1 b1_4 HB1 _ K1=>?_
 simp only[sQ] at K1⊢
 go_upto_region 2 with fail
 refine Rd K1 HB1 [] [(7,3,L0s,some (8,LN 1))] (cG 0 12 [GX P Q (4) hh,NV 4,A4 (0) (0) (0) (0),.tuple #[NV 1,iI 0]] [(4,11,.tuple #[NV 1,iI 0]),(5,16,NV 1),(6,17,iI 0),(9,4,iI 0)]) [(8,7)] [] [] (oc (g_ld 0 Tryz.underlying26 Z3)<|oc (g_cl Y0 (fun uZ=>Un 4 uZ (by omega) (by omega)))<|oc (g_bd zN)<|oc (g_cb ent_grp_Exp hE.out)<|oc g_mv<|oc g_ex<|oc g_ex<|oc (g_al 0 aN)<|oc (g_sn 0 iN)<|oc g_as on) fun u2 b2_7 HB2 _ K2=>?_
 simp only[sQ] at K2⊢
 go_upto_region 3 with fail
 refine Rd K2 HB2 [] [(7,5,L0s,some (8,LN (P -4)))] (cG 0 19 [.pointer (some ⟨b1_4,0,none⟩),NV P,NV 4,.tuple #[NV (P -4),.bool false]] [(4,18,.tuple #[NV (P -4),.bool false]),(5,23,NV (P -4)),(6,24,.bool false),(9,6,.bool false)]) [(8,7)] [] [] (oc (g_fd (fdG0 _))<|oc (g_lo 0 0 uN iN)<|oc (g_cl Y0 (fun uZ=>Un 4 uZ (by omega) (by omega)))<|oc (g_cl Z6 (fun uZ=>Vp P 4 uZ iP i4 hP4))<|oc g_mv<|oc g_ex<|oc g_ex<|oc (g_al 0 aN)<|oc (g_sn 0 iN)<|oc g_as on) fun u3 b3_7 HB3 _ K3=>?_
 simp only[sQ] at K3⊢
 go_upto_region 4 with fail
 refine Rd K3 HB3 [] [] (cG 0 25 [iI 0,.bool true,.bool true,iI 0,.bool true,.bool true,.bool true,NV 1,NV 1,.bool true,.bool true,.bool true,GX P Q (4) hh,NV 9,.bool true,.bool true,.bool true,GX P Q (4) hh,NV (P -4),.bool false,.bool true,.bool true,.bool true,GX P Q (4) hh,iI 0,.bool true,.bool true] [(27,0,.bool true)]) [] [] [false,false,false] (oc g_mv<|oc (g_bn (fun uZ=>Vb _ _ _ 0 0 _ uZ rfl))<|oc g_mv<|oc g_mv<|oc (g_bn (fun uZ=>Vb _ _ _ 0 0 _ uZ rfl))<|oc g_pk<|oc g_mv<|oc (g_ld 1 uN iN)<|oc (g_cl Y0 (fun uZ=>Un 1 uZ (by omega) (by omega)))<|oc (g_bn (eql_same _ _ (1)))<|oc g_pk<|oc g_mv<|oc (g_ld 0 Tryz.underlying26 Z3)<|oc (g_cl Y0 (fun uZ=>Un 9 uZ (by omega) (by omega)))<|oc (g_cb ent_grp_Is hI.out)<|oc g_pk<|oc g_mv<|oc (g_ld 0 Tryz.underlying26 Z3)<|oc (g_ld 2 uN iN)<|oc (g_cb ent_grp_Is hJ.out)<|oc (g_un (fun uZ=>rfl))<|oc g_pk<|oc g_mv<|oc (g_ld 0 Tryz.underlying26 Z3)<|oc (g_cb ent_grp_Check hC.out)<|oc (g_bn (fun uZ=>Vb _ _ _ 0 0 _ uZ rfl))<|oc g_pk<|oc g_as on) fun u4 HB4 _ K4=>?_
 simp only[sQ] at K4⊢
 go_wp2
 refine bodyPost_ret (v:= .bool true) (by simp[results,Tryz.results6,go_sem,]) rfl ⟨rfl,HB4⟩
theorem pr0:Pr P0.toNat:=(cfB_pr chain0_in chain0_ok).2
theorem U7:In P0:=⟨by decide,by decide⟩
theorem In_Q0':In Q0:=⟨by decide,by decide⟩
theorem In_n4:In 4:=⟨by decide,by decide⟩
theorem In_n9:In 9:=⟨by decide,by decide⟩
theorem In_lt{p x:Int}(hp:In p)(h0:0<=x)(h1:x<=p):In x:=⟨h0,Int.lt_of_le_of_lt h1 hp.2⟩
theorem In_Mb{p q x:Int}(hp:In p)(h:Mb p q x):In x:=In_lt hp (by have:=h.1;omega) (by have:=h.2.1;omega)
theorem mb_h0:Mb P0 Q0 (meN P0 [104]):=meN_Mb pr0 g0_ok _
theorem paP0:paP 0=P0:=if_pos rfl
theorem paQ0:paQ 0=Q0:=if_pos rfl
theorem paG0:paG 0=4:=if_pos (.inl rfl)
theorem paH0:paH 0=meN P0 [104]:=if_pos rfl
theorem paE0:paE 0=0:=if_pos (.inl rfl)
theorem works9(w:World)(hP:GPa0 w)(hE:GExp w)(hI:GIs w)(hC:GChk w):CC 6 #[] w (.bool true):=by
 have iH:=In_Mb U7 mb_h0
 refine works9_core P0 Q0 (meN P0 [104]) w U7 In_n4 (by decide) (fun u hB=>?_) (fun u hB=>?_) (fun u hB=>?_) (fun u hB=>?_) (fun u hB=>?_)
 ·exact hP u hB
 ·have:=hE u P0 Q0 4 (meN P0 [104]) 4 0 hB U7 In_Q0' In_n4 iH In_n4 ⟨by decide,by decide⟩
  rw[NV_0] at this
  have e1:isB P0 Q0 4=true:=isB_of g0_ok (is_4 pr0)
  have e2:exPE P0 Q0 4=0:=if_pos e1
  have e3:exPX P0 Q0 4 0=1:=(if_pos e1).trans (by decide)
  rw[e2,e3] at this
  exact this
 ·have:=hI u P0 Q0 4 (meN P0 [104]) 9 hB U7 In_Q0' In_n4 iH In_n9
  rw[isB_of g0_ok (is_9 pr0)] at this
  exact this
 ·have:=hI u P0 Q0 4 (meN P0 [104]) (P0 -4) hB U7 In_Q0' In_n4 iH ⟨by decide,by decide⟩
  rw[is_no pr0] at this
  exact this
 ·have:=hC u P0 Q0 4 (meN P0 [104]) hB U7 In_Q0' In_n4 iH
  have e2:chE P0 Q0=0:=if_pos g0_ok
  rw[e2] at this
  exact this
theorem Xe:EnT 6:=fun _ _=>by kernel_rfl
theorem GPa0.up{w u:World}(h:GPa0 w)(hB:Bw w u):GPa0 u:=fun u2 hB2=>h u2 (Yl hB hB2)
theorem GExp.up{w u:World}(h:GExp w)(hB:Bw w u):GExp u:=fun u2 p q g h' x e hB2=>h u2 p q g h' x e (Yl hB hB2)
theorem GIs.up{w u:World}(h:GIs w)(hB:Bw w u):GIs u:=fun u2 p q g h' x hB2=>h u2 p q g h' x (Yl hB hB2)
theorem GChk.up{w u:World}(h:GChk w)(hB:Bw w u):GChk u:=fun u2 p q g h' hB2=>h u2 p q g h' (Yl hB hB2)
theorem X6:EnT 5:=fun _ _=>by kernel_rfl
end
end Go.Proofs.YtdhlekdohebbbaaGreatDoor
