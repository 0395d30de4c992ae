import Derived.Test.YtclafkfelkmigaaGreatDoorCTP
namespace Go.Proofs.YtclafkfelkmigaaGreatDoor
set_option linter.unusedVariables false
set_option linter.unusedSimpArgs false
set_option maxRecDepth 100000
set_option maxHeartbeats 4000000
open Go.RowKit
theorem Wb:EnT 43:=fun _ _=>by kernel_rfl
def P104(u:World)(v:Value):Prop:=IN u u.heap.size v [104]
theorem P104.stab{u u2:World}{x:Value}(hB:Bw u u2)(h:P104 u x):P104 u2 x:=(IN.below h hB).mono hB.size
theorem bdG3(p q g:Int)(w:World):(Instr.build 43 [(0,NV p),(1,NV q),(2,NV g)].toArray).run Tryz.prog w= .ok (GX p q g 0) w:=by kernel_rfl
theorem W3:EnT 44:=fun _ _=>by kernel_rfl
theorem bs104(w:World):(Instr.buildSlice 91 1 ([0].zip [.int .u8 104]).toArray).run Tryz.prog w= .ok (.slice (some ⟨w.heap.size,0,none⟩) 1 1) (w.alloc (.cells [.int .u8 104].toArray 5)):=by kernel_rfl
theorem in104(u:World):P104 (u.alloc (.cells [.int .u8 104].toArray 5)) (.slice (some ⟨u.heap.size,0,none⟩) 1 1):=
 ⟨_,1,u.heap.size,0,rfl,by simp,.inr rfl,by simp,fun j hj=>by
  have e:j=0:=by simp at hj;omega
  subst e
  exact(CV.new u [.int .u8 104] 5 0 _ rfl).1⟩
theorem xParams_core(k P Q a hh:Int)(n:Nat)(cs:List (Int×Int×Int))(w:World)(hn:Hid (n=cs.length))(h0:0<n)(h20:n<=20)(hc:cat cs (n -1)=(P,Q,a))
 (hX:Hid (∀u,Calls Tryz.prog 43 #[iI k] u fun e u'=> ∃v,e= .returned v/\PT 0 u.heap.size n (flC cs) u' v/\Bw u u'))
 (hM:Hid (∀u v,IN u u.heap.size v [104]->CC 44 #[GX P Q 4 0,v] u (.tuple #[NV hh,iI 0]))):
 CC 20 #[iI k] w (.tuple #[GX P Q 4 hh,iI 0]):=by
 go_enter Tryz.func20,Tryz.ntmps20
 go_upto_region 1 with fail
 obtain⟨v0,hC,HB0,K0⟩:=bx1 w L0g 43
 rw[hC]
 clear hC
 refine Rf K0 HB0 [] [] [(0,9,iI k),(4,12,iI 0),(6,5,iI 0)] [] [] [⟨1,10,none,PT 0 v0.heap.size n (flC cs)⟩,⟨2,8,none,PT 0 v0.heap.size n (flC cs)⟩,⟨3,11,some 5,PS v0.heap.size n (flC cs)⟩,⟨5,4,none,PS v0.heap.size n (flC cs)⟩] [] (hst:=(.cons (fun _ _ _ h1 h2=>h2.stab h1)<| .cons (fun _ _ _ h1 h2=>h2.stab h1)<| .cons (fun _ _ _ h1 h2=>h2.stab h1)<| .cons (fun _ _ _ h1 h2=>h2.stab h1)<|Stab.nil)) (Oc7 g_mv (g_cE 0 (PT 0 v0.heap.size n (flC cs)) Wb (fun u hB hs=>(hX.out u).mono fun e u2 ⟨v,e1,h1,h2⟩=>⟨v,e1,h1.mono hs,h2⟩)) (g_mE 0 1 (PT 0 v0.heap.size n (flC cs))) (g_xE 1 2 (PT 0 v0.heap.size n (flC cs)) (PS v0.heap.size n (flC cs)) PT.fst) (g_xV 1 (PT 0 v0.heap.size n (flC cs)) PT.snd) (g_sE 2 3 (PS v0.heap.size n (flC cs))) g_as) fun u1 v1_1 hv1_1 v1_2 hv1_2 v1_3 hv1_3 v1_5 hv1_5 HB1 _ K1=>?_
 simp only[sQ] at K1⊢
 obtain⟨bl,cl,rfl,l1,l2,l3,l4⟩:=hv1_5 rfl
 have K1xl:=Bk.more3 K0 K1 l1 l2 l4 (by intro x hx;first | (simp at hx;done) | (simp at hx⊢;omega))
 simp only[aK] at K1xl
 go_upto_region 2 with fail
 refine Rn K1xl HB1 [(0,13,iI 0),(1,14,.bool false)] (Oc2 g_mv (g_bn (fun uZ=>Ys _ _ _ 0 0 _ uZ rfl))) fun u2 HB2 _ K2=>?_
 simp only[sQ] at K2⊢
 have hz3:(n:Int) -1=((n -1:Nat):Int):=by omega
 have hR:=flC_get cs (n -1)
 rw[hc] at hR
 have hR:Hid _:=hR
 go_upto_region 4 with fail
 refine Rp K2 HB2 [] [(6,6,L0c,some (7,CE P Q a))] (cG 0 17 [.slice (some ⟨bl,0,none⟩) n cl,.slice (some ⟨bl,0,none⟩) n cl,iI (n:Int),iI ((n -1:Nat):Int),.pointer (some ⟨bl,0+12*(n -1),none⟩),CX P Q a] []) [(7,6)] [] [] (Oc8 g_mv g_mv (g_ln Tryz.underlying85) (g_bn (fun uZ=>Xf _ _ (n:Int) 1 ((n -1:Nat):Int) uZ hz3 (by omega) (by omega))) (g_ix (fun uZ=>ixC bl 0 n cl (n -1) (by omega) uZ)) (g_lR 1 (0+12*(n -1)) (cs:=CE P Q a) ((fun c v hv=>by rw[Nat.zero_add];exact hR.out c v (by have:=hn.out;omega) hv)) Tryz.underlying89 U9) (g_al 0 al_api_Cert) (g_sn 0 U9)) fun u3 b3_6 HB3 _ K3=>?_
 simp only[sQ] at K3⊢
 go_upto_region 5 with fail
 refine Rd K3 HB3 [] [(6,7,L0g,some (7,GE P Q (4) (0)))] (cG 0 23 [.pointer (some ⟨b3_6,0,none⟩),NV P,.pointer (some ⟨b3_6,4,none⟩),NV Q,NV 4,GX P Q (4) (0)] []) [(7,6)] [] [] (Oc8 (g_fd (fdC0 _)) (g_lo 2 0 uN iN) (g_fd (fdC1 _)) (g_lo 2 4 uN iN) (g_cl Va (fun uZ=>Vh 4 uZ (by omega) (by omega))) (g_bd (bdG3 P Q 4)) (g_al 0 T9) (g_sn 0 Z0)) fun u4 b4_6 HB4 _ K4=>?_
 simp only[sQ] at K4⊢
 go_upto_region 6 with fail
 refine Rf K4 HB4 [.no,.no,.no,.all 7 (GE P Q (4) hh)] [] [(0,30,GX P Q (4) (0)),(2,32,.tuple #[NV hh,iI 0]),(3,29,.tuple #[NV hh,iI 0]),(4,33,NV hh),(5,34,iI 0),(6,35,.pointer (some ⟨b4_6,12,none⟩))] [(7,0)] [] [⟨1,31,some 2,P104⟩] [] (hst:=(.cons (fun _ _ _ h1 h2=>h2.stab h1)<|Stab.nil)) (Oc8 (g_ld 3 Tryz.underlying43 Z0) (g_bS 0 P104 [0] [.int .u8 104] bs104 in104) (g_c2 0 P104 W3 (fun uZ yZ _ hZ=>hM.out uZ yZ hZ)) g_mv g_ex g_ex (g_fd (fdG3 _)) (g_sm 3 12 (LN P++LN Q++LN 4) (LN 0) ([]) (post:=LN hh) iN)) fun u5 v5_1 hv5_1 HB5 _ K5=>?_
 simp only[sQ] at K5⊢
 go_upto_region 7 with fail
 refine Rp K5 HB5 [.all 1 (GE P Q (4) hh)] [] [(0,36,GX P Q (4) hh),(2,3,(Go.Value.int Go.IntKind.i64 0))] [] [] [] (Oc3 (g_ld 3 Tryz.underlying43 Z0) (g_st 0 Z0) g_as) fun u6 HB6 _ K6=>?_
 simp only[sQ] at K6⊢
 have c2_0:=((K6.cv 0) 0 _ rfl).1
 have c2_1:=((K6.cv 0) 1 _ rfl).1
 have c2_2:=((K6.cv 0) 2 _ rfl).1
 have c2_3:=((K6.cv 0) 3 _ rfl).1
 have c2_4:=((K6.cv 0) 4 _ rfl).1
 have c2_5:=((K6.cv 0) 5 _ rfl).1
 have c2_6:=((K6.cv 0) 6 _ rfl).1
 have c2_7:=((K6.cv 0) 7 _ rfl).1
 have c2_8:=((K6.cv 0) 8 _ rfl).1
 have c2_9:=((K6.cv 0) 9 _ rfl).1
 have c2_10:=((K6.cv 0) 10 _ rfl).1
 have c2_11:=((K6.cv 0) 11 _ rfl).1
 have c2_12:=((K6.cv 0) 12 _ rfl).1
 have c2_13:=((K6.cv 0) 13 _ rfl).1
 have c2_14:=((K6.cv 0) 14 _ rfl).1
 have c2_15:=((K6.cv 0) 15 _ rfl).1
 go_wp2
 refine bodyPost_ret (v:= .tuple #[GX P Q (4) hh,iI 0]) (by simp[results,Tryz.results20,go_sem,c2_0,c2_1,c2_2,c2_3,c2_4,c2_5,c2_6,c2_7,c2_8,c2_9,c2_10,c2_11,c2_12,c2_13,c2_14,c2_15]) rfl ⟨rfl,HB6⟩
theorem mem104(p q:Int)(hg:gOk p q)(hp:In p)(hq:In q)(u:World)(v:Value)(h:IN u u.heap.size v [104]):
 CC 44 #[GX p q 4 0,v] u (.tuple #[NV (meN p [104]),iI 0]):=by
 exact xMemberK p q 4 0 [104] v u hp hq h (fun x hx=>by simp at hx;omega) (by decide) hg
theorem xParams0(w:World):CC 20 #[iI 0] w (.tuple #[GX P0 Q0 4 (meN P0 [104]),iI 0]):=
 xParams_core 0 P0 Q0 2 (meN P0 [104]) 2 (stp ns0 2) w rfl (by omega) (by omega) rfl (fun u=>xChain0 u) (fun u v h=>mem104 P0 Q0 Ww ⟨by decide,by decide⟩ ⟨by decide,by decide⟩ u v h)
def GChk(w:World):Prop:= ∀u p q g h,Bw w u->In p->In q->In g->In h->CC 51 #[GX p q g h] u (iI (chE p q))
def GExp(w:World):Prop:= ∀u p q g h x e,Bw w u->In p->In q->In g->In h->In x->In e->CC 57 #[GX p q g h,NV x,NV e] u (.tuple #[NV (exPX p q x e),iI (exPE p q x)])
theorem pr0:Pr P0.toNat:=(cfB_pr chain0_in chain0_ok).2
theorem W0:In P0:=⟨by decide,by decide⟩
theorem In_Q0':In Q0:=⟨by decide,by decide⟩
theorem In_n4:In 4:=⟨by decide,by decide⟩
theorem In_lt{p x:Int}(hp:In p)(h0:0<=x)(h1:x<=p):In x:=⟨h0,Int.lt_of_le_of_lt h1 hp.2⟩
theorem In_Mb{p q x:Int}(hp:In p)(h:Mb p q x):In x:=In_lt hp (by have:=h.1;omega) (by have:=h.2.1;omega)
theorem mb_h0:Mb P0 Q0 (meN P0 [104]):=meN_Mb pr0 Ww _
theorem GExp.up{w u:World}(h:GExp w)(hB:Bw w u):GExp u:=fun u2 p q g h' x e hB2=>h u2 p q g h' x e (Z2 hB hB2)
theorem GChk.up{w u:World}(h:GChk w)(hB:Bw w u):GChk u:=fun u2 p q g h' hB2=>h u2 p q g h' (Z2 hB hB2)
section
section
variable {R:Rg} {P:Program} {Q:Exit->Act->World->Prop} {ops:Array Oper} {i:Nat} {o:Oper}
end
def H0:Int:=meN P0 [104]
theorem ent_M1:EnT 20:=fun _ _=>by kernel_rfl
theorem is4:isB P0 Q0 4=true:=decide_eq_true ⟨Ww,is_4 pr0⟩
theorem isH0:isB P0 Q0 H0=true:=decide_eq_true ⟨Ww,mb_h0⟩
theorem In_H0:In H0:=In_Mb W0 mb_h0
end
def dlE(p q g h d:Int)(ss ts:List Int):Int:=if gOk p q then (if ndB d&&shB ss.length ts.length then (if isB p q g&&isB p q h then 0 else 90) else 110) else 90
def dlD(p q g h d:Int)(ss ts:List Int):Int:=if dlE p q g h d ss ts=0 then d else 0
def dlC(p q g h d:Int)(ss ts:List Int):List Int:=if dlE p q g h d ss ts=0 then cmS p q g h ss ts else []
theorem dl_0{d:Int}{ss ts:List Int}(hd:ndB d=true)(hs:shB ss.length ts.length=true):dlE P0 Q0 4 H0 d ss ts=0:=by
 unfold dlE;rw[if_pos Ww,hd,hs,is4,isH0];rfl
theorem set2_K{u:World}{b:Nat}{v0 v1 c0 c1:Value}(h:CV u b [c0,c1]):CV ((u.setCell ⟨b,0,none⟩ v0).setCell ⟨b,1,none⟩ v1) b [v0,v1]:=(h.setC 0 (by simp) v0).setC 1 (by simp) v1
theorem set2_B{m b:Nat}{w u:World}{v0 v1:Value}(h:Below m w u)(hb:m<=b):Below m w ((u.setCell ⟨b,0,none⟩ v0).setCell ⟨b,1,none⟩ v1):=(h.setCell hb v0).setCell hb v1
theorem set2_N{u:World}{b:Nat}{v0 v1:Value}{y:Value}{ns:List Int}(h:NL u y ns)(hb: ∀sl gb go cap,y= .slice sl ns.length cap->sl=some ⟨gb,go,none⟩->ns≠[]->gb≠b):NL ((u.setCell ⟨b,0,none⟩ v0).setCell ⟨b,1,none⟩ v1) y ns:=by
 obtain⟨sl,gb,go,cap,h1,h2,h3,h4,h5,h6⟩:=h
 refine⟨sl,gb,go,cap,h1,h2,h3,h4,h5.imp id fun e=>by simpa using e,fun j v hj=>?_⟩
 by_cases e:ns=[]
 ·subst e;simp[flN] at hj
 ·have hne:=hb sl gb go cap h1 (h4.resolve_left e) e
  have hg:gb<u.heap.size:=h5.resolve_left (fun e2=>e (List.eq_nil_of_length_eq_zero e2))
  have:=h6 j v hj
  have k1:=Below.heap_setCell u ⟨b,0,none⟩ v0 gb hne
  have k2:=Below.heap_setCell (u.setCell ⟨b,0,none⟩ v0) ⟨b,1,none⟩ v1 gb hne
  have e3:((u.setCell ⟨b,0,none⟩ v0).setCell ⟨b,1,none⟩ v1).cell? ⟨gb,go+j,none⟩=u.cell? ⟨gb,go+j,none⟩:=by
   simp only[World.cell?,k2,k1]
  rw[e3];exact this
end Go.Proofs.YtclafkfelkmigaaGreatDoor
