import Derived.Test.YtofcppgfaelloaaGreatDoorAD4
import Derived.Test.YtofcppgfaelloaaGreatDoorTie
import Derived.Test.YtofcppgfaelloaaGreatDoorCards
import Derived.LaidMore
import Derived.SevenTiedAt
namespace Go.Proofs.YtofcppgfaelloaaGreatDoor
set_option linter.unusedVariables false
set_option linter.unusedSimpArgs false
set_option maxRecDepth 100000
set_option maxHeartbeats 4000000
section
open Go.RowKit
def P104 (u:World) (v:Value):Prop:=IN u u.heap.size v [104]
theorem P104.stab {u u2:World} {x:Value} (hB:Bw u u2) (h:P104 u x):P104 u2 x:=(IN.below h hB).mono hB.size
theorem bdG3 (p q g:Int) (w:World):(Instr.build 26 [(0,NV p),(1,NV q),(2,NV g)].toArray).run Tryz.prog w= .ok (GX p q g 0) w:=by kernel_rfl
theorem W7:EnT 18:=fun _ _=>by kernel_rfl
theorem bs104 (w:World):(Instr.buildSlice 43 1 ([0].zip [.int .u8 104]).toArray).run Tryz.prog w= .ok (.slice (some ⟨w.heap.size,0,none⟩) 1 1) (w.alloc (.cells [.int .u8 104].toArray 5)):=by kernel_rfl
theorem in104 (u:World):P104 (u.alloc (.cells [.int .u8 104].toArray 5)) (.slice (some ⟨u.heap.size,0,none⟩) 1 1):=
 ⟨_,1,u.heap.size,0,rfl,by simp,.inr rfl,by simp,fun j hj=>by
  have e:j=0:=by simp at hj;omega
  subst e
  exact(CV.new u [.int .u8 104] 5 0 _ rfl).1⟩
theorem xParams_core (k P Q a hh:Int) (n:Nat) (cs:List (Int×Int×Int)) (w:World) (hn:Hid (n=cs.length)) (h0:0<n) (h20:n<=20) (hc:cat cs (n -1)=(P,Q,a))
 (hX:Hid (∀u,Calls Tryz.prog 64 #[iI k] u fun e u'=> ∃v,e= .returned v/\PT 0 u.heap.size n (flC cs) u' v/\Bw u u'))
 (hM:Hid (∀u v,IN u u.heap.size v [104]->CC 18 #[GX P Q 4 0,v] u (.tuple #[NV hh,iI 0]))):
 CC 43 #[iI k] w (.tuple #[GX P Q 4 hh,iI 0]):=by
 go_enter Tryz.func43,Tryz.ntmps43
 go_upto_region 1 with fail
 obtain⟨v0,hC,HB0,K0⟩:=bx1 w L0g 26
 rw[hC]
 clear hC
 refine Rf K0 HB0 [] [] [(0,9,iI k),(4,12,iI 0),(6,5,iI 0)] [] [] [⟨1,10,none,PT 0 v0.heap.size n (flC cs)⟩,⟨2,8,none,PT 0 v0.heap.size n (flC cs)⟩,⟨3,11,some 5,PS v0.heap.size n (flC cs)⟩,⟨5,4,none,PS v0.heap.size n (flC cs)⟩] [] (hst:=(.cons (fun _ _ _ h1 h2=>h2.stab h1)<| .cons (fun _ _ _ h1 h2=>h2.stab h1)<| .cons (fun _ _ _ h1 h2=>h2.stab h1)<| .cons (fun _ _ _ h1 h2=>h2.stab h1)<|Stab.nil)) (oc g_mv<|oc (g_cE 0 (PT 0 v0.heap.size n (flC cs)) Wd (fun u hB hs=>(hX.out u).mono fun e u2 ⟨v,e1,h1,h2⟩=>⟨v,e1,h1.mono hs,h2⟩))<|oc (g_mE 0 1 (PT 0 v0.heap.size n (flC cs)))<|oc (g_xE 1 2 (PT 0 v0.heap.size n (flC cs)) (PS v0.heap.size n (flC cs)) PT.fst)<|oc (g_xV 1 (PT 0 v0.heap.size n (flC cs)) PT.snd)<|oc (g_sE 2 3 (PS v0.heap.size n (flC cs)))<|oc g_as on) fun u1 v1_1 hv1_1 v1_2 hv1_2 v1_3 hv1_3 v1_5 hv1_5 HB1 _ K1=>?_
 simp only[sQ] at K1⊢
 obtain⟨bl,cl,rfl,l1,l2,l3,l4⟩:=hv1_5 rfl
 have K1xl:=Bk.more3 K0 K1 l1 l2 l4 (by intro x hx;first | (simp at hx;done) | (simp at hx⊢;omega))
 simp only[aK] at K1xl
 go_upto_region 2 with fail
 refine Rn K1xl HB1 [(0,13,iI 0),(1,14,.bool false)] (oc g_mv<|oc (g_bn (fun uZ=>X6 _ _ _ 0 0 _ uZ rfl)) on) fun u2 HB2 _ K2=>?_
 simp only[sQ] at K2⊢
 have hz3:(n:Int) -1=((n -1:Nat):Int):=by omega
 have hR:=flC_get cs (n -1)
 rw[hc] at hR
 have hR:Hid _:=hR
 go_upto_region 4 with fail
 refine Rp K2 HB2 [] [(6,6,L0c,some (7,CE (P) (Q) (a)))] (cG 0 17 [.slice (some ⟨bl,0,none⟩) n cl,.slice (some ⟨bl,0,none⟩) n cl,iI (n:Int),iI ((n -1:Nat):Int),.pointer (some ⟨bl,0+12*(n -1),none⟩),CX (P) (Q) (a)] []) [(7,6)] [] [] (oc g_mv<|oc g_mv<|oc (g_ln Tryz.underlying87)<|oc (g_bn (fun uZ=>Yg _ _ (n:Int) 1 ((n -1:Nat):Int) uZ hz3 (by omega) (by omega)))<|oc (g_ix (fun uZ=>ixC bl 0 n cl (n -1) (by omega) uZ))<|oc (g_lR 1 (0+12*(n -1)) (cs:=CE (P) (Q) (a)) ((fun c v hv=>by rw[Nat.zero_add];exact hR.out c v (by have:=hn.out;omega) hv)) Tryz.underlying91 U9)<|oc (g_al 0 al_api_Cert)<|oc (g_sn 0 U9) on) fun u3 b3_6 HB3 _ K3=>?_
 simp only[sQ] at K3⊢
 go_upto_region 5 with fail
 refine Rd K3 HB3 [] [(6,7,L0g,some (7,GE (P) (Q) (4) (0)))] (cG 0 23 [.pointer (some ⟨b3_6,0,none⟩),NV P,.pointer (some ⟨b3_6,4,none⟩),NV Q,NV 4,GX (P) (Q) (4) (0)] []) [(7,6)] [] [] (oc (g_fd (fdC0 _))<|oc (g_lo 2 0 uN iN)<|oc (g_fd (fdC1 _))<|oc (g_lo 2 4 uN iN)<|oc (g_cl V3 (fun uZ=>Yy 4 uZ (by omega) (by omega)))<|oc (g_bd (bdG3 P Q 4))<|oc (g_al 0 Tb)<|oc (g_sn 0 Z0) on) fun u4 b4_6 HB4 _ K4=>?_
 simp only[sQ] at K4⊢
 go_upto_region 6 with fail
 refine Rf K4 HB4 [.no,.no,.no,.all 7 (GE (P) (Q) (4) (hh))] [] [(0,30,GX (P) (Q) (4) (0)),(2,32,.tuple #[NV hh,iI 0]),(3,29,.tuple #[NV hh,iI 0]),(4,33,NV hh),(5,34,iI 0),(6,35,.pointer (some ⟨b4_6,12,none⟩))] [(7,0)] [] [⟨1,31,some 2,P104⟩] [] (hst:=(.cons (fun _ _ _ h1 h2=>h2.stab h1)<|Stab.nil)) (oc (g_ld 3 Tryz.underlying26 Z0)<|oc (g_bS 0 P104 [0] [.int .u8 104] bs104 in104)<|oc (g_c2 0 P104 W7 (fun uZ yZ _ hZ=>hM.out uZ yZ hZ))<|oc g_mv<|oc g_ex<|oc g_ex<|oc (g_fd (fdG3 _))<|oc (g_sm 3 12 (LN P++LN Q++LN 4) (LN 0) ([]) (post:=LN hh) iN) on) fun u5 v5_1 hv5_1 HB5 _ K5=>?_
 simp only[sQ] at K5⊢
 go_upto_region 7 with fail
 refine Rp K5 HB5 [.all 1 (GE (P) (Q) (4) (hh))] [] [(0,36,GX (P) (Q) (4) (hh)),(2,3,(Go.Value.int Go.IntKind.i64 0))] [] [] [] (oc (g_ld 3 Tryz.underlying26 Z0)<|oc (g_st 0 Z0)<|oc g_as on) fun u6 HB6 _ K6=>?_
 simp only[sQ] at K6⊢
 have c2_0:=((K6.cv 0) 0 _ rfl).1
 have c2_1:=((K6.cv 0) 1 _ rfl).1
 have c2_2:=((K6.cv 0) 2 _ rfl).1
 have c2_3:=((K6.cv 0) 3 _ rfl).1
 have c2_4:=((K6.cv 0) 4 _ rfl).1
 have c2_5:=((K6.cv 0) 5 _ rfl).1
 have c2_6:=((K6.cv 0) 6 _ rfl).1
 have c2_7:=((K6.cv 0) 7 _ rfl).1
 have c2_8:=((K6.cv 0) 8 _ rfl).1
 have c2_9:=((K6.cv 0) 9 _ rfl).1
 have c2_10:=((K6.cv 0) 10 _ rfl).1
 have c2_11:=((K6.cv 0) 11 _ rfl).1
 have c2_12:=((K6.cv 0) 12 _ rfl).1
 have c2_13:=((K6.cv 0) 13 _ rfl).1
 have c2_14:=((K6.cv 0) 14 _ rfl).1
 have c2_15:=((K6.cv 0) 15 _ rfl).1
 go_wp2
 refine bodyPost_ret (v:= .tuple #[GX (P) (Q) (4) (hh),iI 0]) (by simp[results,Tryz.results43,go_sem,c2_0,c2_1,c2_2,c2_3,c2_4,c2_5,c2_6,c2_7,c2_8,c2_9,c2_10,c2_11,c2_12,c2_13,c2_14,c2_15]) rfl ⟨rfl,HB6⟩
theorem mem104 (p q:Int) (hg:gOk p q) (hp:In p) (hq:In q) (u:World) (v:Value) (h:IN u u.heap.size v [104]):
 CC 18 #[GX p q 4 0,v] u (.tuple #[NV (meN p [104]),iI 0]):=by
 have h1:=xMemberG p q 4 0 [104] v u hp hq h (fun x hx=>by simp at hx;omega) (by decide)
 have e1:meX p q [104]=meN p [104]:=if_pos hg
 have e2:chE p q=0:=if_pos hg
 rw[e1,e2] at h1
 exact h1
theorem xParams0 (w:World):CC 43 #[iI 0] w (.tuple #[GX P0 Q0 4 (meN P0 [104]),iI 0]):=
 xParams_core 0 P0 Q0 2 (meN P0 [104]) 2 (stp ns0 2) w rfl (by omega) (by omega) rfl (fun u=>xChain0 u) (fun u v h=>mem104 P0 Q0 g0_ok ⟨by decide,by decide⟩ ⟨by decide,by decide⟩ u v h)
def GExp (w:World):Prop:= ∀u p q g h x e,Bw w u->In p->In q->In g->In h->In x->In e->CC 49 #[GX p q g h,NV x,NV e] u (.tuple #[NV (exPX p q x e),iI (exPE p q x)])
theorem pr0:Pr P0.toNat:=(cfB_pr chain0_in chain0_ok).2
theorem Td:In P0:=⟨by decide,by decide⟩
theorem In_Q0':In Q0:=⟨by decide,by decide⟩
theorem In_n4:In 4:=⟨by decide,by decide⟩
theorem In_n9:In 9:=⟨by decide,by decide⟩
theorem In_lt {p x:Int} (hp:In p) (h0:0<=x) (h1:x<=p):In x:=⟨h0,Int.lt_of_le_of_lt h1 hp.2⟩
theorem In_Mb {p q x:Int} (hp:In p) (h:Mb p q x):In x:=In_lt hp (by have:=h.1;omega) (by have:=h.2.1;omega)
theorem mb_h0:Mb P0 Q0 (meN P0 [104]):=meN_Mb pr0 g0_ok _
theorem GExp.up {w u:World} (h:GExp w) (hB:Bw w u):GExp u:=fun u2 p q g h' x e hB2=>h u2 p q g h' x e (Ye hB hB2)
def Hz:Int:=meN P0 [104]
theorem Q0n:Q0≠0:=by decide
theorem mbz4:Mb P0 Q0 4:=is_4 pr0
theorem mbz9:Mb P0 Q0 9:=is_9 pr0
theorem mbzH:Mb P0 Q0 Hz:=mb_h0
theorem In_Hz:In Hz:=In_Mb Td mb_h0
theorem isz4:isB P0 Q0 4=true:=X7 g0_ok mbz4
theorem iszH:isB P0 Q0 Hz=true:=X7 g0_ok mbzH
theorem mb3z {b:Int} (h:Mb P0 Q0 b):mbL P0 Q0 [4,Hz,b]=true:=by simp[mbL,isz4,iszH,X7 g0_ok h]
theorem mb5z {b u k:Int} (h:Mb P0 Q0 b) (h1:Mb P0 Q0 u) (h2:Mb P0 Q0 k):mbL P0 Q0 [4,Hz,b,u,k]=true:=mb5 g0_ok mbz4 mbzH h h1 h2
theorem In5 {n:Int} (h0:0<=n) (h1:n<1000000):In n:=⟨h0,by omega⟩
theorem fldQp {o:Oper} {ev:Operand->Value} {x:Operand} {p q g h:Int} (u:World) (ho:o.op= .field 26 x 1) (hx:ev x=GX p q g h):(execOp ev o).run Tryz.prog u= .ok (.value (NV q)) u:=by
 have k:(Instr.field 26 (GX p q g h) 1).run Tryz.prog u= .ok (NV q) u:=by kernel_rfl
 unfold execOp;rw[ho];simp only[hx,Sem.run_bind,k,Result.andThen_ok,Sem.run_pure]
theorem ent_XA:EnT 43:=fun _ _=>by kernel_rfl
theorem ent_XB:EnT 19:=fun _ _=>by kernel_rfl
theorem ent_XC:EnT 9:=fun _ _=>by kernel_rfl
theorem ent_XD:EnT 16:=fun _ _=>by kernel_rfl
theorem ent_XE:EnT 21:=fun _ _=>by kernel_rfl
theorem Vs:EnT 23:=fun _ _=>by kernel_rfl
theorem the13_core (p q g h:Int) (w:World) (hP:Hid (∀u,CC 43 #[.int .i64 0] u (.tuple #[GX p q g h,.int .i64 0]))):
 CC 19 #[] w (GX p q g h):=by
 go_enter Tryz.func19,Tryz.ntmps19
 go_upto_region 1 with fail
 obtain⟨v0,hC,HB0,K0⟩:=bx1 w L0g 26
 rw[hC]
 clear hC
 refine rgP K0 HB0 HB0.size [] [(4,1,L0g,some (5,GE (p) (q) (g) (h)))] [(0,4,.tuple #[GX (p) (q) (g) (h),.int .i64 0]),(1,3,.tuple #[GX (p) (q) (g) (h),.int .i64 0]),(2,5,GX (p) (q) (g) (h)),(3,6,.int .i64 0),(6,2,.int .i64 0)] [(5,4)] [] [] ?_ ?_
 ·exact oc (g_cl ent_XA (fun uZ=>hP.out uZ))<|oc g_mv<|oc g_ex<|oc g_ex<|oc (g_al 0 Tb)<|oc (g_sn 0 Z0)<|oc g_as on
 intro u1 b1_4 HB1 sz1 K1
 simp only[sQ] at K1⊢
 clear K0 HB0
 go_upto_region 2 with fail
 refine rgP K1 HB1 HB1.size [.all 1 (GE (p) (q) (g) (h))] [] [(0,7,GX (p) (q) (g) (h))] [] [] [] ?_ ?_
 ·exact oc (g_ld 1 Tryz.underlying26 Z0)<|oc (g_st 0 Z0) on
 intro u2 HB2 sz2 K2
 simp only[sQ] at K2⊢
 clear K1 HB1
 have c0_0:=((K2.cv 0) 0 _ rfl).1
 have c0_1:=((K2.cv 0) 1 _ rfl).1
 have c0_2:=((K2.cv 0) 2 _ rfl).1
 have c0_3:=((K2.cv 0) 3 _ rfl).1
 have c0_4:=((K2.cv 0) 4 _ rfl).1
 have c0_5:=((K2.cv 0) 5 _ rfl).1
 have c0_6:=((K2.cv 0) 6 _ rfl).1
 have c0_7:=((K2.cv 0) 7 _ rfl).1
 have c0_8:=((K2.cv 0) 8 _ rfl).1
 have c0_9:=((K2.cv 0) 9 _ rfl).1
 have c0_10:=((K2.cv 0) 10 _ rfl).1
 have c0_11:=((K2.cv 0) 11 _ rfl).1
 have c0_12:=((K2.cv 0) 12 _ rfl).1
 have c0_13:=((K2.cv 0) 13 _ rfl).1
 have c0_14:=((K2.cv 0) 14 _ rfl).1
 have c0_15:=((K2.cv 0) 15 _ rfl).1
 go_wp2
 refine bodyPost_ret (v:=GX (p) (q) (g) (h)) (by simp[results,Tryz.results19,go_sem,c0_0,c0_1,c0_2,c0_3,c0_4,c0_5,c0_6,c0_7,c0_8,c0_9,c0_10,c0_11,c0_12,c0_13,c0_14,c0_15]) rfl ⟨rfl,HB2⟩
theorem cThez (w:World):CC 19 #[] w (GX P0 Q0 4 Hz):=the13_core P0 Q0 4 Hz w fun u=>xParams0 u
theorem works13_core (P Q g h c y z k:Int) (w:World) (hT:Hid (∀u,CC 19 #[] u (GX P Q g h)))(hP:Hid (∀u,Bw w u->CC 9 #[GX P Q g h,NV 9,NV 5,NV 6,NV 7,NV 8] u (.tuple #[NV 59049,CX c y z,.int .i64 0])))(hC:Hid (∀u,CC 21 #[GX P Q g h,NV 5,NV 6] u (.tuple #[NV k,.int .i64 0])))(hK:Hid (∀u,Bw w u->CC 16 #[GX P Q g h,NV 9,NV 59049,NV k,CX c y z] u (.int .i64 0)))(hK2:Hid (∀u,Bw w u->CC 16 #[GX P Q g h,NV 9,NV 59049,NV k,CX Q 0 0] u (.int .i64 130))):
 CC 13 #[] w (.bool true):=by
 go_enter Tryz.func13,Tryz.ntmps13
 have HB0:Bw w w:=Below.refl _ _
 have K0_1:=Bk.nil (w.heap.size) w
 go_upto_region 1 with fail
 refine rgP K0_1 HB0 HB0.size [] [] [(0,1,.func (.func 23) #[] #[])] [] [] [] ?_ ?_
 ·exact oc g_as on
 intro u1 HB1 sz1 K1
 simp only[sQ] at K1⊢
 clear HB0
 go_upto_region 2 with fail
 refine rgP K1 HB1 HB1.size [] [(16,2,L0s,some (18,LN (59049))),(17,3,L0c,some (19,CE (c) (y) (z)))] [(0,9,GX (P) (Q) (g) (h)),(1,10,.func (.func 23) #[] #[]),(2,11,NV (9)),(3,12,.func (.func 23) #[] #[]),(4,13,NV (5)),(5,14,.func (.func 23) #[] #[]),(6,15,NV (6)),(7,16,.func (.func 23) #[] #[]),(8,17,NV (7)),(9,18,.func (.func 23) #[] #[]),(10,19,NV (8)),(11,20,.tuple #[NV (59049),CX (c) (y) (z),.int .i64 0]),(12,8,.tuple #[NV (59049),CX (c) (y) (z),.int .i64 0]),(13,21,NV (59049)),(14,22,CX (c) (y) (z)),(15,23,.int .i64 0),(20,4,.int .i64 0)] [(18,16),(19,17)] [] [] ?_ ?_
 ·exact oc (g_cl ent_XB (fun uZ=>hT.out uZ))<|oc g_mv<|oc (g_cv (first:=[]) Vs (fun fZ uZ kZ sZ=>Yy 9 uZ (by omega) (by omega)))<|oc g_mv<|oc (g_cv (first:=[]) Vs (fun fZ uZ kZ sZ=>Yy 5 uZ (by omega) (by omega)))<|oc g_mv<|oc (g_cv (first:=[]) Vs (fun fZ uZ kZ sZ=>Yy 6 uZ (by omega) (by omega)))<|oc g_mv<|oc (g_cv (first:=[]) Vs (fun fZ uZ kZ sZ=>Yy 7 uZ (by omega) (by omega)))<|oc g_mv<|oc (g_cv (first:=[]) Vs (fun fZ uZ kZ sZ=>Yy 8 uZ (by omega) (by omega)))<|oc (g_cb ent_XC (fun uZ bZ=>hP.out uZ bZ))<|oc g_mv<|oc g_ex<|oc g_ex<|oc g_ex<|oc (g_al 0 aN)<|oc (g_al 1 W1)<|oc (g_sn 0 iN)<|oc (g_sn 1 Zd)<|oc g_as on
 intro u2 b2_16 b2_17 HB2 sz2 K2
 simp only[sQ] at K2⊢
 clear K1 HB1
 go_upto_region 3 with fail
 refine rgP K2 HB2 HB2.size [] [(9,5,L0s,some (10,LN (k)))] [(0,25,GX (P) (Q) (g) (h)),(1,26,.func (.func 23) #[] #[]),(2,27,NV (5)),(3,28,.func (.func 23) #[] #[]),(4,29,NV (6)),(5,30,.tuple #[NV (k),.int .i64 0]),(6,24,.tuple #[NV (k),.int .i64 0]),(7,31,NV (k)),(8,32,.int .i64 0),(11,6,.int .i64 0)] [(10,9)] [] [] ?_ ?_
 ·exact oc (g_cl ent_XB (fun uZ=>hT.out uZ))<|oc g_mv<|oc (g_cv (first:=[]) Vs (fun fZ uZ kZ sZ=>Yy 5 uZ (by omega) (by omega)))<|oc g_mv<|oc (g_cv (first:=[]) Vs (fun fZ uZ kZ sZ=>Yy 6 uZ (by omega) (by omega)))<|oc (g_cl ent_XE (fun uZ=>hC.out uZ))<|oc g_mv<|oc g_ex<|oc g_ex<|oc (g_al 0 aN)<|oc (g_sn 0 iN)<|oc g_as on
 intro u3 b3_9 HB3 sz3 K3
 simp only[sQ] at K3⊢
 clear K2 HB2
 go_upto_region 4 with fail
 refine rgD K3 HB3 HB3.size [] [] [(0,33,GX (P) (Q) (g) (h)),(1,34,.func (.func 23) #[] #[]),(2,35,NV (9)),(3,36,NV (59049)),(4,37,NV (k)),(5,38,CX (c) (y) (z)),(6,39,.int .i64 0),(7,7,.int .i64 0)] [] [] [] ?_ ?_
 ·exact oc (g_cl ent_XB (fun uZ=>hT.out uZ))<|oc g_mv<|oc (g_cv (first:=[]) Vs (fun fZ uZ kZ sZ=>Yy 9 uZ (by omega) (by omega)))<|oc (g_ld 0 uN iN)<|oc (g_ld 2 uN iN)<|oc (g_ld 1 Tryz.underlying30 Zd)<|oc (g_cb ent_XD (fun uZ bZ=>hK.out uZ bZ))<|oc g_as on
 intro u4 HB4 sz4 K4
 simp only[sQ] at K4⊢
 clear K3 HB3
 go_upto_region 5 with fail
 refine rgD K4 HB4 HB4.size [] [] [(0,40,NV (59049)),(1,41,.func (.func 23) #[] #[]),(2,42,NV (59049)),(3,43,.bool true),(4,44,.bool true),(5,45,.int .i64 0),(6,46,.bool true),(7,47,.bool true),(8,48,.bool true),(9,49,.int .i64 0),(10,50,.bool true),(11,51,.bool true),(12,52,.bool true),(13,53,GX (P) (Q) (g) (h)),(14,54,.func (.func 23) #[] #[]),(15,55,NV (9)),(16,56,NV (59049)),(17,57,NV (k)),(18,58,GX (P) (Q) (g) (h)),(19,59,NV (Q)),(20,60,CX (Q) (0) (0)),(21,61,.int .i64 130),(22,62,.bool true),(23,63,.bool true),(24,0,.bool true)] [] [] [] ?_ ?_
 ·exact oc (g_ld 0 uN iN)<|oc g_mv<|oc (g_cv (first:=[]) Vs (fun fZ uZ kZ sZ=>Yy 59049 uZ (by omega) (by omega)))<|oc (g_bn (fun uZ=>Ub _ _ (59049) uZ))<|oc g_mv<|oc g_mv<|oc (g_bn (fun uZ=>eql_i _ _ _ 0 0 true uZ rfl))<|oc g_pk<|oc g_mv<|oc g_mv<|oc (g_bn (fun uZ=>eql_i _ _ _ 0 0 true uZ rfl))<|oc g_pk<|oc g_mv<|oc (g_cl ent_XB (fun uZ=>hT.out uZ))<|oc g_mv<|oc (g_cv (first:=[]) Vs (fun fZ uZ kZ sZ=>Yy 9 uZ (by omega) (by omega)))<|oc (g_ld 0 uN iN)<|oc (g_ld 2 uN iN)<|oc (g_cl ent_XB (fun uZ=>hT.out uZ))<|oc (g_op (fun ev uZ he=>fldQp uZ rfl (he _ _ rfl)))<|oc (g_bd (fun uZ=>bdP1z Q uZ))<|oc (g_cb ent_XD (fun uZ bZ=>hK2.out uZ bZ))<|oc (g_bn (fun uZ=>eql_i _ _ _ 130 130 true uZ rfl))<|oc g_pk<|oc g_as on
 intro u5 HB5 sz5 K5
 simp only[sQ] at K5⊢
 clear K4 HB4
 go_wp2
 refine bodyPost_ret (v:= .bool true) (by simp[results,Tryz.results13,go_sem,]) rfl ⟨rfl,HB5⟩
theorem pw_595:pwZ P0 Q0 9 5=59049:=by decide
theorem pProve0 (b s t x y:Int) (w:World) (hK:GK w) (hm:Mb P0 Q0 b) (hs:In s) (ht:In t) (hx:In x) (hy:In y):CC 9 #[GX P0 Q0 4 Hz,NV b,NV s,NV t,NV x,NV y] w (.tuple #[NV (pwZ P0 Q0 b s),CX (pvC P0 Q0 4 Hz b s t x y) (pvY Q0 x (pvC P0 Q0 4 Hz b s t x y) s) (pvY Q0 y (pvC P0 Q0 4 Hz b s t x y) t),.int .i64 0]):=
 pProve P0 Q0 4 Hz b s t x y w hK Td In_Q0' In_n4 In_Hz (InMb Td hm) hs ht hx hy (mb3z hm)
theorem xCom0 (s t:Int) (w:World) (hs:In s) (ht:In t):CC 21 #[GX P0 Q0 4 Hz,NV s,NV t] w (.tuple #[NV (cmN P0 Q0 4 Hz s t),.int .i64 0]):=by
 have h:=xCommit P0 Q0 4 Hz s t w Td In_Q0' In_n4 In_Hz hs ht
 unfold coX coE at h
 rw[isz4,iszH] at h
 exact h
theorem In_pvC (b s t x y:Int):In (pvC P0 Q0 4 Hz b s t x y):=In_ch In_Q0' _
theorem In_pvY (x c s:Int):In (pvY Q0 x c s):=In_md In_Q0' Q0n
theorem works13 (w:World) (hK:GK w):CC 13 #[] w (.bool true):=by
 have i5:In 5:=In5 (by decide) (by decide)
 have i6:In 6:=In5 (by decide) (by decide)
 have i7:In 7:=In5 (by decide) (by decide)
 have i8:In 8:=In5 (by decide) (by decide)
 have hu:=pw_Mb g0_ok mbz9 5
 rw[pw_595] at hu
 have hk:=cm_Mb g0_ok mbz4 mbzH 5 6
 have iu:In 59049:=InMb Td hu
 have ik:=InMb Td hk
 refine works13_core P0 Q0 4 Hz (pvC P0 Q0 4 Hz 9 5 6 7 8) (pvY Q0 7 (pvC P0 Q0 4 Hz 9 5 6 7 8) 5) (pvY Q0 8 (pvC P0 Q0 4 Hz 9 5 6 7 8) 6) (cmN P0 Q0 4 Hz 5 6) w (fun u=>cThez u) (fun u hB=>?_) (fun u=>xCom0 5 6 u i5 i6) (fun u hB=>?_) (fun u hB=>?_)
 ·have h:=pProve0 9 5 6 7 8 u (hK.up hB) mbz9 i5 i6 i7 i8
  rw[pw_595] at h;exact h
 ·have h:=pCheck P0 Q0 4 Hz 9 59049 _ _ _ _ u (hK.up hB) Td In_Q0' In_n4 In_Hz In_n9 iu ik (In_pvC 9 5 6 7 8) (In_pvY 7 (pvC P0 Q0 4 Hz 9 5 6 7 8) 5) (In_pvY 8 (pvC P0 Q0 4 Hz 9 5 6 7 8) 6)
  have e:=ck_pv g0_ok mbz4 mbzH mbz9 5 6 7 8
  rw[pw_595] at e
  rw[e] at h;exact h
 ·have h:=pCheck P0 Q0 4 Hz 9 59049 _ Q0 0 0 u (hK.up hB) Td In_Q0' In_n4 In_Hz In_n9 iu ik In_Q0' (In5 (by decide) (by decide)) (In5 (by decide) (by decide))
  have e:ckE P0 Q0 4 Hz 9 59049 (cmN P0 Q0 4 Hz 5 6) Q0 0 0=130:=by
   unfold ckE
   rw[mb5z mbz9 hu hk,if_pos rfl,ckB,decide_eq_false (show ¬Q0<Q0 by decide)];rfl
  rw[e] at h;exact h
theorem ent_WA:EnT 13:=fun _ _=>by kernel_rfl
theorem ent_WB:EnT 14:=fun _ _=>by kernel_rfl
theorem ent_WC:EnT 11:=fun _ _=>by kernel_rfl
theorem eqNz (a b c d x y z t:Int) (w:World):(Op.equalIn 9999 24 (A4 a b c d) (A4 x y z t)).run Tryz.prog w= .ok (eq4 a b c d x y z t) w:=by
 have u3:=Tryz.underlying22
 have a3:=Tryz.isAgg22
 have z3:=Tryz.sizeOf22
 unfold eq4
 rw[show (9999:Nat)=9998+1 from rfl,Op.equalIn]
 simp only[Sem.run_bind,run_underlying Tryz.underlying24,Result.andThen_ok]
 simp only[Std.Legacy.Range.forIn_eq_forIn_range',Std.Legacy.Range.size,Nat.sub_zero,Nat.add_sub_cancel,Nat.div_one,List.range'_succ,List.range'_zero,List.forIn_cons,List.forIn_nil]
 go_simp
 by_cases h1:a=x<;>by_cases h2:b=y<;>by_cases h3:c=z<;>by_cases h4:d=t<;>simp[h1,h2,h3,h4]
abbrev PtE (x y:Int):List Value:=[.int .u64 (D0 x),.int .u64 (D1 x),.int .u64 (D2 x),.int .u64 (D3 x),.int .u64 (D0 y),.int .u64 (D1 y),.int .u64 (D2 y),.int .u64 (D3 y)]
abbrev PtX (x y:Int):Value:= .agg #[.int .u64 (D0 x),.int .u64 (D1 x),.int .u64 (D2 x),.int .u64 (D3 x),.int .u64 (D0 y),.int .u64 (D1 y),.int .u64 (D2 y),.int .u64 (D3 y)]
theorem ent_WJ:EnT 15:=fun _ _=>by kernel_rfl
theorem ent_WK:EnT 17:=fun _ _=>by kernel_rfl
theorem ent_WL:EnT 10:=fun _ _=>by kernel_rfl
theorem ent_WM:EnT 12:=fun _ _=>by kernel_rfl
theorem L0cX:(.agg L0c.toArray:Value)=CX 0 0 0:=by
 have e: ∀n,D0 n=n%18446744073709551616:=fun _=>rfl
 rw[show CX 0 0 0= .agg (LN 0++LN 0++LN 0).toArray from rfl,show LN 0=[.int .u64 0,.int .u64 0,.int .u64 0,.int .u64 0] by simp[D0,D1,D2,D3]];rfl
theorem eqPfs (p q:Operand) {c y z:Int} (i1:In c) (i2:In y) (i3:In z) (w:World):(do eqGuard .eql 30 p q (CX c y z) (CX c y z);binOp .eql 30 (CX c y z) (CX c y z):Sem Value).run Tryz.prog w= .ok (.bool true) w:=by
 have k1:=eqNz (D0 c) (D1 c) (D2 c) (D3 c) (D0 c) (D1 c) (D2 c) (D3 c) w
 have k2:=eqNz (D0 y) (D1 y) (D2 y) (D3 y) (D0 y) (D1 y) (D2 y) (D3 y) w
 have k3:=eqNz (D0 z) (D1 z) (D2 z) (D3 z) (D0 z) (D1 z) (D2 z) (D3 z) w
 rw[eq4_N i1 i1] at k1
 rw[eq4_N i2 i2] at k2
 rw[eq4_N i3 i3] at k3
 go_simp
theorem ix2z (b k:Nat) (w:World) (h:k<2):(Instr.indexAt 27 (.pointer (some ⟨b,0,none⟩)) (.int .i64 k)).run Tryz.prog w= .ok (.pointer (some ⟨b,4*k,none⟩)) w:=by
 have h2:(k:Int)<2:=by omega
 have e:k*4=4*k:=by omega
 go_simp
theorem bsF0 (w:World):(Instr.buildSlice 28 0 ([].zip []).toArray).run Tryz.prog w= .ok (.slice (some ⟨w.heap.size,0,none⟩) 0 0) (w.alloc (.cells (flN []).toArray 24)):=by kernel_rfl
theorem i00:In 0:=⟨by decide,by decide⟩
theorem forgeA (p q g h b xu xk c y z:Int) (w:World) (hK:GK w) (hp:In p) (hq:In q) (hg:In g) (hh:In h) (hb:In b) (hu:In xu) (hk:In xk) (hc:In c) (hy:In y) (hz:In z): ∃V W E:Int,(∀u,Bw w u->CC 14 #[GX p q g h,NV b,NV xu,NV xk,NV c,NV y,NV z] u (.tuple #[NV V,NV W,.int .i64 E]))/\ ∀u,CC 15 #[GX p q g h,NV b,NV xu,NV xk,NV c,NV y,NV z] u (.tuple #[NV V,NV W,.int .i64 E]):=by
 cases hm:mbL p q [g,h,b,xu,xk] with
 | false=>exact⟨0,0,90,fun u hB=>by rw[NV_0];exact pForge_n p q g h b xu xk c y z u (hK.up hB) hp hq hg hh hb hu hk hc hy hz hm,fun u=>by rw[NV_0];exact xForge_n p q g h b xu xk c y z u hp hq hg hh hb hu hk hm⟩
 | true=>exact⟨_,_,_,fun u hB=>pForge p q g h b xu xk c y z u (hK.up hB) hp hq hg hh hb hu hk hc hy hz hm,fun u=>xForge p q g h b xu xk c y z u hp hq hg hh hb hu hk hc hy hz hm⟩
theorem proveA (p q g h b s t x y:Int) (w:World) (hK:GK w) (hp:In p) (hq:In q) (hg:In g) (hh:In h) (hb:In b) (hs:In s) (ht:In t) (hx:In x) (hy:In y): ∃U C Y Z E:Int,In C/\In Y/\In Z/\(∀u,Bw w u->CC 9 #[GX p q g h,NV b,NV s,NV t,NV x,NV y] u (.tuple #[NV U,CX C Y Z,.int .i64 E]))/\ ∀u,CC 10 #[GX p q g h,NV b,NV s,NV t,NV x,NV y] u (.tuple #[NV U,CX C Y Z,.int .i64 E]):=by
 cases hm:mbL p q [g,h,b] with
 | false=>exact⟨0,0,0,0,90,i00,i00,i00,fun u hB=>by rw[NV_0,<-L0cX];exact pProve_n p q g h b s t x y u (hK.up hB) hp hq hg hh hb hs ht hm,fun u=>by rw[NV_0,<-L0cX];exact xProve_n p q g h b s t x y u hp hq hg hh hb hm⟩
 | true=>
  have h3:=(mbL_g hm).q3
  have hq0:q≠0:=by omega
  exact⟨_,_,_,_,_,In_ch hq _,In_md hq hq0,In_md hq hq0,fun u hB=>pProve p q g h b s t x y u (hK.up hB) hp hq hg hh hb hs ht hx hy hm,fun u=>xProve p q g h b s t x y u hp hq hg hh hb hs ht hx hy hm⟩
theorem checks_core (p q g h b xu xk c y z xv w2 er f:Int) (w:World) (hF:Hid (∀u,Bw w u->CC 14 #[GX p q g h,NV b,NV xu,NV xk,NV c,NV y,NV z] u (.tuple #[NV xv,NV w2,.int .i64 er])))(hF2:Hid (∀u,CC 15 #[GX p q g h,NV b,NV xu,NV xk,NV c,NV y,NV z] u (.tuple #[NV xv,NV w2,.int .i64 er])))(hK:Hid (∀u,Bw w u->CC 16 #[GX p q g h,NV b,NV xu,NV xk,CX c y z] u (.int .i64 f)))(hK2:Hid (∀u,CC 17 #[GX p q g h,NV b,NV xu,NV xk,CX c y z] u (.int .i64 f)))(hW:Hid (∀u,Bw w u->CC 13 #[] u (.bool true))):
 CC 4 #[GX p q g h,NV b,NV xu,NV xk,CX c y z] w (.bool true):=by
 go_enter Tryz.func4,Tryz.ntmps4
 go_upto_region 1 with fail
 obtain⟨v0,hC,HB0,K0⟩:=bx5 w (GE (p) (q) (g) (h)) 26 (LN (b)) 24 (LN (xu)) 24 (LN (xk)) 24 (CE (c) (y) (z)) 30
 rw[hC]
 clear hC
 refine rgP K0 HB0 HB0.size [] [(15,11,L0s,some (17,LN (xv))),(16,12,L0s,some (18,LN (w2)))] [(0,18,GX (p) (q) (g) (h)),(1,19,NV (b)),(2,20,NV (xu)),(3,21,NV (xk)),(4,22,.pointer (some ⟨w.heap.size+1+1+1+1,0,none⟩)),(5,23,NV (c)),(6,24,.pointer (some ⟨w.heap.size+1+1+1+1,4,none⟩)),(7,25,NV (y)),(8,26,.pointer (some ⟨w.heap.size+1+1+1+1,8,none⟩)),(9,27,NV (z)),(10,28,.tuple #[NV (xv),NV (w2),.int .i64 er]),(11,17,.tuple #[NV (xv),NV (w2),.int .i64 er]),(12,29,NV (xv)),(13,30,NV (w2)),(14,31,.int .i64 er),(19,13,.int .i64 er)] [(17,15),(18,16)] [] [] ?_ ?_
 ·exact oc (g_ld 0 Tryz.underlying26 Z0)<|oc (g_ld 1 uN iN)<|oc (g_ld 2 uN iN)<|oc (g_ld 3 uN iN)<|oc (g_fd (fun uZ=>fdP0 _ uZ))<|oc (g_lo 4 0 uN iN)<|oc (g_fd (fun uZ=>fdP1 _ uZ))<|oc (g_lo 4 4 uN iN)<|oc (g_fd (fun uZ=>fdP2 _ uZ))<|oc (g_lo 4 8 uN iN)<|oc (g_cb ent_WB (fun uZ bZ=>hF.out uZ bZ))<|oc g_mv<|oc g_ex<|oc g_ex<|oc g_ex<|oc (g_al 0 aN)<|oc (g_al 1 aN)<|oc (g_sn 0 iN)<|oc (g_sn 1 iN)<|oc g_as on
 intro u1 b1_15 b1_16 HB1 sz1 K1
 simp only[sQ] at K1⊢
 clear K0 HB0
 go_upto_region 2 with fail
 refine rgP K1 HB1 HB1.size [] [(15,14,L0s,some (17,LN (xv))),(16,15,L0s,some (18,LN (w2)))] [(0,33,GX (p) (q) (g) (h)),(1,34,NV (b)),(2,35,NV (xu)),(3,36,NV (xk)),(4,37,.pointer (some ⟨w.heap.size+1+1+1+1,0,none⟩)),(5,38,NV (c)),(6,39,.pointer (some ⟨w.heap.size+1+1+1+1,4,none⟩)),(7,40,NV (y)),(8,41,.pointer (some ⟨w.heap.size+1+1+1+1,8,none⟩)),(9,42,NV (z)),(10,43,.tuple #[NV (xv),NV (w2),.int .i64 er]),(11,32,.tuple #[NV (xv),NV (w2),.int .i64 er]),(12,44,NV (xv)),(13,45,NV (w2)),(14,46,.int .i64 er),(19,16,.int .i64 er)] [(17,15),(18,16)] [] [] ?_ ?_
 ·exact oc (g_ld 0 Tryz.underlying26 Z0)<|oc (g_ld 1 uN iN)<|oc (g_ld 2 uN iN)<|oc (g_ld 3 uN iN)<|oc (g_fd (fun uZ=>fdP0 _ uZ))<|oc (g_lo 4 0 uN iN)<|oc (g_fd (fun uZ=>fdP1 _ uZ))<|oc (g_lo 4 4 uN iN)<|oc (g_fd (fun uZ=>fdP2 _ uZ))<|oc (g_lo 4 8 uN iN)<|oc (g_cl ent_WJ (fun uZ=>hF2.out uZ))<|oc g_mv<|oc g_ex<|oc g_ex<|oc g_ex<|oc (g_al 0 aN)<|oc (g_al 1 aN)<|oc (g_sn 0 iN)<|oc (g_sn 1 iN)<|oc g_as on
 intro u2 b2_15 b2_16 HB2 sz2 K2
 simp only[sQ] at K2⊢
 clear K1 HB1
 go_upto_region 3 with fail
 refine rgD K2 HB2 HB2.size [] [] [(0,47,NV (xv)),(1,48,NV (xv)),(2,49,.bool true),(3,50,.bool true),(4,51,NV (w2)),(5,52,NV (w2)),(6,53,.bool true),(7,54,.bool true),(8,55,.bool true),(9,56,.int .i64 er),(10,57,.int .i64 er),(11,58,.bool true),(12,59,.bool true),(13,60,.bool true),(14,61,GX (p) (q) (g) (h)),(15,62,NV (b)),(16,63,NV (xu)),(17,64,NV (xk)),(18,65,CX (c) (y) (z)),(19,66,.int .i64 f),(20,67,GX (p) (q) (g) (h)),(21,68,NV (b)),(22,69,NV (xu)),(23,70,NV (xk)),(24,71,CX (c) (y) (z)),(25,72,.int .i64 f),(26,73,.bool true),(27,74,.bool true),(28,75,.bool true),(29,76,.bool true),(30,77,.bool true),(31,10,.bool true)] [] [] [] ?_ ?_
 ·exact oc (g_ld 5 uN iN)<|oc (g_ld 7 uN iN)<|oc (g_bn (fun uZ=>Ub _ _ (xv) uZ))<|oc g_mv<|oc (g_ld 6 uN iN)<|oc (g_ld 8 uN iN)<|oc (g_bn (fun uZ=>Ub _ _ (w2) uZ))<|oc g_pk<|oc g_mv<|oc g_mv<|oc g_mv<|oc (g_bn (fun uZ=>eql_i _ _ _ er er true uZ (by simp)))<|oc g_pk<|oc g_mv<|oc (g_ld 0 Tryz.underlying26 Z0)<|oc (g_ld 1 uN iN)<|oc (g_ld 2 uN iN)<|oc (g_ld 3 uN iN)<|oc (g_ld 4 Tryz.underlying30 Zd)<|oc (g_cb ent_XD (fun uZ bZ=>hK.out uZ bZ))<|oc (g_ld 0 Tryz.underlying26 Z0)<|oc (g_ld 1 uN iN)<|oc (g_ld 2 uN iN)<|oc (g_ld 3 uN iN)<|oc (g_ld 4 Tryz.underlying30 Zd)<|oc (g_cl ent_WK (fun uZ=>hK2.out uZ))<|oc (g_bn (fun uZ=>eql_i _ _ _ f f true uZ (by simp)))<|oc g_pk<|oc g_mv<|oc (g_cb ent_WA (fun uZ bZ=>hW.out uZ bZ))<|oc g_pk<|oc g_as on
 intro u3 HB3 sz3 K3
 simp only[sQ] at K3⊢
 clear K2 HB2
 go_wp2
 refine bodyPost_ret (v:= .bool true) (by simp[results,Tryz.results4,go_sem,]) rfl ⟨rfl,HB3⟩
theorem proofChecks_any (p q g h b xu xk c y z:Int) (w:World) (hp:In p) (hq:In q) (hg:In g) (hh:In h) (hb:In b) (hu:In xu) (hk:In xk) (hc:In c) (hy:In y) (hz:In z) (hK:GK w):CC 4 #[GX p q g h,NV b,NV xu,NV xk,CX c y z] w (.bool true):=by
 obtain⟨V,W,E,h1,h2⟩:=forgeA p q g h b xu xk c y z w hK hp hq hg hh hb hu hk hc hy hz
 exact checks_core p q g h b xu xk c y z V W E _ w h1 h2 (fun u hB=>pCheck p q g h b xu xk c y z u (hK.up hB) hp hq hg hh hb hu hk hc hy hz) (fun u=>xCheckP p q g h b xu xk c y z u hp hq hg hh hb hu hk hc hy hz) fun u hB=>works13 u (hK.up hB)
theorem makes_core (p q g h b s t x y xu c y1 z1 er ch ec:Int) (sl:Option Addr) (len cap:Nat) (ns:List Int) (w:World) (hlen:min (len:Int) 20=(ns.length:Int)) (hc:len<=cap) (hsn:sl=none->cap=0) (hv:Hid (NL w (.slice sl ns.length cap) ns)) (i1:In c) (i2:In y1) (i3:In z1)(hP:Hid (∀u,Bw w u->CC 9 #[GX p q g h,NV b,NV s,NV t,NV x,NV y] u (.tuple #[NV xu,CX c y1 z1,.int .i64 er])))(hP2:Hid (∀u,CC 10 #[GX p q g h,NV b,NV s,NV t,NV x,NV y] u (.tuple #[NV xu,CX c y1 z1,.int .i64 er]))) (hC:Hid (∀u v,Bw w u->NL u v ns->CC 11 #[GX p q g h,v] u (.tuple #[NV ch,.int .i64 ec]))) (hC2:Hid (∀u v,Bw w u->NL u v ns->CC 12 #[GX p q g h,v] u (.tuple #[NV ch,.int .i64 ec])))(hW:Hid (∀u,Bw w u->CC 13 #[] u (.bool true))):
 CC 3 #[GX p q g h,NV b,NV s,NV t,PtX x y,.slice sl len cap] w (.bool true):=by
 have hn20:ns.length<=20:=by omega
 go_enter Tryz.func3,Tryz.ntmps3
 go_upto_region 1 with fail
 obtain⟨v0,hC,HB0,K0⟩:=bx5 w (GE (p) (q) (g) (h)) 26 (LN (b)) 24 (LN (s)) 24 (LN (t)) 24 (PtE (x) (y)) 27
 rw[hC]
 clear hC
 refine rgP K0 HB0 HB0.size [] [] [(0,23,.slice sl len cap),(1,24,.slice sl len cap),(2,25,.int .i64 (len:Int)),(3,26,.int .i64 (ns.length:Int)),(4,27,.slice sl ns.length cap),(5,5,.slice sl ns.length cap)] [(5,0),(5,1)] [(5,5)] [] ?_ ?_
 ·exact oc g_mv<|oc g_mv<|oc (g_ln Tryz.underlying28)<|oc (g_mn hlen)<|oc (g_sl (fun uZ=>slH sl len cap ns.length (by omega) hc hsn uZ))<|oc g_as on
 intro u1 HB1 sz1 K1
 simp only[sQ] at K1⊢
 clear K0 HB0
 go_upto_region 2 with fail
 refine rgP K1 HB1 HB1.size [] [(13,13,L0s,some (15,LN (xu))),(14,14,L0c,some (16,CE (c) (y1) (z1)))] [(0,29,GX (p) (q) (g) (h)),(1,30,NV (b)),(2,31,NV (s)),(3,32,NV (t)),(4,33,.pointer (some ⟨w.heap.size+1+1+1+1,0,none⟩)),(5,34,NV (x)),(6,35,.pointer (some ⟨w.heap.size+1+1+1+1,4,none⟩)),(7,36,NV (y)),(8,37,.tuple #[NV (xu),CX (c) (y1) (z1),.int .i64 er]),(9,28,.tuple #[NV (xu),CX (c) (y1) (z1),.int .i64 er]),(10,38,NV (xu)),(11,39,CX (c) (y1) (z1)),(12,40,.int .i64 er),(17,15,.int .i64 er)] [(15,13),(16,14)] [] [] ?_ ?_
 ·exact oc (g_ld 0 Tryz.underlying26 Z0)<|oc (g_ld 1 uN iN)<|oc (g_ld 2 uN iN)<|oc (g_ld 3 uN iN)<|oc (g_ix (fun uZ=>ix2z (w.heap.size+1+1+1+1) 0 uZ (by decide)))<|oc (g_lo 4 0 uN iN)<|oc (g_ix (fun uZ=>ix2z (w.heap.size+1+1+1+1) 1 uZ (by decide)))<|oc (g_lo 4 4 uN iN)<|oc (g_cb ent_XC (fun uZ bZ=>hP.out uZ bZ))<|oc g_mv<|oc g_ex<|oc g_ex<|oc g_ex<|oc (g_al 0 aN)<|oc (g_al 1 W1)<|oc (g_sn 0 iN)<|oc (g_sn 1 Zd)<|oc g_as on
 intro u2 b2_13 b2_14 HB2 sz2 K2
 simp only[sQ] at K2⊢
 clear K1 HB1
 go_upto_region 3 with fail
 refine rgP K2 HB2 HB2.size [] [(13,16,L0s,some (15,LN (xu))),(14,17,L0c,some (16,CE (c) (y1) (z1)))] [(0,42,GX (p) (q) (g) (h)),(1,43,NV (b)),(2,44,NV (s)),(3,45,NV (t)),(4,46,.pointer (some ⟨w.heap.size+1+1+1+1,0,none⟩)),(5,47,NV (x)),(6,48,.pointer (some ⟨w.heap.size+1+1+1+1,4,none⟩)),(7,49,NV (y)),(8,50,.tuple #[NV (xu),CX (c) (y1) (z1),.int .i64 er]),(9,41,.tuple #[NV (xu),CX (c) (y1) (z1),.int .i64 er]),(10,51,NV (xu)),(11,52,CX (c) (y1) (z1)),(12,53,.int .i64 er),(17,18,.int .i64 er)] [(15,13),(16,14)] [] [] ?_ ?_
 ·exact oc (g_ld 0 Tryz.underlying26 Z0)<|oc (g_ld 1 uN iN)<|oc (g_ld 2 uN iN)<|oc (g_ld 3 uN iN)<|oc (g_ix (fun uZ=>ix2z (w.heap.size+1+1+1+1) 0 uZ (by decide)))<|oc (g_lo 4 0 uN iN)<|oc (g_ix (fun uZ=>ix2z (w.heap.size+1+1+1+1) 1 uZ (by decide)))<|oc (g_lo 4 4 uN iN)<|oc (g_cl ent_WL (fun uZ=>hP2.out uZ))<|oc g_mv<|oc g_ex<|oc g_ex<|oc g_ex<|oc (g_al 0 aN)<|oc (g_al 1 W1)<|oc (g_sn 0 iN)<|oc (g_sn 1 Zd)<|oc g_as on
 intro u3 b3_13 b3_14 HB3 sz3 K3
 simp only[sQ] at K3⊢
 clear K2 HB2
 go_upto_region 4 with fail
 refine rgE K3 HB3 HB3.size [] [(8,19,L0s,some (9,LN (ch)))] [(0,55,GX (p) (q) (g) (h)),(2,57,.slice sl ns.length cap),(4,59,.tuple #[NV (ch),.int .i64 ec]),(5,54,.tuple #[NV (ch),.int .i64 ec]),(6,60,NV (ch)),(7,61,.int .i64 ec),(10,20,.int .i64 ec)] [(9,8)] [] [⟨1,56,some 3,PFr 0 []⟩,⟨3,58,some 4,PNs 0 ([]++ns)⟩] [] (.cons (fun _ _ _ h1 h2=>h2.stab h1)<| .cons (fun _ _ _ h1 h2=>h2.stab h1)<|Stab.nil) ?_ ?_
 ·exact oc (g_ld 0 Tryz.underlying26 Z0)<|oc (g_bR 0 (PFr 0 []) [] [] (flN []) bsF0 (fun u hu=>PFr.new 0 [] u 24 (Nat.zero_le _)))<|oc g_mv<|oc (g_aW 0 1 (PFr 0 []) (PNs 0 ([]++ns)) (fun u x hB hs hx=>app_full hx (Nat.zero_le _) (hv.out.up hB) (by simp) (by omega)))<|oc (g_c2 1 (PNs 0 ([]++ns)) ent_WC (fun uZ yv bZ hy=>hC.out uZ yv bZ hy.nl))<|oc g_mv<|oc g_ex<|oc g_ex<|oc (g_al 0 aN)<|oc (g_sn 0 iN)<|oc g_as on
 intro u4 b4_8 v4_1 hv4_1 v4_3 hv4_3 HB4 sz4 K4
 simp only[sQ] at K4⊢
 clear K3 HB3
 go_upto_region 5 with fail
 refine rgP K4 HB4 HB4.size [] [(6,21,L0s,some (7,LN (ch)))] [(0,63,GX (p) (q) (g) (h)),(1,64,.slice sl ns.length cap),(2,65,.tuple #[NV (ch),.int .i64 ec]),(3,62,.tuple #[NV (ch),.int .i64 ec]),(4,66,NV (ch)),(5,67,.int .i64 ec),(8,22,.int .i64 ec)] [(7,6)] [] [] ?_ ?_
 ·exact oc (g_ld 0 Tryz.underlying26 Z0)<|oc g_mv<|oc (g_cb ent_WM (fun uZ bZ=>hC2.out uZ _ bZ (hv.out.up bZ)))<|oc g_mv<|oc g_ex<|oc g_ex<|oc (g_al 0 aN)<|oc (g_sn 0 iN)<|oc g_as on
 intro u5 b5_6 HB5 sz5 K5
 simp only[sQ] at K5⊢
 clear K4 HB4
 go_upto_region 6 with fail
 refine rgP K5 HB5 HB5.size [] [] [(0,68,NV (xu)),(1,69,NV (xu)),(2,70,.bool true),(3,71,.bool true),(4,72,CX (c) (y1) (z1)),(5,73,CX (c) (y1) (z1)),(6,74,.bool true),(7,75,.bool true),(8,76,.bool true),(9,77,.int .i64 er),(10,78,.int .i64 er),(11,79,.bool true),(12,80,.bool true),(13,81,.bool true),(14,82,NV (ch)),(15,83,NV (ch)),(16,84,.bool true),(17,85,.bool true),(18,86,.bool true),(19,87,.int .i64 ec),(20,88,.int .i64 ec),(21,89,.bool true),(22,90,.bool true),(23,91,.bool true),(24,92,.bool true),(25,93,.bool true),(26,12,.bool true)] [] [] [] ?_ ?_
 ·exact oc (g_ld 5 uN iN)<|oc (g_ld 7 uN iN)<|oc (g_bn (fun uZ=>Ub _ _ (xu) uZ))<|oc g_mv<|oc (g_ld 6 Tryz.underlying30 Zd)<|oc (g_ld 8 Tryz.underlying30 Zd)<|oc (g_bn (fun uZ=>eqPfs _ _ i1 i2 i3 uZ))<|oc g_pk<|oc g_mv<|oc g_mv<|oc g_mv<|oc (g_bn (fun uZ=>eql_i _ _ _ er er true uZ (by simp)))<|oc g_pk<|oc g_mv<|oc (g_ld 9 uN iN)<|oc (g_ld 10 uN iN)<|oc (g_bn (fun uZ=>Ub _ _ (ch) uZ))<|oc g_pk<|oc g_mv<|oc g_mv<|oc g_mv<|oc (g_bn (fun uZ=>eql_i _ _ _ ec ec true uZ (by simp)))<|oc g_pk<|oc g_mv<|oc (g_cb ent_WA (fun uZ bZ=>hW.out uZ bZ))<|oc g_pk<|oc g_as on
 intro u6 HB6 sz6 K6
 simp only[sQ] at K6⊢
 clear K5 HB5
 go_wp2
 refine bodyPost_ret (v:= .bool true) (by simp[results,Tryz.results3,go_sem,]) rfl ⟨rfl,HB6⟩
theorem proofMakes_any (p q g h b s t x y:Int) (sl:Option Addr) (len cap:Nat) (ns:List Int) (w:World) (hp:In p) (hq:In q) (hg:In g) (hh:In h) (hb:In b) (hs:In s) (ht:In t) (hx:In x) (hy:In y) (hlen:min (len:Int) 20=(ns.length:Int)) (hc:len<=cap) (hsn:sl=none->cap=0) (hv:NL w (.slice sl ns.length cap) ns) (hK:GK w):CC 3 #[GX p q g h,NV b,NV s,NV t,PtX x y,.slice sl len cap] w (.bool true):=by
 have hn20:ns.length<=20:=by omega
 obtain⟨U,C,Y,Z,E,i1,i2,i3,h1,h2⟩:=proveA p q g h b s t x y w hK hp hq hg hh hb hs ht hx hy
 exact makes_core p q g h b s t x y U C Y Z E _ _ sl len cap ns w hlen hc hsn hv i1 i2 i3 h1 h2 (fun u v hB hv=>pChal p q g h ns v u (hK.up hB) hp hq hn20 hv) (fun u v hB hv=>xChal p q g h ns v u hp hq hn20 hv) fun u hB=>works13 u (hK.up hB)
def PGI (ys:List Nat) (u:World) (v:Value):Prop:=IN u u.heap.size v ys
theorem PGI.stab {ys:List Nat} {u u2:World} {x:Value} (hB:Bw u u2) (h:PGI ys u x):PGI ys u2 x:=(IN.below h hB).mono hB.size
theorem PO.nl {base:Nat} {ns:List Int} {u:World} {x:Value} (h:PO base ns u x):NL u x ns:=by
 have h2:=h.2
 obtain⟨b,c,rfl,hb,hs⟩:=h.at
 have hc:ns.length<=c:=by
  rcases h2.2 with⟨e,_⟩ | ⟨g,cap,cur,e,_,_,hle,_⟩
  ·cases e
  ·cases e;exact hle
 exact⟨_,b,0,c,rfl,hc,(fun e=>by cases e),.inr rfl,.inr hb,hs⟩
end
section
open Go.ChangeShapes Go.WideShapes Go.ChangeAt Go.RowKit
theorem own4:ownKnob Tryz.prog.godebug=none:=by kernel_rfl
theorem laid4:laidOutB Tryz.prog=true:=by kernel_rfl
abbrev lstG:List (String×DataW Unit):=[("math/bits.deBruijn32tab",Rows.laid_math_bits_deBruijn32tab),("math/bits.deBruijn64tab",Rows.laid_math_bits_deBruijn64tab),("internal/strconv.uint64pow10",Rows.laid_internal_strconv_uint64pow10),("seneschal/sha.constants",Rows.laid_seneschal_sha_constants),("seneschal/sha.first",Rows.laid_seneschal_sha_first)]
theorem gCon:Tryz.prog.globalNamed "seneschal/sha.constants" =some 6:=by kernel_rfl
theorem gFir:Tryz.prog.globalNamed "seneschal/sha.first" =some 3:=by kernel_rfl
theorem tCon:(Tryz.prog.globals[6]?).map (·.type)=some 197:=by kernel_rfl
theorem tFir:(Tryz.prog.globals[3]?).map (·.type)=some 164:=by kernel_rfl
theorem tPow:(Tryz.prog.globals[2]?).map (·.type)=some 186:=by kernel_rfl
theorem powIs:(Rows.laid_internal_strconv_uint64pow10:DataW Unit)=Lib.tabData .u64 Lib.pow10Tab:=by kernel_rfl
def lits {H:Type} (ks:List Nat):DataW H:= .agg (ks.map fun(k:Nat)=>.lit (.int .u32 (k:Int)))
theorem con_is {H:Type}:(Rows.laid_seneschal_sha_constants:DataW H)=lits kcs:=by kernel_rfl
theorem fir_is {H:Type}:(Rows.laid_seneschal_sha_first:DataW H)=lits fst8:=by kernel_rfl
theorem cells32:Tryz.prog.cellsOf 163=1:=by kernel_rfl
theorem arr_cells {H:Type} {enc:TypeId×Value->H} {W:World} {base fuel:Nat} {sp:Nat->Bool} {held:Bool} {t:TypeId} {n:Nat} (ht:Tryz.prog.underlying t=some (.array n 163)) {cs:List Value} {ks:List Nat} {pl:List MemPlace} (h:DataW.trod enc Tryz.prog W base sp held fuel t cs=some (lits ks,pl)) (hk:ks.length=n): ∀i,i<n->cs[i]?=some (.int .u32 ((ks.getD i 0:Nat):Int)):=fun i hi=>by
 obtain⟨xs,m,rfl,hx,hlen,hn,hel⟩:=DataW.trod_array ht h
 simp only[Prod.mk.injEq,lits,DataW.agg.injEq] at hx
 have h1:=hel i hi
 rw[cells32,Nat.mul_one,List.getElem?_eq_getElem (by omega)] at h1
 obtain⟨k,e1,e2,_⟩:=DataW.trod_int Tryz.underlying163 h1
 have e3:(xs.map (·.1))[i]?=some (.lit (.int .u32 k)):=by
  rw[List.getElem?_map,List.getElem?_eq_getElem (by omega)]
  simp[e2]
 rw[<-hx.1,List.getElem?_map,List.getElem?_eq_getElem (by omega)] at e3
 simp at e3
 have e4:(cs.drop i)[0]?=some (.int .u32 k):=by
  have:((cs.drop i).take 1)[0]?=some (.int .u32 k):=by rw[e1];rfl
  rwa [List.getElem?_take_of_lt (by omega)] at this
 rw[List.getElem?_drop,Nat.add_zero] at e4
 rw[e4,List.getD_eq_getElem?_getD,List.getElem?_eq_getElem (by omega),<-e3]
 rfl
structure GG (w:World):Prop where
 v:GV w
 t:GT w
 sz:0<w.heap.size
theorem of_laidG {W:World} (h:laidMetH Tryz.prog lstG W):GG W:=by
 rw[MakeChecks.laidMetH_plain _ _ _ (by kernel_rfl)] at h
 obtain⟨ps,⟨g0,t0,cs0,f0,p0,q0,hg0,ht0,hv0,hd0,⟨g1,t1,cs1,f1,p1,q1,hg1,ht1,hv1,hd1,⟨g2,t2,cs2,f2,p2,q2,hg2,ht2,hv2,hd2,⟨g3,t3,cs3,f3,p3,q3,hg3,ht3,hv3,hd3,⟨g4,t4,cs4,f4,p4,q4,hg4,ht4,hv4,hd4,_,_⟩,_⟩,_⟩,_⟩,_⟩,_,_⟩:=h
 obtain rfl:=Option.some.inj (gPowG.symm.trans hg2)
 obtain rfl:=Option.some.inj (tPow.symm.trans ht2)
 obtain rfl:=Option.some.inj (gCon.symm.trans hg3)
 obtain rfl:=Option.some.inj (gFir.symm.trans hg4)
 obtain rfl:=Option.some.inj (tCon.symm.trans ht3)
 obtain rfl:=Option.some.inj (tFir.symm.trans ht4)
 rw[powIs] at hd2
 rw[con_is] at hd3
 rw[fir_is] at hd4
 have htab:Lib.TabIs Tryz.prog W "internal/strconv.uint64pow10" .u64 Lib.pow10Tab:=by
  unfold Lib.TabIs
  rw[hv2,<-Lib.cells_of_tab Tryz.underlying186 Tryz.underlying22 (by kernel_rfl) (by kernel_rfl) hd2]
 have hc2:=htab.cell gPowG 0 (by rw[Lib.pow10Tab_length];omega)
 have k0:=arr_cells Tryz.underlying197 hd3 rfl
 have k1:=arr_cells Tryz.underlying164 hd4 rfl
 have c0: ∀t,t<64->W.cell? ⟨6,t,none⟩=some (.int .u32 ((kcs.getD t 0:Nat):Int)):=fun t ht=>by
  rw[World.var?_cell hg3 hv3 t,<-Array.getElem?_toList];exact k0 t ht
 have c1: ∀t,t<8->W.cell? ⟨3,t,none⟩=some (.int .u32 ((fst8.getD t 0:Nat):Int)):=fun t ht=>by
  rw[World.var?_cell hg4 hv4 t,<-Array.getElem?_toList];exact k1 t ht
 have s0:6<W.heap.size:=World.block_lt_of_cell? W _ (c0 0 (by decide))
 have s1:3<W.heap.size:=World.block_lt_of_cell? W _ (c1 0 (by decide))
 exact⟨⟨by omega,c0,c1⟩,⟨World.block_lt_of_cell? W _ hc2,htab⟩,by omega⟩
theorem doorG (os:Go.Os) (args:Array Value):laidMetH Tryz.prog lstG ((World.doorLaid Tryz.prog 400 os).forCall (fun _ _=>0) ⟨#[],args,[]⟩).memory:=
 laidMetH_of_parts3 (fuel:=8) (laidMet_of_run' 8 (by kernel_rfl) (by kernel_rfl)) (by kernel_rfl) (by kernel_rfl)
theorem list_of {p:Nat->Int->Prop}: ∀n,(∀i,i<n-> ∃z,p i z)-> ∃ns:List Int,ns.length=n/\ ∀i,i<n->p i (ns.getD i 0)
 | 0,_=>⟨[],rfl,fun i hi=>by omega⟩
 | n+1,h=>by
  obtain⟨ns,hl,hp⟩:=list_of n (fun i hi=>h i (by omega))
  obtain⟨z,hz⟩:=h n (by omega)
  refine⟨ns++[z],by simp[hl],fun i hi=>?_⟩
  by_cases e:i=n
  ·subst e
   have:(ns++[z]).getD i 0=z:=by rw[<-hl];simp
   rw[this];exact hz
  ·have:(ns++[z]).getD i 0=ns.getD i 0:=by simp[List.getElem?_append_left (show i<ns.length by omega)]
   rw[this];exact hp i (by omega)
theorem flN_atg: ∀(ns:List Int) (j:Nat) (v:Value),(flN ns)[j]?=some v->j/4<ns.length/\(LN (ns.getD (j/4) 0))[j%4]?=some v
 | [],j,v,h=>by simp[flN] at h
 | n::r,j,v,h=>by
  rw[flN] at h
  by_cases hj:j<4
  ·rw[List.getElem?_append_left (by show j<4;exact hj)] at h
   rw[show j/4=0 by omega,show j%4=j by omega]
   exact⟨by simp,by simpa using h⟩
  ·rw[List.getElem?_append_right (by show 4<=j;omega)] at h
   have h:(flN r)[j -4]?=some v:=h
   have:=flN_atg r (j -4) v h
   rw[show j/4=(j -4)/4+1 by omega,show j%4=(j -4)%4 by omega]
   exact⟨by simpa using this.1,by simpa using this.2⟩
theorem SN.of {w:World} {g o:Nat} {ns:List Int} (h: ∀i,i<ns.length-> ∀c v,(LN (ns.getD i 0))[c]?=some v->w.cell? ⟨g,o+(i*4+c),none⟩=some v):SN w g o ns:=fun j v hj=>by
 obtain⟨h1,h2⟩:=flN_atg ns j v hj
 have:=h _ h1 _ v h2
 rwa [show j/4*4+j%4=j by omega] at this
theorem row_nat {H:Type} {enc:TypeId×Value->H} {W:World} {bs fuel base:Nat} {sp:Nat->Bool} {held:Bool} {a:Addr} {cs:List Value} {x:DataW H×List MemPlace} (h1:W.cells? base a 4=some cs) (h:DataW.trod enc Tryz.prog W bs sp held fuel 24 cs=some x):
 ∃z,In z/\ ∀c v,(LN z)[c]?=some v->W.cell? (a.add c)=some v:=by
 obtain⟨_,hl,hc⟩:=World.cells?_some h1
 match cs,hl,hc,h with
 | [c0,c1,c2,c3],hl,hc,h=>
  obtain⟨y0,y1,y2,y3,m,hx,hy0,hy1,hy2,hy3⟩:=trod_array4 Tryz.underlying24 Tryz.cells22 h
  obtain⟨x0,e0,rfl,w0⟩:=DataW.trod_int Tryz.underlying22 hy0
  obtain⟨x1,e1,rfl,w1⟩:=DataW.trod_int Tryz.underlying22 hy1
  obtain⟨x2,e2,rfl,w2⟩:=DataW.trod_int Tryz.underlying22 hy2
  obtain⟨x3,e3,rfl,w3⟩:=DataW.trod_int Tryz.underlying22 hy3
  simp at e0 e1 e2 e3
  subst e0 e1 e2 e3
  refine⟨V x0 x1 x2 x3,In_V (Zi w0) (Zi w1) (Zi w2) (Zi w3),fun c v hv=>?_⟩
  have hL:LN (V x0 x1 x2 x3)=[iU x0,iU x1,iU x2,iU x3]:=by
   have:=NV_V (Zi w0) (Zi w1) (Zi w2) (Zi w3)
   unfold NV A4 at this
   injection this with this
   have:=congrArg Array.toList this
   simpa using this
  rw[hL] at hv
  have hlt:c<4:=by have:=(List.getElem?_eq_some_iff.1 hv).1;simpa using this
  rw[hc c hlt];exact hv
theorem open_nats (L:Nat) {H:Type} {enc:TypeId×Value->H} {W:World} {base:Nat} {v0:Value} {x:DataW H} {p:List MemPlace} (hv:Value.okWide Tryz.prog W .any base 28 v0) (h:DataW.Trod enc Tryz.prog W 0 (fun _=>true) true 28 v0 x p):
 ∃sl len cap gb go,∃ns:List Int,v0= .slice sl len cap/\(min len L)=ns.length/\len<=cap/\(sl=none->cap=0)/\(cap=0\/sl=some ⟨gb,go,none⟩)/\(ns.length=0\/gb<W.heap.size)/\SN W gb go ns/\ ∀z∈ns,In z:=by
 obtain⟨a0,len,cap,rfl⟩:=okWide_slice Tryz.underlying28 hv
 obtain⟨fuel,hf⟩:=h
 rcases Go.Deep.open_slice Tryz.underlying28 hf with⟨hcs,hx⟩ | ⟨ad,len',cap',m,n,D,Pl,hcs,hbs,hl,hm,hmm,hx,hall⟩
 ·simp[Value.cells] at hcs
  obtain⟨rfl,rfl,rfl⟩:=hcs
  exact⟨_,_,_,0,0,[],rfl,by simp,Nat.le_refl _,fun _=>rfl,.inl rfl,.inl rfl,SN.empty rfl,fun z hz=>(by cases hz)⟩
 ·simp[Value.cells] at hcs
  obtain⟨rfl,rfl,rfl⟩:=hcs
  simp only[if_true] at hmm
  by_cases h0:cap=0
  ·subst h0
   have e:len=0:=by omega
   subst e
   exact⟨_,_,_,0,0,[],rfl,by simp,Nat.le_refl _,fun _=>rfl,.inl rfl,.inl rfl,SN.empty rfl,fun z hz=>(by cases hz)⟩
  ·have hrow: ∀i,i<cap-> ∃z,In z/\ ∀c v,(LN z)[c]?=some v->W.cell? ((ad.add (i*4)).add c)=some v:=fun i hi=>by
    obtain⟨cs,k1,k2⟩:=hall i (by rw[hmm];exact hi)
    rw[Tryz.cells24] at k1
    exact row_nat k1 k2
   obtain⟨gb,go,spot⟩:=ad
   have hspot:spot=none:=by
    obtain⟨z,_,hz⟩:=hrow 0 (by omega)
    have:=hz 0 _ rfl
    simpa [Addr.add] using World.cell?_spot this
   subst hspot
   have hadd: ∀i c:Nat,((⟨gb,go,none⟩:Addr).add (i*4)).add c=⟨gb,go+(i*4+c),none⟩:=fun i c=>by unfold Addr.add;(repeat' split)<;>simp_all<;>omega
   obtain⟨ns,hnl,hnp⟩:=list_of (min len L) (fun i hi=>hrow i (by omega))
   have hblk:gb<W.heap.size:=by
    obtain⟨z,_,hz⟩:=hrow 0 (by omega)
    have:=hz 0 _ rfl
    rw[hadd] at this
    exact World.block_lt_of_cell? W _ this
   refine⟨_,_,_,gb,go,ns,rfl,hnl.symm,hl,fun e=>(by cases e),.inr rfl,.inr hblk,SN.of (fun i hi c v hv=>?_),fun z hz=>?_⟩
   ·have:=(hnp i (by omega)).2 c v hv
    rwa [hadd] at this
   ·obtain⟨j,hj,rfl⟩:=List.mem_iff_getElem.1 hz
    have:=(hnp j (by omega)).1
    simpa [List.getElem?_eq_getElem hj] using this
section
section
variable {H:Type} {enc:TypeId×Value->H} {P:Program} {w:World} {base:Nat} {spare:Nat->Bool} {held:Bool}
theorem trodAll_six {t0 t1 t2 t3 t4 t5:TypeId} {args:Array Value} {ds:List (DataW H)} {ps:List MemPlace} (h:DataW.TrodAll enc P w base spare held [t0,t1,t2,t3,t4,t5] args.toList ds ps):
 ∃v0 v1 v2 v3 v4 v5 d0 d1 d2 d3 d4 d5 p0 p1 p2 p3 p4 p5,args=#[v0,v1,v2,v3,v4,v5]/\ds=[d0,d1,d2,d3,d4,d5]/\ps=p0++(p1++(p2++(p3++(p4++p5))))/\DataW.Trod enc P w base spare held t0 v0 d0 p0/\DataW.Trod enc P w base spare held t1 v1 d1 p1/\DataW.Trod enc P w base spare held t2 v2 d2 p2/\DataW.Trod enc P w base spare held t3 v3 d3 p3/\DataW.Trod enc P w base spare held t4 v4 d4 p4/\DataW.Trod enc P w base spare held t5 v5 d5 p5:=by
 obtain⟨v0,r0,d0,e0,p0,q0,hargs,rfl,rfl,k0,h0⟩:=trodAll_cons h
 obtain⟨v1,r1,d1,e1,p1,q1,rfl,rfl,rfl,k1,h1⟩:=trodAll_cons h0
 obtain⟨v2,r2,d2,e2,p2,q2,rfl,rfl,rfl,k2,h2⟩:=trodAll_cons h1
 obtain⟨v3,r3,d3,e3,p3,q3,rfl,rfl,rfl,k3,h3⟩:=trodAll_cons h2
 obtain⟨v4,r4,d4,e4,p4,q4,rfl,rfl,rfl,k4,h4⟩:=trodAll_cons h3
 obtain⟨v5,r5,d5,e5,p5,q5,rfl,rfl,rfl,k5,h5⟩:=trodAll_cons h4
 obtain⟨rfl,rfl,rfl⟩:=trodAll_nil h5
 exact⟨v0,v1,v2,v3,v4,v5,d0,d1,d2,d3,d4,d5,p0,p1,p2,p3,p4,p5,by cases args;simp_all,rfl,by simp,k0,k1,k2,k3,k4,k5⟩
theorem trodAll_mk6 {t0 t1 t2 t3 t4 t5:TypeId} {v0 v1 v2 v3 v4 v5:Value} {d0 d1 d2 d3 d4 d5:DataW H} {p0 p1 p2 p3 p4 p5:List MemPlace} (h0:DataW.Trod enc P w base spare held t0 v0 d0 p0) (h1:DataW.Trod enc P w base spare held t1 v1 d1 p1) (h2:DataW.Trod enc P w base spare held t2 v2 d2 p2) (h3:DataW.Trod enc P w base spare held t3 v3 d3 p3) (h4:DataW.Trod enc P w base spare held t4 v4 d4 p4) (h5:DataW.Trod enc P w base spare held t5 v5 d5 p5):
 DataW.TrodAll enc P w base spare held [t0,t1,t2,t3,t4,t5] [v0,v1,v2,v3,v4,v5] [d0,d1,d2,d3,d4,d5] (p0++(p1++(p2++(p3++(p4++p5))))):=⟨p0,_,h0,Vw h1 h2 h3 h4 h5,rfl⟩
end
theorem Tryz.cells30:Tryz.prog.cellsOf 30=12:=by kernel_rfl
theorem cellsC2:Tryz.prog.cellsOf 27=8:=by kernel_rfl
theorem open_proof {H:Type} {enc:TypeId×Value->H} {W:World} {bs base:Nat} {sp:Nat->Bool} {held:Bool} {v:Value} {x:DataW H} {p:List MemPlace}
 (hv:Value.okWide Tryz.prog W .any base 30 v) (h:DataW.Trod enc Tryz.prog W bs sp held 30 v x p):
 ∃n f a,v=CX n f a/\In n/\In f/\In a:=by
 obtain⟨cs,rfl,hsz,_⟩: ∃cs,v= .agg cs/\cs.size=Tryz.prog.cellsOf 30/\Row.okWide Tryz.prog W .any base 30 cs:=by
  simpa [Value.okWide,Tryz.underlying30] using hv
 obtain⟨fuel,hf⟩:=h
 obtain⟨y0,y1,y2,m,_,hl,h0,h1,h2⟩:=Go.Deep.trod_struct3 Tryz.underlying30 hf
 rw[Tryz.cells30] at hl
 obtain⟨l,el⟩: ∃l,(Value.agg cs).cells.toList=l:=⟨_,rfl⟩
 have el2:cs.toList=l:=by simpa [Value.cells] using el
 rw[el] at hl h0 h1 h2
 match l,hl,h0,h1,h2,el2 with
 | [c0,c1,c2,c3,c4,c5,c6,c7,c8,c9,c10,c11],_,h0,h1,h2,el2=>
  have h0:DataW.trod enc Tryz.prog W bs sp held m 24 ((([c0,c1,c2,c3,c4,c5,c6,c7,c8,c9,c10,c11]:List Value).drop 0).take (Tryz.prog.cellsOf 24))=some y0:=h0
  have h1:DataW.trod enc Tryz.prog W bs sp held m 24 ((([c0,c1,c2,c3,c4,c5,c6,c7,c8,c9,c10,c11]:List Value).drop 4).take (Tryz.prog.cellsOf 24))=some y1:=h1
  have h2:DataW.trod enc Tryz.prog W bs sp held m 24 ((([c0,c1,c2,c3,c4,c5,c6,c7,c8,c9,c10,c11]:List Value).drop 8).take (Tryz.prog.cellsOf 24))=some y2:=h2
  rw[Tryz.cells24] at h0 h1 h2
  obtain⟨n,hn,en⟩:=trodN h0
  obtain⟨f,hf,ef⟩:=trodN h1
  obtain⟨a,ha,ea⟩:=trodN h2
  refine⟨n,f,a,?_,hn,hf,ha⟩
  have e:CE n f a=LN n++LN f++LN a:=rfl
  have e2:cs.toList=CE n f a:=by rw[el2,e,<-en,<-ef,<-ea];rfl
  have:cs=(CE n f a).toArray:=by rw[<-e2]
  rw[this]
theorem open_coins {H:Type} {enc:TypeId×Value->H} {W:World} {bs base:Nat} {sp:Nat->Bool} {held:Bool} {v:Value} {x:DataW H} {p:List MemPlace}
 (hv:Value.okWide Tryz.prog W .any base 27 v) (h:DataW.Trod enc Tryz.prog W bs sp held 27 v x p):
 ∃n f,v=PtX n f/\In n/\In f:=by
 obtain⟨cs,rfl,hsz,_⟩: ∃cs,v= .agg cs/\cs.size=Tryz.prog.cellsOf 27/\Row.okWide Tryz.prog W .any base 27 cs:=by
  simpa [Value.okWide,Tryz.underlying27] using hv
 obtain⟨fuel,hf⟩:=h
 obtain⟨xs,m,_,hx,hlen,hn,hel⟩:=DataW.trod_array Tryz.underlying27 hf
 have h0:=hel 0 (by decide)
 have h1:=hel 1 (by decide)
 obtain⟨l,el⟩: ∃l,(Value.agg cs).cells.toList=l:=⟨_,rfl⟩
 have el2:cs.toList=l:=by simpa [Value.cells] using el
 have hl:l.length=8:=by rw[<-el2,Array.length_toList,hsz,cellsC2]
 rw[el,Tryz.cells24] at h0 h1
 match l,hl,h0,h1,el2 with
 | [c0,c1,c2,c3,c4,c5,c6,c7],_,h0,h1,el2=>
  rw[List.getElem?_eq_getElem (by omega)] at h0 h1
  have h0:DataW.trod enc Tryz.prog W bs sp held m 24 [c0,c1,c2,c3]=some _:=h0
  have h1:DataW.trod enc Tryz.prog W bs sp held m 24 [c4,c5,c6,c7]=some _:=h1
  obtain⟨n,hn,en⟩:=trodN h0
  obtain⟨f,hf,ef⟩:=trodN h1
  refine⟨n,f,?_,hn,hf⟩
  have e:PtE n f=LN n++LN f:=rfl
  have e2:cs.toList=PtE n f:=by rw[el2,e,<-en,<-ef];rfl
  have:cs=(PtE n f).toArray:=by rw[<-e2]
  rw[this]
end
end
end Go.Proofs.YtofcppgfaelloaaGreatDoor
