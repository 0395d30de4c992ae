import Derived.Test.YtbbohmgjphpfeaaGreatDoorCTP
import Derived.Test.YtbbohmgjphpfeaaGreatDoorAN6
namespace Go.Proofs.YtbbohmgjphpfeaaGreatDoor
set_option linter.unusedVariables false
set_option linter.unusedSimpArgs false
set_option maxRecDepth 100000
set_option maxHeartbeats 4000000
section
open Go.RowKit
theorem Wb:EnT 81:=fun _ _=>by kernel_rfl
def P104 (u:World) (v:Value):Prop:=IN u u.heap.size v [104]
theorem P104.stab {u u2:World} {x:Value} (hB:Bw u u2) (h:P104 u x):P104 u2 x:=(IN.below h hB).mono hB.size
theorem bdG3 (p q g:Int) (w:World):(Instr.build 26 [(0,NV p),(1,NV q),(2,NV g)].toArray).run Tryz.prog w= .ok (GX p q g 0) w:=by kernel_rfl
theorem W4:EnT 82:=fun _ _=>by kernel_rfl
theorem bs104 (w:World):(Instr.buildSlice 118 1 ([0].zip [.int .u8 104]).toArray).run Tryz.prog w= .ok (.slice (some ⟨w.heap.size,0,none⟩) 1 1) (w.alloc (.cells [.int .u8 104].toArray 5)):=by kernel_rfl
theorem in104 (u:World):P104 (u.alloc (.cells [.int .u8 104].toArray 5)) (.slice (some ⟨u.heap.size,0,none⟩) 1 1):=
 ⟨_,1,u.heap.size,0,rfl,by simp,.inr rfl,by simp,fun j hj=>by
  have e:j=0:=by simp at hj;omega
  subst e
  exact(CV.new u [.int .u8 104] 5 0 _ rfl).1⟩
theorem xParams_core (k P Q a hh:Int) (n:Nat) (cs:List (Int×Int×Int)) (w:World) (hn:Hid (n=cs.length)) (h0:0<n) (h20:n<=20) (hc:cat cs (n -1)=(P,Q,a))
 (hX:Hid (∀u,Calls Tryz.prog 81 #[.int .i64 k] u fun e u'=> ∃v,e= .returned v/\PT 0 u.heap.size n (flC cs) u' v/\Bw u u'))
 (hM:Hid (∀u v,IN u u.heap.size v [104]->CC 82 #[GX P Q 4 0,v] u (.tuple #[NV hh,.int .i64 0]))):
 CC 57 #[.int .i64 k] w (.tuple #[GX P Q 4 hh,.int .i64 0]):=by
 go_enter Tryz.func57,Tryz.ntmps57
 go_upto_region 1 with fail
 obtain⟨v0,hC,HB0,K0⟩:=bx1 w L0g 26
 rw[hC]
 clear hC
 apply Rf K0 HB0 [] [] [(0,9,_),(4,12,_),(6,5,_)] [] [] [⟨1,10,none,PT 0 v0.heap.size n (flC cs)⟩,⟨2,8,none,PT 0 v0.heap.size n (flC cs)⟩,⟨3,11,some 5,PS v0.heap.size n (flC cs)⟩,⟨5,4,none,PS v0.heap.size n (flC cs)⟩] []
 ·exact oc g_mv<|oc (g_cE 0 (PT 0 v0.heap.size n (flC cs)) Wb (fun u hB hs=>(hX.out u).mono fun e u2 ⟨v,e1,h1,h2⟩=>⟨v,e1,h1.mono hs,h2⟩))<|oc (g_mE 0 1 (PT 0 v0.heap.size n (flC cs)))<|oc (g_xE 1 2 (PT 0 v0.heap.size n (flC cs)) (PS v0.heap.size n (flC cs)) PT.fst)<|oc (g_xV 1 (PT 0 v0.heap.size n (flC cs)) PT.snd)<|oc (g_sE 2 3 (PS v0.heap.size n (flC cs)))<|oc g_as on
 intro u1 v1_1 hv1_1 v1_2 hv1_2 v1_3 hv1_3 v1_5 hv1_5 HB1 sz1 K1
 simp only[sQ] at K1⊢
 clear HB0
 obtain⟨bl,cl,rfl,l1,l2,l3,l4⟩:=hv1_5 rfl
 have K1xl:=Bk.more3 K0 K1 l1 l2 l4 (by intro x hx;first | (simp at hx;done) | (simp at hx⊢;omega))
 simp only[aK] at K1xl
 clear K1
 go_upto_region 2 with fail
 apply Rn K1xl HB1 [(0,13,_),(1,14,_)]
 ·exact oc g_mv<|oc (g_bn (fun uZ=>Zs _ _ _ 0 0 _ uZ rfl)) on
 intro u2 HB2 sz2 K2
 simp only[sQ] at K2⊢
 clear HB1
 have hz3:(n:Int) -1=((n -1:Nat):Int):=by omega
 have hR:=flC_get cs (n -1)
 rw[hc] at hR
 have hR:Hid _:=hR
 go_upto_region 4 with fail
 apply Rp K2 HB2 [] [(6,6,L0c,some (7,CE (P) (Q) (a)))] [(0,17,_),(1,18,_),(2,19,_),(3,20,_),(4,21,_),(5,22,_)] [(7,6)] [] []
 ·exact oc g_mv<|oc g_mv<|oc (g_ln Tryz.underlying112)<|oc (g_bn (fun uZ=>We _ _ (n:Int) 1 ((n -1:Nat):Int) uZ hz3 (by omega) (by omega)))<|oc (g_ix (fun uZ=>ixC bl 0 n cl (n -1) (by omega) uZ))<|oc (g_lR 1 (0+12*(n -1)) (cs:=CE (P) (Q) (a)) ((fun c v hv=>by rw[Nat.zero_add];exact hR.out c v (by have:=hn.out;omega) hv)) Tryz.underlying116 U6)<|oc (g_al 0 al_api_Cert)<|oc (g_sn 0 U6) on
 intro u3 b3_6 HB3 sz3 K3
 simp only[sQ] at K3⊢
 clear K2 HB2
 go_upto_region 5 with fail
 apply Rd K3 HB3 [] [(6,7,L0g,some (7,GE (P) (Q) (4) (0)))] [(0,23,_),(1,24,_),(2,25,_),(3,26,_),(4,27,_),(5,28,_)] [(7,6)] [] []
 ·exact oc (g_fd (fdC0 _))<|oc (g_lo 2 0 uN iN)<|oc (g_fd (fdC1 _))<|oc (g_lo 2 4 uN iN)<|oc (g_cl V7 (fun uZ=>W1 4 uZ (by omega) (by omega)))<|oc (g_bd (bdG3 P Q 4))<|oc (g_al 0 Tc)<|oc (g_sn 0 Z0) on
 intro u4 b4_6 HB4 sz4 K4
 simp only[sQ] at K4⊢
 clear K3 HB3
 go_upto_region 6 with fail
 apply Rf K4 HB4 [.no,.no,.no,.all 7 (GE (P) (Q) (4) (hh))] [] [(0,30,_),(2,32,_),(3,29,_),(4,33,_),(5,34,_),(6,35,_)] [(7,0)] [] [⟨1,31,some 2,P104⟩] []
 ·exact oc (g_ld 3 Tryz.underlying26 Z0)<|oc (g_bS 0 P104 [0] [.int .u8 104] bs104 in104)<|oc (g_c2 0 P104 W4 (fun uZ yZ _ hZ=>hM.out uZ yZ hZ))<|oc g_mv<|oc g_ex<|oc g_ex<|oc (g_fd (fdG3 _))<|oc (g_sm 3 12 (LN P++LN Q++LN 4) (LN 0) ([]) (post:=LN hh) iN) on
 intro u5 v5_1 hv5_1 HB5 sz5 K5
 simp only[sQ] at K5⊢
 clear K4 HB4
 go_upto_region 7 with fail
 apply Rp K5 HB5 [.all 1 (GE (P) (Q) (4) (hh))] [] [(0,36,_),(2,3,_)] [] [] []
 ·exact oc (g_ld 3 Tryz.underlying26 Z0)<|oc (g_st 0 Z0)<|oc g_as on
 intro u6 HB6 sz6 K6
 simp only[sQ] at K6⊢
 clear K5 HB5
 have c2_0:=((K6.cv 0) 0 _ rfl).1
 have c2_1:=((K6.cv 0) 1 _ rfl).1
 have c2_2:=((K6.cv 0) 2 _ rfl).1
 have c2_3:=((K6.cv 0) 3 _ rfl).1
 have c2_4:=((K6.cv 0) 4 _ rfl).1
 have c2_5:=((K6.cv 0) 5 _ rfl).1
 have c2_6:=((K6.cv 0) 6 _ rfl).1
 have c2_7:=((K6.cv 0) 7 _ rfl).1
 have c2_8:=((K6.cv 0) 8 _ rfl).1
 have c2_9:=((K6.cv 0) 9 _ rfl).1
 have c2_10:=((K6.cv 0) 10 _ rfl).1
 have c2_11:=((K6.cv 0) 11 _ rfl).1
 have c2_12:=((K6.cv 0) 12 _ rfl).1
 have c2_13:=((K6.cv 0) 13 _ rfl).1
 have c2_14:=((K6.cv 0) 14 _ rfl).1
 have c2_15:=((K6.cv 0) 15 _ rfl).1
 go_wp2
 refine bodyPost_ret (v:= .tuple #[GX (P) (Q) (4) (hh),.int .i64 0]) (by simp[results,Tryz.results57,go_sem,c2_0,c2_1,c2_2,c2_3,c2_4,c2_5,c2_6,c2_7,c2_8,c2_9,c2_10,c2_11,c2_12,c2_13,c2_14,c2_15]) rfl ⟨rfl,HB6⟩
theorem mem104 (p q:Int) (hg:gOk p q) (hp:In p) (hq:In q) (u:World) (v:Value) (h:IN u u.heap.size v [104]):
 CC 82 #[GX p q 4 0,v] u (.tuple #[NV (meN p [104]),.int .i64 0]):=by
 have h1:=xMemberG p q 4 0 [104] v u hp hq h (fun x hx=>by simp at hx;omega) (by decide)
 have e1:meX p q [104]=meN p [104]:=if_pos hg
 have e2:chE p q=0:=if_pos hg
 rw[e1,e2] at h1
 exact h1
theorem xParams0 (w:World):CC 57 #[.int .i64 0] w (.tuple #[GX P0 Q0 4 (meN P0 [104]),.int .i64 0]):=
 xParams_core 0 P0 Q0 2 (meN P0 [104]) 2 (stp ns0 2) w rfl (by omega) (by omega) rfl (fun u=>xChain0 u) (fun u v h=>mem104 P0 Q0 g0_ok ⟨by decide,by decide⟩ ⟨by decide,by decide⟩ u v h)
def GChk (w:World):Prop:= ∀u p q g h,Bw w u->In p->In q->In g->In h->CC 50 #[GX p q g h] u (.int .i64 (chE p q))
def GExp (w:World):Prop:= ∀u p q g h x e,Bw w u->In p->In q->In g->In h->In x->In e->CC 46 #[GX p q g h,NV x,NV e] u (.tuple #[NV (exPX p q x e),.int .i64 (exPE p q x)])
theorem pr0:Pr P0.toNat:=(cfB_pr chain0_in chain0_ok).2
theorem X9:In P0:=⟨by decide,by decide⟩
theorem In_Q0':In Q0:=⟨by decide,by decide⟩
theorem Tk:In 4:=⟨by decide,by decide⟩
theorem In_lt {p x:Int} (hp:In p) (h0:0<=x) (h1:x<=p):In x:=⟨h0,Int.lt_of_le_of_lt h1 hp.2⟩
theorem In_Mb {p q x:Int} (hp:In p) (h:Mb p q x):In x:=In_lt hp (by have:=h.1;omega) (by have:=h.2.1;omega)
theorem mb_h0:Mb P0 Q0 (meN P0 [104]):=meN_Mb pr0 g0_ok _
theorem eql_b (p q:Operand) (x:Bool) (w:World):(do eqGuard .eql 4 p q (.bool x) (.bool x);binOp .eql 4 (.bool x) (.bool x):Sem Value).run Tryz.prog w= .ok (.bool true) w:=by cases x<;>go_simp
theorem GExp.up {w u:World} (h:GExp w) (hB:Bw w u):GExp u:=fun u2 p q g h' x e hB2=>h u2 p q g h' x e (Z7 hB hB2)
theorem GChk.up {w u:World} (h:GChk w) (hB:Bw w u):GChk u:=fun u2 p q g h' hB2=>h u2 p q g h' (Z7 hB hB2)
section
section
variable {R:Rg} {P:Program} {Q:Exit->Act->World->Prop} {ops:Array Oper} {i:Nat} {o:Oper}
theorem g_mn3 {x y z:Operand} {tys:Array TypeId} {l m n r:Int} (hr:min (min l m) n=r) (hop:o.op= .call {callee:= .builtin .min,args:=[x,y,z].toArray,argTypes:=tys}:=by rfl) (hx:evR R i o x=some (.int .i64 l):=by rfl) (hy:evR R i o y=some (.int .i64 m):=by rfl) (hz:evR R i o z=some (.int .i64 n):=by rfl) (hv:some (.int .i64 r)=Y0 i R.G:=by rfl) (hc:R.chk ops i o=true:=by rfl):OG R P ops Q i o:=
 Yg hv hc fun f t u a X K hK=>by
  have h1:=X.ev hx
  have h2:=X.ev hy
  have h3:=X.ev hz
  refine Yn (v:= .int .i64 r) (w':=u) ?_ hK
  unfold execOp
  simp only[hop,resolve,invoke,builtin,Sem.run_bind,Sem.run_pure,Result.andThen_ok,List.map_toArray,List.map_cons,List.map_nil,h1,h2,h3]
  subst hr
  simp[go_sem]
  all_goals (simp only[Int.min_def];repeat' split)<;>first | rfl | omega | simp_all | (simp_all;omega)
end
theorem slNt (sl:Option Addr) (n cap k:Nat) (h:k<=n) (hc:n<=cap) (hn:sl=none->cap=0) (w:World):(Instr.sliceAt 27 (.slice sl n cap) none (some (.int .i64 k)) none).run Tryz.prog w= .ok (.slice sl k cap) w:=by
 cases sl with
 | none=>
  have e0:=hn rfl
  have e1:n=0:=by omega
  have e2:k=0:=by omega
  subst e0 e1 e2
  show (Instr.sliceAt 27 (.slice none 0 0) none (some (.int .i64 0)) none).run Tryz.prog w=_
  kernel_rfl
 | some a=>
  have h3:k<=cap:=by omega
  simp[Instr.sliceAt,Instr.slice,go_sem,Tryz.underlying27,h3]
def H0:Int:=meN P0 [104]
theorem ent_M1:EnT 57:=fun _ _=>by kernel_rfl
theorem the_core (p q g h:Int) (w:World) (hP:Hid (∀u,CC 57 #[.int .i64 0] u (.tuple #[GX p q g h,.int .i64 0]))):
 CC 28 #[] w (GX p q g h):=by
 go_enter Tryz.func28,Tryz.ntmps28
 go_upto_region 1 with fail
 obtain⟨v0,hC,HB0,K0⟩:=bx1 w L0g 26
 rw[hC]
 clear hC
 apply Rp K0 HB0 [] [(4,1,L0g,some (5,GE (p) (q) (g) (h)))] [(0,4,_),(1,3,_),(2,5,_),(3,6,_),(6,2,_)] [(5,4)] [] []
 ·exact oc (g_cl ent_M1 hP.out)<|oc g_mv<|oc g_ex<|oc g_ex<|oc (g_al 0 Tc)<|oc (g_sn 0 Z0)<|oc g_as on
 intro u1 b1_4 HB1 sz1 K1
 simp only[sQ] at K1⊢
 clear K0 HB0
 go_upto_region 2 with fail
 apply Rp K1 HB1 [.all 1 (GE (p) (q) (g) (h))] [] [(0,7,_)] [] [] []
 ·exact oc (g_ld 1 Tryz.underlying26 Z0)<|oc (g_st 0 Z0) on
 intro u2 HB2 sz2 K2
 simp only[sQ] at K2⊢
 clear K1 HB1
 have c0_0:=((K2.cv 0) 0 _ rfl).1
 have c0_1:=((K2.cv 0) 1 _ rfl).1
 have c0_2:=((K2.cv 0) 2 _ rfl).1
 have c0_3:=((K2.cv 0) 3 _ rfl).1
 have c0_4:=((K2.cv 0) 4 _ rfl).1
 have c0_5:=((K2.cv 0) 5 _ rfl).1
 have c0_6:=((K2.cv 0) 6 _ rfl).1
 have c0_7:=((K2.cv 0) 7 _ rfl).1
 have c0_8:=((K2.cv 0) 8 _ rfl).1
 have c0_9:=((K2.cv 0) 9 _ rfl).1
 have c0_10:=((K2.cv 0) 10 _ rfl).1
 have c0_11:=((K2.cv 0) 11 _ rfl).1
 have c0_12:=((K2.cv 0) 12 _ rfl).1
 have c0_13:=((K2.cv 0) 13 _ rfl).1
 have c0_14:=((K2.cv 0) 14 _ rfl).1
 have c0_15:=((K2.cv 0) 15 _ rfl).1
 go_wp2
 refine bodyPost_ret (v:=GX p q g h) (by simp[results,Tryz.results28,go_sem,c0_0,c0_1,c0_2,c0_3,c0_4,c0_5,c0_6,c0_7,c0_8,c0_9,c0_10,c0_11,c0_12,c0_13,c0_14,c0_15]) rfl ⟨rfl,HB2⟩
theorem cThe (w:World):CC 28 #[] w (GX P0 Q0 4 H0):=the_core P0 Q0 4 H0 w fun u=>xParams0 u
theorem is4:isB P0 Q0 4=true:=decide_eq_true ⟨g0_ok,is_4 pr0⟩
theorem isH0:isB P0 Q0 H0=true:=decide_eq_true ⟨g0_ok,mb_h0⟩
theorem Tl:In H0:=In_Mb X9 mb_h0
theorem two_core (sa sb:Option Addr) (n m k ca cb:Nat) (w:World) (hk:min (min (n:Int) (m:Int)) 6=(k:Int)) (h1:k<=n) (h2:n<=ca) (h3:sa=none->ca=0) (h4:k<=m) (h5:m<=cb) (h6:sb=none->cb=0):
 CC 27 #[.slice sa n ca,.slice sb m cb] w (.tuple #[.slice sa k ca,.slice sb k cb]):=by
 go_enter Tryz.func27,Tryz.ntmps27
 have HB0:Bw w w:=Below.refl _ _
 have K0_1:=Bk.nil (w.heap.size) w
 go_upto_region 1 with fail
 apply Rn K0_1 HB0 [(0,7,_),(1,8,_),(2,9,_),(3,10,_),(4,11,_),(5,6,_)]
 ·exact oc g_mv<|oc (g_ln Tryz.underlying27)<|oc g_mv<|oc (g_ln Tryz.underlying27)<|oc (g_mn3 hk)<|oc g_as on
 intro u1 HB1 sz1 K1
 simp only[sQ] at K1⊢
 clear HB0
 go_upto_region 2 with fail
 apply Rm K1 HB1 [(0,12,_),(1,13,_),(2,14,_),(3,15,_),(4,16,_),(5,17,_),(6,4,_),(7,5,_)]
 ·exact oc g_mv<|oc g_mv<|oc (g_sl (slNt sa n ca k h1 h2 h3))<|oc g_mv<|oc g_mv<|oc (g_sl (slNt sb m cb k h4 h5 h6))<|oc g_as<|oc g_as on
 intro u2 HB2 sz2 K2
 simp only[sQ] at K2⊢
 clear K1 HB1
 go_wp2
 refine bodyPost_ret (v:= .tuple #[.slice sa k ca,.slice sb k cb]) (by simp[results,Tryz.results27,go_sem,]) rfl ⟨rfl,HB2⟩
end
theorem prQ:Pr Q0.toNat:=crB_pr chain0_in 0 (by decide) (by simp[crB,knB,cat,chain0,T7,chain0_1])
theorem Mb.cancel {p q X A B:Int} (hg:gOk p q) (hX:Mb p q X) (h:A*X%p=B*X%p):A%p=B%p:=by
 have hi:=hX.inv hg
 obtain⟨c,hc⟩:=hi.2.2
 rw[Int.emod_eq_of_lt (by have:=hX.1;omega) hX.2.1] at hc
 generalize invN p q X=I at *
 have h2:=Int.emod_eq_emod_iff_emod_sub_eq_zero.1 h
 obtain⟨k,hk⟩:=Int.dvd_of_emod_eq_zero h2
 refine Int.emod_eq_emod_iff_emod_sub_eq_zero.2 (Int.emod_eq_zero_of_dvd ⟨I*k -(A -B)*c,?_⟩)
 grind
theorem co_inj1 {p q g h s s' t:Int} (hq:Pr q.toNat) (h1:isB p q g=true) (h2:isB p q h=true) (hne:g≠1):coX p q g h s t=coX p q g h s' t↔s%q=s'%q:=by
 obtain⟨hg,m1⟩:=Wq h1
 obtain⟨_,m2⟩:=Wq h2
 have h3:=hg.q3
 rw[coX_is h1 h2,coX_is h1 h2]
 refine⟨fun e=>?_,fun e=>by rw[e]⟩
 have e:=Mb.cancel hg (m2.pow hg _) e
 rw[Int.emod_emod,Int.emod_emod] at e
 have e:=pow_inj hq hg m1 hne e
 have r1:=Int.emod_nonneg s (show q≠0 by omega)
 have r2:=Int.emod_nonneg s' (show q≠0 by omega)
 rwa [Int.toNat_of_nonneg r1,Int.toNat_of_nonneg r2,Int.emod_emod,Int.emod_emod] at e
theorem co_inj2 {p q g h s t t':Int} (hq:Pr q.toNat) (h1:isB p q g=true) (h2:isB p q h=true) (hne:h≠1):coX p q g h s t=coX p q g h s t'↔t%q=t'%q:=by
 obtain⟨hg,m1⟩:=Wq h1
 obtain⟨_,m2⟩:=Wq h2
 have h3:=hg.q3
 rw[coX_is h1 h2,coX_is h1 h2]
 refine⟨fun e=>?_,fun e=>by rw[e]⟩
 rw[Int.mul_comm,Int.mul_comm (g^(s%q).toNat%p)] at e
 have e:=Mb.cancel hg (m1.pow hg _) e
 rw[Int.emod_emod,Int.emod_emod] at e
 have e:=pow_inj hq hg m2 hne e
 have r1:=Int.emod_nonneg t (show q≠0 by omega)
 have r2:=Int.emod_nonneg t' (show q≠0 by omega)
 rwa [Int.toNat_of_nonneg r1,Int.toNat_of_nonneg r2,Int.emod_emod,Int.emod_emod] at e
def dlE (p q g h d:Int) (ss ts:List Int):Int:=if gOk p q then (if ndB d&&shB ss.length ts.length then (if isB p q g&&isB p q h then 0 else 90) else 110) else 90
def dlD (p q g h d:Int) (ss ts:List Int):Int:=if dlE p q g h d ss ts=0 then d else 0
def dlC (p q g h d:Int) (ss ts:List Int):List Int:=if dlE p q g h d ss ts=0 then cmS p q g h ss ts else []
structure VOK (w:World):Prop where
 share: ∀u,Bw w u-> ∀(p q g h nd:Int) (ss ts:List Int) (v v2:Value),In p->In q->In g->In h-> -9223372036854775808<=nd/\nd<9223372036854775808->NL u v ss->NL u v2 ts->(∀z∈ss,In z)->(∀z∈ts,In z)->ss.length<=7->ts.length<=7->CC 12 #[GX p q g h,.int .i64 nd,v,v2] u (.tuple #[shV p q nd ss ts,.int .i64 (shO p q nd ss ts)])
 deal: ∀u,Bw w u-> ∀(p q g h d:Int) (ss ts:List Int) (v v2:Value),In p->In q->In g->In h-> -9223372036854775808<=d/\d<9223372036854775808->NL u v ss->NL u v2 ts->(∀z∈ss,In z)->(∀z∈ts,In z)->ss.length<=7->ts.length<=7->Calls Tryz.prog 10 #[GX p q g h,.int .i64 d,v,v2] u fun e u'=> ∃y,e= .returned (.tuple #[DX (dlD p q g h d ss ts) y,.int .i64 (dlE p q g h d ss ts)])/\NL u' y (dlC p q g h d ss ts)/\Bw u u'
 check: ∀u,Bw w u-> ∀(p q g h d:Int) (ns:List Int) (v:Value),In p->In q->In g->In h-> -9223372036854775808<=d/\d<9223372036854775808->NL u v ns->(∀z∈ns,In z)->ns.length<=7->CC 19 #[GX p q g h,DX d v] u (.int .i64 (dcE p q d ns))
 verify: ∀u,Bw w u-> ∀(p q g h d nd s t:Int) (ns:List Int) (v:Value),In p->In q->In g->In h-> -9223372036854775808<=d/\d<9223372036854775808-> -9223372036854775808<=nd/\nd<9223372036854775808->In s->In t->NL u v ns->(∀z∈ns,In z)->ns.length<=7->CC 21 #[GX p q g h,DX d v,SX nd s t] u (.int .i64 (veE p q g h d nd s t ns))
theorem VOK.up {w u:World} (h:VOK w) (hB:Bw w u):VOK u:=⟨fun v hv=>h.share v (Z7 hB hv),fun v hv=>h.deal v (Z7 hB hv),fun v hv=>h.check v (Z7 hB hv),fun v hv=>h.verify v (Z7 hB hv)⟩
theorem w_sh:shO P0 Q0 2 [3,2] [5,7]=0:=by decide
theorem w_s:hoN Q0 2 [3,2] ([3,2]:List Int).length=7:=by decide
theorem w_t:hoN Q0 2 [5,7] ([5,7]:List Int).length=19:=by decide
theorem w_sv:shV P0 Q0 2 [3,2] [5,7]=SX 2 7 19:=by rw[shV,if_pos w_sh,w_s,w_t]
theorem dl_0 {d:Int} {ss ts:List Int} (hd:ndB d=true) (hs:shB ss.length ts.length=true):dlE P0 Q0 4 H0 d ss ts=0:=by
 unfold dlE;rw[if_pos g0_ok,hd,hs,is4,isH0];rfl
theorem w_v7:veE P0 Q0 4 H0 1 2 7 19 (cmS P0 Q0 4 H0 [3,2] [5,7])=0:=by
 rw[W8 is4 isH0 (by decide) (by decide) (by decide),w_s,w_t,if_pos rfl]
theorem w_v8:veE P0 Q0 4 H0 1 2 8 19 (cmS P0 Q0 4 H0 [3,2] [5,7])=100:=by
 rw[W8 is4 isH0 (by decide) (by decide) (by decide),w_s,w_t,if_neg]
 exact fun e=>absurd ((co_inj1 prQ is4 isH0 (by decide)).1 e) (by decide)
theorem ent_V7:EnT 17:=fun _ _=>by kernel_rfl
abbrev DQ:Value:= .agg L0d.toArray
theorem zDq (w:World):(Instr.build 30 [].toArray).run Tryz.prog w= .ok DQ w:=by kernel_rfl
theorem bdDq (d:Int) (s:Option Addr) (n c:Nat) (w:World):(Instr.build 30 [(0,.int .i64 d),(1,.slice s n c)].toArray).run Tryz.prog w= .ok (DX d (.slice s n c)) w:=by kernel_rfl
theorem vdl_c (p q g h d c:Int) (sa sb:Option Addr) (ca cb:Nat) (ss ts:List Int) (w:World) (hc:(c !=0)=true)(hP:Hid (∀u,CC 34 #[GX p q g h,.slice sa ss.length ca,.slice sb ts.length cb] u (.int .i64 c))):
 CC 10 #[GX p q g h,.int .i64 d,.slice sa ss.length ca,.slice sb ts.length cb] w (.tuple #[DQ,.int .i64 c]):=by
 go_enter Tryz.func10,Tryz.ntmps10
 go_upto_region 1 with fail
 obtain⟨v0,hC,HB0,K0⟩:=bx2 w (GE (p) (q) (g) (h)) 26 L0d 30
 rw[hC]
 clear hC
 apply Rn K0 HB0 [(0,15,_),(1,16,_),(2,17,_),(3,18,_),(4,10,_)]
 ·exact oc (g_ld 0 Tryz.underlying26 Z0)<|oc g_mv<|oc g_mv<|oc (g_cl Zk hP.out)<|oc g_as on
 intro u1 HB1 sz1 K1
 simp only[sQ] at K1⊢
 clear K0 HB0
 go_upto_region 2 with fail
 apply Rn K1 HB1 [(0,20,_),(1,21,_),(2,19,_)]
 ·exact oc g_mv<|oc (g_bn (fun uZ=>Zs _ _ _ c 0 _ uZ hc))<|oc g_as on
 intro u2 HB2 sz2 K2
 simp only[sQ] at K2⊢
 clear K1 HB1
 go_upto_region 3 with fail
 apply Rp K2 HB2 [.no,.all 2 (L0d)] [] [(0,22,_),(1,23,_),(3,9,_)] [] [] []
 ·exact oc (g_bd zDq)<|oc g_mv<|oc (g_st 1 Z2)<|oc g_as on
 intro u3 HB3 sz3 K3
 simp only[sQ] at K3⊢
 clear K2 HB2
 have c8_0:=((K3.cv 1) 0 _ rfl).1
 have c8_1:=((K3.cv 1) 1 _ rfl).1
 go_wp2
 refine bodyPost_ret (v:= .tuple #[DQ,.int .i64 c]) (by simp[results,Tryz.results10,go_sem,c8_0,c8_1]) rfl ⟨rfl,HB3⟩
theorem vdl_n (p q g h d:Int) (sa sb:Option Addr) (ca cb:Nat) (ss ts:List Int) (w:World) (hP:Hid (∀u,CC 34 #[GX p q g h,.slice sa ss.length ca,.slice sb ts.length cb] u (.int .i64 0)))(hN:Hid (∀u,CC 35 #[.int .i64 d] u (.bool false))):
 CC 10 #[GX p q g h,.int .i64 d,.slice sa ss.length ca,.slice sb ts.length cb] w (.tuple #[DQ,.int .i64 110]):=by
 go_enter Tryz.func10,Tryz.ntmps10
 go_upto_region 1 with fail
 obtain⟨v0,hC,HB0,K0⟩:=bx2 w (GE (p) (q) (g) (h)) 26 L0d 30
 rw[hC]
 clear hC
 apply Rn K0 HB0 [(0,15,_),(1,16,_),(2,17,_),(3,18,_),(4,10,_)]
 ·exact oc (g_ld 0 Tryz.underlying26 Z0)<|oc g_mv<|oc g_mv<|oc (g_cl Zk hP.out)<|oc g_as on
 intro u1 HB1 sz1 K1
 simp only[sQ] at K1⊢
 clear K0 HB0
 go_upto_region 2 with fail
 apply Rn K1 HB1 [(0,20,_),(1,21,_),(2,19,_)]
 ·exact oc g_mv<|oc (g_bn (fun uZ=>Zs _ _ _ 0 0 _ uZ rfl))<|oc g_as on
 intro u2 HB2 sz2 K2
 simp only[sQ] at K2⊢
 clear K1 HB1
 go_upto_region 4 with fail
 apply Rn K2 HB2 [(0,25,_),(1,26,_),(2,27,_),(3,24,_)]
 ·exact oc g_mv<|oc (g_cl Zh hN.out)<|oc (g_un not_f)<|oc g_as on
 intro u3 HB3 sz3 K3
 simp only[sQ] at K3⊢
 clear K2 HB2
 go_upto_region 5 with fail
 apply Rp K3 HB3 [.no,.all 1 (L0d)] [] [(0,28,_),(2,9,_)] [] [] []
 ·exact oc (g_bd zDq)<|oc (g_st 1 Z2)<|oc g_as on
 intro u4 HB4 sz4 K4
 simp only[sQ] at K4⊢
 clear K3 HB3
 have c8_0:=((K4.cv 1) 0 _ rfl).1
 have c8_1:=((K4.cv 1) 1 _ rfl).1
 go_wp2
 refine bodyPost_ret (v:= .tuple #[DQ,.int .i64 110]) (by simp[results,Tryz.results10,go_sem,c8_0,c8_1]) rfl ⟨rfl,HB4⟩
theorem vdl_k (p q g h d:Int) (sa sb:Option Addr) (ca cb ga oa gb ob:Nat) (ss ts cs:List Int) (w:World) (hP:Hid (∀u,CC 34 #[GX p q g h,.slice sa ss.length ca,.slice sb ts.length cb] u (.int .i64 0)))(hN:Hid (∀u,CC 35 #[.int .i64 d] u (.bool true)))(hixa:Hid (∀j,j<ss.length-> ∀W,(Instr.indexAt 27 (.slice sa ss.length ca) (.int .i64 j)).run Tryz.prog W= .ok (.pointer (some ⟨ga,oa+4*j,none⟩)) W)) (hga:ss.length=0\/ga<w.heap.size) (hSa:Hid (SN w ga oa ss)) (hna:Hid (∀k,k<ss.length->In (ss.getD k 0)))(hixb:Hid (∀j,j<ts.length-> ∀W,(Instr.indexAt 27 (.slice sb ts.length cb) (.int .i64 j)).run Tryz.prog W= .ok (.pointer (some ⟨gb,ob+4*j,none⟩)) W)) (hgb:ts.length=0\/gb<w.heap.size) (hSb:Hid (SN w gb ob ts)) (hnb:Hid (∀k,k<ts.length->In (ts.getD k 0)))(hst:Hid (ss.length=ts.length)) (h1:1<=ss.length) (h6:ss.length<=6) (hcl:Hid (cs.length=ss.length)) (hCm:Hid (∀k,k<ss.length-> ∀u,Bw w u->CC 36 #[GX p q g h,NV (ss.getD k 0),NV (ts.getD k 0)] u (.tuple #[NV (cs.getD k 0),.int .i64 0]))):
 Calls Tryz.prog 10 #[GX p q g h,.int .i64 d,.slice sa ss.length ca,.slice sb ts.length cb] w fun e' w'=> ∃y,e'= .returned (.tuple #[DX d y,.int .i64 0])/\PRw w.heap.size cs w' y/\Bw w w':=by
 go_enter Tryz.func10,Tryz.ntmps10
 go_upto_region 1 with fail
 obtain⟨v0,hC,HB0,K0⟩:=bx2 w (GE (p) (q) (g) (h)) 26 L0d 30
 rw[hC]
 clear hC
 apply Rn K0 HB0 [(0,15,_),(1,16,_),(2,17,_),(3,18,_),(4,10,_)]
 ·exact oc (g_ld 0 Tryz.underlying26 Z0)<|oc g_mv<|oc g_mv<|oc (g_cl Zk hP.out)<|oc g_as on
 intro u1 HB1 sz1 K1
 simp only[sQ] at K1⊢
 clear K0 HB0
 go_upto_region 2 with fail
 apply Rn K1 HB1 [(0,20,_),(1,21,_),(2,19,_)]
 ·exact oc g_mv<|oc (g_bn (fun uZ=>Zs _ _ _ 0 0 _ uZ rfl))<|oc g_as on
 intro u2 HB2 sz2 K2
 simp only[sQ] at K2⊢
 clear K1 HB1
 go_upto_region 4 with fail
 apply Rn K2 HB2 [(0,25,_),(1,26,_),(2,27,_),(3,24,_)]
 ·exact oc g_mv<|oc (g_cl Zh hN.out)<|oc (g_un Wp)<|oc g_as on
 intro u3 HB3 sz3 K3
 simp only[sQ] at K3⊢
 clear K2 HB2
 have hw0:w.heap.size<=u3.heap.size:=HB3.size
 go_upto_region 6 with fail
 apply Rf K3 HB3 [] [] [(0,29,_),(1,30,_)] [] [] [⟨2,31,some 3,PRz u3.heap.size ss.length⟩,⟨3,11,none,PRz u3.heap.size ss.length⟩] []
 ·exact oc g_mv<|oc (g_ln Tryz.underlying27)<|oc (g_mS 0 (PRz u3.heap.size ss.length) ss.length (flN (List.replicate ss.length 0)) (mkNt _ (by omega)) (fun u h=>PRz.new u h))<|oc (g_sE 0 1 (PRz u3.heap.size ss.length)) on
 intro u4 v4_2 hv4_2 v4_3 hv4_3 HB4 sz4 K4
 simp only[sQ] at K4⊢
 clear HB3
 obtain⟨bo,rfl,o1,o2,o3⟩:=hv4_3 rfl
 have K4xo:=Bk.more3 K3 K4 o1 o2 o3 (by intro x hx;first | (simp at hx;done) | (simp at hx⊢;omega))
 simp only[aK] at K4xo
 clear K4
 have hbo:w.heap.size<=bo:=Nat.le_trans hw0 o1
 go_upto_region 7 with fail
 apply Rn K4xo HB4 [(0,32,_),(1,33,_),(2,34,_)]
 ·exact oc g_mv<|oc (g_ln Tryz.underlying27)<|oc g_mv on
 intro u5 HB5 sz5 K5
 simp only[sQ] at K5⊢
 clear HB4
 go_wp2_with fail
 go_loopw [34] (fun s34 wr=> ∃(k:Nat),k<=ss.length/\s34= .int .i64 (k:Int)/\Bw w wr/\CV wr (w.heap.size) (GE (p) (q) (g) (h))/\w.heap.size<wr.heap.size/\CV wr (w.heap.size+1) (L0d)/\w.heap.size+1<wr.heap.size/\CV wr (bo) (flN (rowN cs k))/\bo<wr.heap.size) (fun s34 _=>ss.length -(intOf s34).toNat)
 case atStart=>exact⟨0,by omega,rfl,HB5,(K5.cv 0),(K5.lt 0),(K5.cv 1),(K5.lt 1),by rw[rowN_0,hcl.out];exact(K5.cv 2),(K5.lt 2)⟩
 case round=>
  obtain⟨k,hk,rfl,HBr,C0,lC0,C1,lC1,C2,lC2⟩:=hrel
  clear HB5
  have hnK:=K5.n
  simp at hnK
  by_cases hj:k<ss.length
  ·have hl:decide ((k:Int)<(ss.length:Int))=true:=by simp;omega
   have hj2:k<ts.length:=by have:=hst.out;omega
   have hkx:k<cs.length:=by rw[hcl.out];exact hj
   have hX:=hixa.out _ hj
   have hX:Hid _:=hX
   have hR:=hSa.out.at _ hj
   have hR:Hid _:=hR
   have hXb:=hixb.out _ hj2
   have hXb:Hid _:=hXb
   have hRb:=hSb.out.at _ hj2
   have hRb:Hid _:=hRb
   have ga':=hga.resolve_left (by omega)
   have gb':=hgb.resolve_left (by omega)
   have hM:=hCm.out k hj
   obtain⟨x,ex⟩: ∃x,ss.getD k 0=x:=⟨_,rfl⟩
   rw[ex] at hR hM
   clear ex
   obtain⟨y,ey⟩: ∃y,ts.getD k 0=y:=⟨_,rfl⟩
   rw[ey] at hRb hM
   clear ey
   have hXL:=rowN_len (vs:=cs) (k:=k) (by omega)
   have hNx:=rowN_next (vs:=cs) (k:=k) (by omega)
   rw[rowN_split (vs:=cs) (k:=k) (by omega)] at C2
   obtain⟨X,eX⟩: ∃X,flN (List.take k cs)=X:=⟨_,rfl⟩
   obtain⟨Z,eZ⟩: ∃Z,flN (List.replicate (List.length cs -(k+1)) 0)=Z:=⟨_,rfl⟩
   rw[eX] at hXL hNx C2
   rw[eZ] at hNx C2
   clear eX eZ
   obtain⟨c,ec⟩: ∃c,cs.getD k 0=c:=⟨_,rfl⟩
   rw[ec] at hM hNx
   clear ec hkx
   have hXL:Hid _:=hXL
   have hNx:Hid _:=hNx
   have hM:Hid _:=hM
   have K5_1:Bk w.heap.size wr [(false,w.heap.size,GE (p) (q) (g) (h)),(true,w.heap.size+1,L0d),(true,bo,X++LN 0++Z)]:=⟨.c lC0 C0<| .o lC1 (K5.lo 1) C1<| .o lC2 (by omega) C2<|trivial,by simp<;>omega⟩
   go_upto_region 8 with fail
   apply Rn K5_1 HBr [(0,35,_)]
   ·exact oc (g_bn (fun uZ=>Zw _ _ (k:Int) (ss.length:Int) _ uZ hl)) on
   intro u6 HB6 sz6 K6
   simp only[sQ] at K6⊢
   go_upto_region 9 with fail
   apply Rn K6 HB6 [(0,36,_),(1,12,_)]
   ·exact oc g_mv<|oc g_as on
   intro u7 HB7 sz7 K7
   simp only[sQ] at K7⊢
   clear K6 HB6
   go_upto_region 10 with fail
   apply Rd K7 HB7 [] [(13,13,L0s,some (14,LN c))] [(0,38,_),(1,39,_),(2,40,_),(3,41,_),(4,42,_),(5,43,_),(6,44,_),(7,45,_),(8,46,_),(9,47,_),(10,37,_),(11,48,_),(12,49,_),(15,14,_)] [(14,13)] [] []
   ·exact oc (g_ld 0 Tryz.underlying26 Z0)<|oc g_mv<|oc g_mv<|oc (g_ix hX.out)<|oc (g_lf hR.out ga' uN iN)<|oc g_mv<|oc g_mv<|oc (g_ix hXb.out)<|oc (g_lf hRb.out gb' uN iN)<|oc (g_cb ent_V4 hM.out)<|oc g_mv<|oc g_ex<|oc g_ex<|oc (g_al 0 aN)<|oc (g_sn 0 iN)<|oc g_as on
   intro u8 b8_13 HB8 sz8 K8
   simp only[sQ] at K8⊢
   clear K7 HB7
   go_upto_region 11 with fail
   apply Rn K8 HB8 [(0,50,_),(1,51,_)]
   ·exact oc g_mv<|oc (g_bn (fun uZ=>Zs _ _ _ 0 0 _ uZ rfl)) on
   intro u9 HB9 sz9 K9
   simp only[sQ] at K9⊢
   clear K8 HB8
   go_upto_region 13 with fail
   apply Rp K9 HB9 [.no,.no,.all 4 (X++LN c++Z)] [] [(0,54,_),(1,55,_),(2,56,_),(3,57,_)] [] [] []
   ·exact oc g_mv<|oc g_mv<|oc (g_ld 3 uN iN)<|oc (g_ix (ixZ _ _ _ k hj))<|oc (g_sm 2 (4*k) (X) (LN 0) (Z) (post:=LN c) (hxc:=hXL.out) iN) on
   intro u10 HB10 sz10 K10
   simp only[sQ] at K10⊢
   clear K9 HB9
   go_upto_region 14 with fail
   apply Rp K10 HB10 [] [] [(0,58,_),(1,34,_)] [(1,0)] [(1,34)] []
   ·exact oc (g_bn (fun uZ=>Yq _ _ (k:Int) 1 ((k+1:Nat):Int) uZ (by omega) (by omega) (by omega)))<|oc g_mv on
   intro u11 HB11 sz11 K11
   simp only[sQ] at K11⊢
   clear K10 HB10
   go_wp2
   refine⟨⟨k+1,by omega,rfl,HB11,(K11.cv 0),(K11.lt 0),(K11.cv 1),(K11.lt 1),by rw[hNx.out];exact(K11.cv 2),(K11.lt 2)⟩,?_⟩
   simp[intOf]<;>omega
  ·have hl:decide ((k:Int)<(ss.length:Int))=false:=by simp;omega
   have hkn:k=cs.length:=by rw[hcl.out];omega
   rw[hkn,rowN_end] at C2
   clear hkn
   have K5_1:Bk w.heap.size wr [(false,w.heap.size,GE (p) (q) (g) (h)),(true,w.heap.size+1,L0d),(true,bo,flN cs)]:=⟨.c lC0 C0<| .o lC1 (K5.lo 1) C1<| .o lC2 (by omega) C2<|trivial,by simp<;>omega⟩
   go_upto_region 8 with fail
   apply Rn K5_1 HBr [(0,35,_)]
   ·exact oc (g_bn (fun uZ=>Zw _ _ (k:Int) (ss.length:Int) _ uZ hl)) on
   intro u6 HB6 sz6 K6
   simp only[sQ] at K6⊢
   go_upto_region 15 with fail
   apply Rp K6 HB6 [.no,.all 3 (DE (d) (.slice (some ⟨bo,0,none⟩) ss.length ss.length))] [] [(0,59,_),(1,60,_),(2,61,_),(4,9,_)] [] [] []
   ·exact oc g_mv<|oc g_mv<|oc (g_bd (bdDq d _ _ _))<|oc (g_st 1 Z2)<|oc g_as on
   intro u7 HB7 sz7 K7
   simp only[sQ] at K7⊢
   clear K6 HB6
   have c0:=((K7.cv 1) 0 _ rfl).1
   have c1:=((K7.cv 1) 1 _ rfl).1
   go_wp2
   exact bodyPost_ret (v:= .tuple #[DX d (.slice (some ⟨bo,0,none⟩) ss.length ss.length),.int .i64 0]) (by simp[results,Tryz.results10,go_sem,c0,c1]) rfl ⟨_,rfl,⟨bo,by rw[hcl.out],hbo,(K7.lt 2),(K7.cv 2)⟩,HB7⟩
theorem vdl_m (p q g h d er:Int) (sa sb:Option Addr) (ca cb ga oa gb ob:Nat) (ss ts cs:List Int) (w:World) (he:(er !=0)=true)(hP:Hid (∀u,CC 34 #[GX p q g h,.slice sa ss.length ca,.slice sb ts.length cb] u (.int .i64 0)))(hN:Hid (∀u,CC 35 #[.int .i64 d] u (.bool true)))(hixa:Hid (∀j,j<ss.length-> ∀W,(Instr.indexAt 27 (.slice sa ss.length ca) (.int .i64 j)).run Tryz.prog W= .ok (.pointer (some ⟨ga,oa+4*j,none⟩)) W)) (hga:ss.length=0\/ga<w.heap.size) (hSa:Hid (SN w ga oa ss)) (hna:Hid (∀k,k<ss.length->In (ss.getD k 0)))(hixb:Hid (∀j,j<ts.length-> ∀W,(Instr.indexAt 27 (.slice sb ts.length cb) (.int .i64 j)).run Tryz.prog W= .ok (.pointer (some ⟨gb,ob+4*j,none⟩)) W)) (hgb:ts.length=0\/gb<w.heap.size) (hSb:Hid (SN w gb ob ts)) (hnb:Hid (∀k,k<ts.length->In (ts.getD k 0)))(hst:Hid (ss.length=ts.length)) (h1:1<=ss.length) (h6:ss.length<=6) (hcl:Hid (cs.length=ss.length)) (hCm:Hid (∀k,k<ss.length-> ∀u,Bw w u->CC 36 #[GX p q g h,NV (ss.getD k 0),NV (ts.getD k 0)] u (.tuple #[NV (cs.getD k 0),.int .i64 er]))):
 CC 10 #[GX p q g h,.int .i64 d,.slice sa ss.length ca,.slice sb ts.length cb] w (.tuple #[DQ,.int .i64 er]):=by
 go_enter Tryz.func10,Tryz.ntmps10
 go_upto_region 1 with fail
 obtain⟨v0,hC,HB0,K0⟩:=bx2 w (GE (p) (q) (g) (h)) 26 L0d 30
 rw[hC]
 clear hC
 apply Rn K0 HB0 [(0,15,_),(1,16,_),(2,17,_),(3,18,_),(4,10,_)]
 ·exact oc (g_ld 0 Tryz.underlying26 Z0)<|oc g_mv<|oc g_mv<|oc (g_cl Zk hP.out)<|oc g_as on
 intro u1 HB1 sz1 K1
 simp only[sQ] at K1⊢
 clear K0 HB0
 go_upto_region 2 with fail
 apply Rn K1 HB1 [(0,20,_),(1,21,_),(2,19,_)]
 ·exact oc g_mv<|oc (g_bn (fun uZ=>Zs _ _ _ 0 0 _ uZ rfl))<|oc g_as on
 intro u2 HB2 sz2 K2
 simp only[sQ] at K2⊢
 clear K1 HB1
 go_upto_region 4 with fail
 apply Rn K2 HB2 [(0,25,_),(1,26,_),(2,27,_),(3,24,_)]
 ·exact oc g_mv<|oc (g_cl Zh hN.out)<|oc (g_un Wp)<|oc g_as on
 intro u3 HB3 sz3 K3
 simp only[sQ] at K3⊢
 clear K2 HB2
 have hw0:w.heap.size<=u3.heap.size:=HB3.size
 go_upto_region 6 with fail
 apply Rf K3 HB3 [] [] [(0,29,_),(1,30,_)] [] [] [⟨2,31,some 3,PRz u3.heap.size ss.length⟩,⟨3,11,none,PRz u3.heap.size ss.length⟩] []
 ·exact oc g_mv<|oc (g_ln Tryz.underlying27)<|oc (g_mS 0 (PRz u3.heap.size ss.length) ss.length (flN (List.replicate ss.length 0)) (mkNt _ (by omega)) (fun u h=>PRz.new u h))<|oc (g_sE 0 1 (PRz u3.heap.size ss.length)) on
 intro u4 v4_2 hv4_2 v4_3 hv4_3 HB4 sz4 K4
 simp only[sQ] at K4⊢
 clear HB3
 obtain⟨bo,rfl,o1,o2,o3⟩:=hv4_3 rfl
 have K4xo:=Bk.more3 K3 K4 o1 o2 o3 (by intro x hx;first | (simp at hx;done) | (simp at hx⊢;omega))
 simp only[aK] at K4xo
 clear K4
 have hbo:w.heap.size<=bo:=Nat.le_trans hw0 o1
 go_upto_region 7 with fail
 apply Rn K4xo HB4 [(0,32,_),(1,33,_),(2,34,_)]
 ·exact oc g_mv<|oc (g_ln Tryz.underlying27)<|oc g_mv on
 intro u5 HB5 sz5 K5
 simp only[sQ] at K5⊢
 clear HB4
 go_wp2_with fail
 go_loopw [34] (fun s34 wr=> ∃(k:Nat),k<=ss.length/\s34= .int .i64 (k:Int)/\Bw w wr/\CV wr (w.heap.size) (GE (p) (q) (g) (h))/\w.heap.size<wr.heap.size/\CV wr (w.heap.size+1) (L0d)/\w.heap.size+1<wr.heap.size/\CV wr (bo) (flN (rowN cs k))/\bo<wr.heap.size/\k=0) (fun s34 _=>ss.length -(intOf s34).toNat)
 case atStart=>exact⟨0,by omega,rfl,HB5,(K5.cv 0),(K5.lt 0),(K5.cv 1),(K5.lt 1),by rw[rowN_0,hcl.out];exact(K5.cv 2),(K5.lt 2),rfl⟩
 case round=>
  obtain⟨k,hk,rfl,HBr,C0,lC0,C1,lC1,C2,lC2,k0⟩:=hrel
  clear HB5
  have hnK:=K5.n
  simp at hnK
  by_cases hj:k<ss.length
  ·have hl:decide ((k:Int)<(ss.length:Int))=true:=by simp;omega
   have hj2:k<ts.length:=by have:=hst.out;omega
   have hkx:k<cs.length:=by rw[hcl.out];exact hj
   have hX:=hixa.out _ hj
   have hX:Hid _:=hX
   have hR:=hSa.out.at _ hj
   have hR:Hid _:=hR
   have hXb:=hixb.out _ hj2
   have hXb:Hid _:=hXb
   have hRb:=hSb.out.at _ hj2
   have hRb:Hid _:=hRb
   have ga':=hga.resolve_left (by omega)
   have gb':=hgb.resolve_left (by omega)
   have hM:=hCm.out k hj
   obtain⟨x,ex⟩: ∃x,ss.getD k 0=x:=⟨_,rfl⟩
   rw[ex] at hR hM
   clear ex
   obtain⟨y,ey⟩: ∃y,ts.getD k 0=y:=⟨_,rfl⟩
   rw[ey] at hRb hM
   clear ey
   obtain⟨c,ec⟩: ∃c,cs.getD k 0=c:=⟨_,rfl⟩
   rw[ec] at hM
   clear ec hkx
   have hM:Hid _:=hM
   have K5_1:Bk w.heap.size wr [(false,w.heap.size,GE (p) (q) (g) (h)),(true,w.heap.size+1,L0d),(true,bo,flN (rowN cs k))]:=⟨.c lC0 C0<| .o lC1 (K5.lo 1) C1<| .o lC2 (by omega) C2<|trivial,by simp<;>omega⟩
   go_upto_region 8 with fail
   apply Rn K5_1 HBr [(0,35,_)]
   ·exact oc (g_bn (fun uZ=>Zw _ _ (k:Int) (ss.length:Int) _ uZ hl)) on
   intro u6 HB6 sz6 K6
   simp only[sQ] at K6⊢
   go_upto_region 9 with fail
   apply Rn K6 HB6 [(0,36,_),(1,12,_)]
   ·exact oc g_mv<|oc g_as on
   intro u7 HB7 sz7 K7
   simp only[sQ] at K7⊢
   clear K6 HB6
   go_upto_region 10 with fail
   apply Rd K7 HB7 [] [(13,13,L0s,some (14,LN c))] [(0,38,_),(1,39,_),(2,40,_),(3,41,_),(4,42,_),(5,43,_),(6,44,_),(7,45,_),(8,46,_),(9,47,_),(10,37,_),(11,48,_),(12,49,_),(15,14,_)] [(14,13)] [] []
   ·exact oc (g_ld 0 Tryz.underlying26 Z0)<|oc g_mv<|oc g_mv<|oc (g_ix hX.out)<|oc (g_lf hR.out ga' uN iN)<|oc g_mv<|oc g_mv<|oc (g_ix hXb.out)<|oc (g_lf hRb.out gb' uN iN)<|oc (g_cb ent_V4 hM.out)<|oc g_mv<|oc g_ex<|oc g_ex<|oc (g_al 0 aN)<|oc (g_sn 0 iN)<|oc g_as on
   intro u8 b8_13 HB8 sz8 K8
   simp only[sQ] at K8⊢
   clear K7 HB7
   go_upto_region 11 with fail
   apply Rn K8 HB8 [(0,50,_),(1,51,_)]
   ·exact oc g_mv<|oc (g_bn (fun uZ=>Zs _ _ _ er 0 _ uZ he)) on
   intro u9 HB9 sz9 K9
   simp only[sQ] at K9⊢
   clear K8 HB8
   go_upto_region 12 with fail
   apply Rp K9 HB9 [.no,.all 2 (L0d)] [] [(0,52,_),(1,53,_),(3,9,_)] [] [] []
   ·exact oc (g_bd zDq)<|oc g_mv<|oc (g_st 1 Z2)<|oc g_as on
   intro u10 HB10 sz10 K10
   simp only[sQ] at K10⊢
   clear K9 HB9
   have c8_0:=((K10.cv 1) 0 _ rfl).1
   have c8_1:=((K10.cv 1) 1 _ rfl).1
   go_wp2
   refine bodyPost_ret (v:= .tuple #[DQ,.int .i64 er]) (by simp[results,Tryz.results10,go_sem,c8_0,c8_1]) rfl ⟨rfl,HB10⟩
  ·exact absurd k0 (by omega)
theorem NL_nil (u:World):NL u (.slice none 0 0) []:=⟨none,0,0,0,rfl,Nat.le_refl _,fun _=>rfl,.inl rfl,.inl rfl,SN.empty rfl⟩
theorem vDeal (p q g h d:Int) (ss ts:List Int) (v v2:Value) (w:World) (hG:GT w) (hp:In p) (hq:In q) (hg:In g) (hh:In h) (hv:NL w v ss) (hv2:NL w v2 ts) (hs: ∀z∈ss,In z) (ht: ∀z∈ts,In z):Calls Tryz.prog 10 #[GX p q g h,.int .i64 d,v,v2] w fun e u=> ∃y,e= .returned (.tuple #[DX (dlD p q g h d ss ts) y,.int .i64 (dlE p q g h d ss ts)])/\NL u y (dlC p q g h d ss ts)/\Bw w u:=by
 obtain⟨sa,ga,oa,ca,rfl,a2,a3,a4,a5,a6⟩:=hv
 obtain⟨sb,gb,ob,cb,rfl,b2,b3,b4,b5,b6⟩:=hv2
 have hP:=fun u=>vPolys p q g h sa sb ss.length ts.length ca cb u hp hq
 have hN:=fun u=>vNode d u
 have no: ∀c:Int,c≠0->dlE p q g h d ss ts=c-> ∀(e:Ending) (u:World),(e= .returned (.tuple #[DQ,.int .i64 c])/\Bw w u)-> ∃y,e= .returned (.tuple #[DX (dlD p q g h d ss ts) y,.int .i64 (dlE p q g h d ss ts)])/\NL u y (dlC p q g h d ss ts)/\Bw w u:=fun c hc h1 e u h2=>by
  rw[dlD,dlC,h1,if_neg hc,if_neg hc]
  exact⟨_,h2.1,NL_nil u,h2.2⟩
 unfold plE at hP
 by_cases c1:gOk p q
 ·simp only[if_pos c1] at hP
  by_cases c2:shB ss.length ts.length=true
  ·simp only[if_pos c2] at hP
   have hb2:=shB_iff.1 c2
   by_cases c3:ndB d=true
   ·rw[show decide (1<=d/\d<=16)=true from c3] at hN
    have hC:=fun k (hk:k<ss.length) u (hB:Bw w u)=>cComG p q g h (ss.getD k 0) (ts.getD k 0) u (hG.below hB) hp hq hg hh (Ym hs k hk) (Ym ht k (by omega))
    have hcs: ∀k,k<ss.length->coX p q g h (ss.getD k 0) (ts.getD k 0)=(cmS p q g h ss ts).getD k 0:=fun k hk=>by rw[cmS,Ul hk]
    by_cases c4:(isB p q g&&isB p q h)=true
    ·have e0:dlE p q g h d ss ts=0:=by simp[dlE,c1,c2,c3,c4]
     have e1:coE p q g h=0:=by rw[coE,if_pos c4]
     refine(vdl_k p q g h d sa sb ca cb ga oa gb ob ss ts (cmS p q g h ss ts) w hP hN (NL.ix (u:=w) a4) a5 a6 (Ym hs) (NL.ix (u:=w) b4) b5 b6 (Ym ht) hb2.1 hb2.2.1 hb2.2.2 (Wm _ _ _ _ _ _) (fun k hk u hB=>by have:=hC k hk u hB;rw[e1,hcs k hk] at this;exact this)).mono fun e u ⟨y,h1,h2,h3⟩=>?_
     refine⟨y,?_,?_,h3⟩
     ·rw[dlD,e0,if_pos rfl];exact h1
     ·rw[dlC,e0,if_pos rfl];exact h2.nl
    ·have e0:dlE p q g h d ss ts=90:=by simp only[dlE,c1,c2,c3,if_true,Bool.and_true,Bool.true_and];rw[if_neg c4]
     have e1:coE p q g h=90:=by rw[coE,if_neg c4]
     exact(vdl_m p q g h d 90 sa sb ca cb ga oa gb ob ss ts (cmS p q g h ss ts) w (by decide) hP hN (NL.ix (u:=w) a4) a5 a6 (Ym hs) (NL.ix (u:=w) b4) b5 b6 (Ym ht) hb2.1 hb2.2.1 hb2.2.2 (Wm _ _ _ _ _ _) (fun k hk u hB=>by have:=hC k hk u hB;rw[e1,hcs k hk] at this;exact this)).mono fun e u h2=>no 90 (by decide) e0 e u h2
   ·rw[Bool.not_eq_true] at c3
    rw[show decide (1<=d/\d<=16)=false from c3] at hN
    exact(vdl_n p q g h d sa sb ca cb ss ts w hP hN).mono fun e u h2=>no 110 (by decide) (by simp[dlE,c1,c3]) e u h2
  ·simp only[if_neg c2] at hP
   exact(vdl_c p q g h d 110 sa sb ca cb ss ts w (by decide) hP).mono fun e u h2=>no 110 (by decide) (by simp[dlE,c1,c2]) e u h2
 ·simp only[if_neg c1] at hP
  exact(vdl_c p q g h d 90 sa sb ca cb ss ts w (by decide) hP).mono fun e u h2=>no 90 (by decide) (by simp[dlE,c1]) e u h2
theorem vat_c (p q g h d nd c:Int) (sl:Option Addr) (cap:Nat) (ns:List Int) (w:World) (hc:(c !=0)=true)(hK:Hid (∀u,Bw w u->CC 19 #[GX p q g h,DX d (.slice sl ns.length cap)] u (.int .i64 c))):
 CC 17 #[GX p q g h,DX d (.slice sl ns.length cap),.int .i64 nd] w (.tuple #[A4 0 0 0 0,.int .i64 c]):=by
 go_enter Tryz.func17,Tryz.ntmps17
 go_upto_region 1 with fail
 obtain⟨v0,hC,HB0,K0⟩:=bx3 w (GE (p) (q) (g) (h)) 26 (DE (d) (.slice sl ns.length cap)) 30 L0s 24
 rw[hC]
 clear hC
 apply Rn K0 HB0 [(0,13,_),(1,14,_),(2,15,_),(3,8,_)]
 ·exact oc (g_ld 0 Tryz.underlying26 Z0)<|oc (g_ld 1 Tryz.underlying30 Z2)<|oc (g_cb Wh hK.out)<|oc g_as on
 intro u1 HB1 sz1 K1
 simp only[sQ] at K1⊢
 clear K0 HB0
 go_upto_region 2 with fail
 apply Rn K1 HB1 [(0,17,_),(1,18,_),(2,16,_)]
 ·exact oc g_mv<|oc (g_bn (fun uZ=>Zs _ _ _ c 0 _ uZ hc))<|oc g_as on
 intro u2 HB2 sz2 K2
 simp only[sQ] at K2⊢
 clear K1 HB1
 go_upto_region 3 with fail
 apply Rp K2 HB2 [.no,.no,.all 2 ([.int .u64 (0),.int .u64 (0),.int .u64 (0),.int .u64 (0)])] [] [(0,19,_),(1,20,_),(3,7,_)] [] [] []
 ·exact oc (g_bd zN)<|oc g_mv<|oc (g_st 2 iN)<|oc g_as on
 intro u3 HB3 sz3 K3
 simp only[sQ] at K3⊢
 clear K2 HB2
 have c6:=(K3.cv 2).n4
 go_wp2
 refine bodyPost_ret (v:= .tuple #[A4 0 0 0 0,.int .i64 c]) (by simp[results,Tryz.results17,go_sem,c6]) rfl ⟨rfl,HB3⟩
theorem vat_n (p q g h d nd:Int) (sl:Option Addr) (cap:Nat) (ns:List Int) (w:World) (hK:Hid (∀u,Bw w u->CC 19 #[GX p q g h,DX d (.slice sl ns.length cap)] u (.int .i64 0)))(hN:Hid (∀u,CC 35 #[.int .i64 nd] u (.bool false))):
 CC 17 #[GX p q g h,DX d (.slice sl ns.length cap),.int .i64 nd] w (.tuple #[A4 0 0 0 0,.int .i64 2]):=by
 go_enter Tryz.func17,Tryz.ntmps17
 go_upto_region 1 with fail
 obtain⟨v0,hC,HB0,K0⟩:=bx3 w (GE (p) (q) (g) (h)) 26 (DE (d) (.slice sl ns.length cap)) 30 L0s 24
 rw[hC]
 clear hC
 apply Rn K0 HB0 [(0,13,_),(1,14,_),(2,15,_),(3,8,_)]
 ·exact oc (g_ld 0 Tryz.underlying26 Z0)<|oc (g_ld 1 Tryz.underlying30 Z2)<|oc (g_cb Wh hK.out)<|oc g_as on
 intro u1 HB1 sz1 K1
 simp only[sQ] at K1⊢
 clear K0 HB0
 go_upto_region 2 with fail
 apply Rn K1 HB1 [(0,17,_),(1,18,_),(2,16,_)]
 ·exact oc g_mv<|oc (g_bn (fun uZ=>Zs _ _ _ 0 0 _ uZ rfl))<|oc g_as on
 intro u2 HB2 sz2 K2
 simp only[sQ] at K2⊢
 clear K1 HB1
 go_upto_region 4 with fail
 apply Rn K2 HB2 [(0,22,_),(1,23,_),(2,24,_),(3,21,_)]
 ·exact oc g_mv<|oc (g_cl Zh hN.out)<|oc (g_un not_f)<|oc g_as on
 intro u3 HB3 sz3 K3
 simp only[sQ] at K3⊢
 clear K2 HB2
 go_upto_region 5 with fail
 apply Rp K3 HB3 [.no,.no,.all 1 ([.int .u64 (0),.int .u64 (0),.int .u64 (0),.int .u64 (0)])] [] [(0,25,_),(2,7,_)] [] [] []
 ·exact oc (g_bd zN)<|oc (g_st 2 iN)<|oc g_as on
 intro u4 HB4 sz4 K4
 simp only[sQ] at K4⊢
 clear K3 HB3
 have c6:=(K4.cv 2).n4
 go_wp2
 refine bodyPost_ret (v:= .tuple #[A4 0 0 0 0,.int .i64 2]) (by simp[results,Tryz.results17,go_sem,c6]) rfl ⟨rfl,HB4⟩
theorem vat_k (p q g h d nd r:Int) (sl:Option Addr) (gb go cap:Nat) (ns rs:List Int) (w:World) (hK:Hid (∀u,Bw w u->CC 19 #[GX p q g h,DX d (.slice sl ns.length cap)] u (.int .i64 0)))(hN:Hid (∀u,CC 35 #[.int .i64 nd] u (.bool true)))(hix:Hid (∀j,j<ns.length-> ∀W,(Instr.indexAt 27 (.slice sl ns.length cap) (.int .i64 j)).run Tryz.prog W= .ok (.pointer (some ⟨gb,go+4*j,none⟩)) W)) (hg:ns.length=0\/gb<w.heap.size) (hS:Hid (SN w gb go ns)) (hn:Hid (∀k,k<ns.length->In (ns.getD k 0))) (hns:ns.length<=1000) (h6:ns.length<=6) (hrl:Hid (rs.length=ns.length)) (hbd:Hid (∀k,k<=6->0<=nd^k/\nd^k<=16777216)) (hEx:Hid (∀k,k<ns.length-> ∀u,Bw w u->CC 46 #[GX p q g h,NV (ns.getD k 0),NV (nd^k)] u (.tuple #[NV (rs.getD k 0),.int .i64 0]))) (hMu:Hid (∀(u:World) b,Bw w u->b<u.heap.size->CV u b (flN rs)->CC 47 #[GX p q g h,.slice (some ⟨b,0,none⟩) ns.length ns.length] u (.tuple #[NV r,.int .i64 0]))):
 CC 17 #[GX p q g h,DX d (.slice sl ns.length cap),.int .i64 nd] w (.tuple #[NV r,.int .i64 0]):=by
 go_enter Tryz.func17,Tryz.ntmps17
 go_upto_region 1 with fail
 obtain⟨v0,hC,HB0,K0⟩:=bx3 w (GE (p) (q) (g) (h)) 26 (DE (d) (.slice sl ns.length cap)) 30 L0s 24
 rw[hC]
 clear hC
 apply Rn K0 HB0 [(0,13,_),(1,14,_),(2,15,_),(3,8,_)]
 ·exact oc (g_ld 0 Tryz.underlying26 Z0)<|oc (g_ld 1 Tryz.underlying30 Z2)<|oc (g_cb Wh hK.out)<|oc g_as on
 intro u1 HB1 sz1 K1
 simp only[sQ] at K1⊢
 clear K0 HB0
 go_upto_region 2 with fail
 apply Rn K1 HB1 [(0,17,_),(1,18,_),(2,16,_)]
 ·exact oc g_mv<|oc (g_bn (fun uZ=>Zs _ _ _ 0 0 _ uZ rfl))<|oc g_as on
 intro u2 HB2 sz2 K2
 simp only[sQ] at K2⊢
 clear K1 HB1
 go_upto_region 4 with fail
 apply Rn K2 HB2 [(0,22,_),(1,23,_),(2,24,_),(3,21,_)]
 ·exact oc g_mv<|oc (g_cl Zh hN.out)<|oc (g_un Wp)<|oc g_as on
 intro u3 HB3 sz3 K3
 simp only[sQ] at K3⊢
 clear K2 HB2
 have hw0:w.heap.size<=u3.heap.size:=HB3.size
 go_upto_region 6 with fail
 apply Rf K3 HB3 [] [] [(0,26,_),(1,27,_),(2,28,_)] [] [] [⟨3,29,some 4,PRz u3.heap.size ns.length⟩,⟨4,9,none,PRz u3.heap.size ns.length⟩] []
 ·exact oc (g_fd (fdD1 _))<|oc (g_lc 1 1 lSN)<|oc (g_ln Tryz.underlying27)<|oc (g_mS 0 (PRz u3.heap.size ns.length) ns.length (flN (List.replicate ns.length 0)) (mkNt _ (by omega)) (fun u h=>PRz.new u h))<|oc (g_sE 0 1 (PRz u3.heap.size ns.length)) on
 intro u4 v4_3 hv4_3 v4_4 hv4_4 HB4 sz4 K4
 simp only[sQ] at K4⊢
 clear HB3
 obtain⟨bo,rfl,o1,o2,o3⟩:=hv4_4 rfl
 have K4xo:=Bk.more3 K3 K4 o1 o2 o3 (by intro x hx;first | (simp at hx;done) | (simp at hx⊢;omega))
 simp only[aK] at K4xo
 clear K4
 have hbo:w.heap.size<=bo:=Nat.le_trans hw0 o1
 go_upto_region 7 with fail
 apply Rn K4xo HB4 [(0,10,_)]
 ·exact oc g_as on
 intro u5 HB5 sz5 K5
 simp only[sQ] at K5⊢
 clear HB4
 go_upto_region 8 with fail
 apply Rn K5 HB5 [(0,30,_),(1,31,_),(2,32,_),(3,33,_)]
 ·exact oc (g_fd (fdD1 _))<|oc (g_lc 1 1 lSN)<|oc (g_ln Tryz.underlying27)<|oc g_mv on
 intro u6 HB6 sz6 K6
 simp only[sQ] at K6⊢
 clear K5 HB5
 go_wp2_with fail
 go_loopw [33,10] (fun s33 s10 wr=> ∃(k:Nat),k<=ns.length/\s33= .int .i64 (k:Int)/\s10= .int .i64 (nd^k)/\Bw w wr/\CV wr (w.heap.size) (GE (p) (q) (g) (h))/\w.heap.size<wr.heap.size/\CV wr (w.heap.size+1) (DE (d) (.slice sl ns.length cap))/\w.heap.size+1<wr.heap.size/\CV wr (w.heap.size+1+1) (L0s)/\w.heap.size+1+1<wr.heap.size/\CV wr (bo) (flN (rowN rs k))/\bo<wr.heap.size) (fun s33 _ _=>ns.length -(intOf s33).toNat)
 case atStart=>exact⟨0,by omega,rfl,by rw[Int.pow_zero],HB6,(K6.cv 0),(K6.lt 0),(K6.cv 1),(K6.lt 1),(K6.cv 2),(K6.lt 2),by rw[rowN_0,hrl.out];exact(K6.cv 3),(K6.lt 3)⟩
 case round=>
  obtain⟨k,hk,rfl,rfl,HBr,C0,lC0,C1,lC1,C2,lC2,C3,lC3⟩:=hrel
  clear HB6
  have hnK:=K6.n
  simp at hnK
  by_cases hj:k<ns.length
  ·have hl:decide ((k:Int)<(ns.length:Int))=true:=by simp;omega
   have hkx:k<rs.length:=by rw[hrl.out];exact hj
   have hX:=hix.out _ hj
   have hX:Hid _:=hX
   have hR:=hS.out.at _ hj
   have hR:Hid _:=hR
   have hg':=hg.resolve_left (by omega)
   have hE:=hEx.out k hj
   have hb0:=hbd.out k (by omega)
   have hb1:=hbd.out (k+1) (by omega)
   have hs:Hid (nd^k*nd=nd^(k+1)):=(Int.pow_succ nd k).symm
   obtain⟨z,ez⟩: ∃z,nd^(k+1)=z:=⟨_,rfl⟩
   have ez':Hid (nd^(k+1)=z):=ez
   rw[ez] at hb1 hs
   clear ez
   obtain⟨e,ee⟩: ∃e,nd^k=e:=⟨_,rfl⟩
   rw[ee] at hb0 hs hE
   obtain⟨x,ex⟩: ∃x,ns.getD k 0=x:=⟨_,rfl⟩
   rw[ex] at hR hE
   clear ex
   simp only[ee]
   have hXL:=rowN_len (vs:=rs) (k:=k) (by omega)
   have hNx:=rowN_next (vs:=rs) (k:=k) (by omega)
   rw[rowN_split (vs:=rs) (k:=k) (by omega)] at C3
   obtain⟨X,eX⟩: ∃X,flN (List.take k rs)=X:=⟨_,rfl⟩
   obtain⟨Z,eZ⟩: ∃Z,flN (List.replicate (List.length rs -(k+1)) 0)=Z:=⟨_,rfl⟩
   rw[eX] at hXL hNx C3
   rw[eZ] at hNx C3
   clear eX eZ
   obtain⟨y,ey⟩: ∃y,rs.getD k 0=y:=⟨_,rfl⟩
   rw[ey] at hE hNx
   clear ey hkx
   have hXL:Hid _:=hXL
   have hNx:Hid _:=hNx
   have hE:Hid _:=hE
   have K6_1:Bk w.heap.size wr [(false,w.heap.size,GE (p) (q) (g) (h)),(false,w.heap.size+1,DE (d) (.slice sl ns.length cap)),(true,w.heap.size+1+1,L0s),(true,bo,X++LN 0++Z)]:=⟨.c lC0 C0<| .c lC1 C1<| .o lC2 (K6.lo 2) C2<| .o lC3 (by omega) C3<|trivial,by simp<;>omega⟩
   go_upto_region 9 with fail
   apply Rn K6_1 HBr [(0,34,_)]
   ·exact oc (g_bn (fun uZ=>Zw _ _ (k:Int) (ns.length:Int) _ uZ hl)) on
   intro u7 HB7 sz7 K7
   simp only[sQ] at K7⊢
   go_upto_region 10 with fail
   apply Rp K7 HB7 [] [(3,12,L0s,some (5,LN x))] [(0,35,_),(1,36,_),(2,37,_),(4,11,_)] [(5,3)] [] []
   ·exact oc g_mv<|oc (g_ix hX.out)<|oc (g_lf hR.out hg' uN iN)<|oc (g_al 0 aN)<|oc g_as<|oc (g_sn 0 iN) on
   intro u8 b8_3 HB8 sz8 K8
   simp only[sQ] at K8⊢
   clear K7 HB7
   go_upto_region 11 with fail
   apply Rd K8 HB8 [.no,.no,.no,.all 11 (X++LN y++Z)] [] [(0,39,_),(1,40,_),(2,41,_),(3,42,_),(4,43,_),(5,44,_),(6,45,_),(7,38,_),(8,46,_),(9,47,_),(10,48,_)] [] [] []
   ·exact oc g_mv<|oc g_mv<|oc (g_ld 0 Tryz.underlying26 Z0)<|oc (g_ld 4 uN iN)<|oc g_mv<|oc (g_cl Xb (fun uZ=>vNumber e uZ hb0.1 (by omega)))<|oc (g_cb ent_V5 hE.out)<|oc g_mv<|oc g_ex<|oc g_ex<|oc (g_ix (ixZ _ _ _ k hj))<|oc (g_sm 3 (4*k) (X) (LN 0) (Z) (post:=LN y) (hxc:=hXL.out) iN) on
   intro u9 HB9 sz9 K9
   simp only[sQ] at K9⊢
   clear K8 HB8
   go_upto_region 12 with fail
   apply Rp K9 HB9 [] [] [(0,49,_),(1,50,_),(2,51,_),(3,10,_)] [(3,0)] [(3,10)] []
   ·exact oc g_mv<|oc g_mv<|oc (g_bn (fun uZ=>mul_i _ _ e nd z uZ hs.out (by omega) (by omega)))<|oc g_as on
   intro u10 HB10 sz10 K10
   simp only[sQ] at K10⊢
   clear K9 HB9
   go_upto_region 13 with fail
   apply Rp K10 HB10 [] [] [(0,52,_),(1,33,_)] [(1,0)] [(1,33)] []
   ·exact oc (g_bn (fun uZ=>Yq _ _ (k:Int) 1 ((k+1:Nat):Int) uZ (by omega) (by omega) (by omega)))<|oc g_mv on
   intro u11 HB11 sz11 K11
   simp only[sQ] at K11⊢
   clear K10 HB10
   go_wp2
   refine⟨⟨k+1,by omega,rfl,by rw[ez'.out],HB11,(K11.cv 0),(K11.lt 0),(K11.cv 1),(K11.lt 1),(K11.cv 2),(K11.lt 2),by rw[hNx.out];exact(K11.cv 3),(K11.lt 3)⟩,?_⟩
   simp[intOf]<;>omega
  ·have hl:decide ((k:Int)<(ns.length:Int))=false:=by simp;omega
   have hkn:k=rs.length:=by rw[hrl.out];omega
   rw[hkn,rowN_end] at C3
   clear hkn
   have K6_1:Bk w.heap.size wr [(false,w.heap.size,GE (p) (q) (g) (h)),(false,w.heap.size+1,DE (d) (.slice sl ns.length cap)),(true,w.heap.size+1+1,L0s),(true,bo,flN rs)]:=⟨.c lC0 C0<| .c lC1 C1<| .o lC2 (K6.lo 2) C2<| .o lC3 (by omega) C3<|trivial,by simp<;>omega⟩
   go_upto_region 9 with fail
   apply Rn K6_1 HBr [(0,34,_)]
   ·exact oc (g_bn (fun uZ=>Zw _ _ (k:Int) (ns.length:Int) _ uZ hl)) on
   intro u7 HB7 sz7 K7
   simp only[sQ] at K7⊢
   go_upto_region 14 with fail
   apply Rp K7 HB7 [.no,.no,.all 5 (LN r)] [] [(0,53,_),(1,54,_),(2,55,_),(3,56,_),(4,57,_),(6,7,_)] [] [] []
   ·exact oc (g_ld 0 Tryz.underlying26 Z0)<|oc g_mv<|oc (g_cK ent_V2 (fun fZ uZ kZ sZ bZ=>hMu.out uZ bo bZ (kZ.lb sZ 3) (kZ.cv 3)))<|oc g_ex<|oc g_ex<|oc (g_st 2 iN)<|oc g_as on
   intro u8 HB8 sz8 K8
   simp only[sQ] at K8⊢
   clear K7 HB7
   have c6:=(K8.cv 2).n4
   go_wp2
   refine bodyPost_ret (v:= .tuple #[NV r,.int .i64 0]) (by simp[results,Tryz.results17,go_sem,c6]) rfl ⟨rfl,HB8⟩
theorem pwN_is {q nd:Int} (hq:2<=q): ∀k,pwN q nd k=nd^k%q
 | 0=>by rw[pwN,Int.pow_zero];exact(Int.emod_eq_of_lt (by omega) (by omega)).symm
 | k+1=>by rw[pwN,pwN_is hq k,Int.pow_succ,Int.mul_emod,Int.emod_emod,<-Int.mul_emod]
theorem nd_pow {nd:Int} (h1:1<=nd) (h2:nd<=16) (k:Nat) (hk:k<=6):0<=nd^k/\nd^k<=16777216:=by
 have: ∀k:Nat,1<=nd^k/\nd^k<=16^k:=fun k=>by
  induction k with
  | zero=>simp
  | succ k ih=>
   rw[Int.pow_succ,Int.pow_succ]
   refine⟨?_,Int.mul_le_mul ih.2 h2 (by omega) (by omega)⟩
   have:=Int.mul_le_mul ih.1 h1 (by omega) (by omega)
   omega
 have:=this k
 match k,hk with
 | 0,_=>omega
 | 1,_=>omega
 | 2,_=>omega
 | 3,_=>omega
 | 4,_=>omega
 | 5,_=>omega
 | 6,_=>omega
def raS (p q nd:Int) (ns:List Int):List Int:=tab ns.length fun k=>ns.getD k 0^(nd^k%q).toNat%p
theorem Um (p q nd:Int) (ns:List Int):(raS p q nd ns).length=ns.length:=tab_len _ _
theorem raS_gat {p q nd:Int} {ns:List Int} (hp:2<=p) (hq:2<=q): ∀k,k<=ns.length->gat (fun a b=>(a*b)%p) (1%p) (raS p q nd ns) k=atO p q nd ns k
 | 0,_=>by rw[gat,atO];exact Int.emod_eq_of_lt (by omega) (by omega)
 | k+1,h=>by
  rw[gat,atO,raS_gat hp hq k (by omega),pwN_is hq]
  simp only[raS]
  rw[Ul (by omega)]
theorem raS_all {p q nd:Int} {ns:List Int} (hg:gOk p q) (h:ns.all (isB p q)=true):mlB p q (raS p q nd ns)=true:=by
 unfold mlB
 rw[decide_eq_true hg,Bool.true_and]
 refine all_get.2 fun k hk=>?_
 rw[Um] at hk
 rw[raS,Ul hk]
 exact decide_eq_true ⟨hg,(Wq (all_get.1 h k hk)).2.pow hg _⟩
theorem vAt (p q g h d nd:Int) (ns:List Int) (v:Value) (w:World) (hG:GT w) (hp:In p) (hq:In q) (hv:NL w v ns) (hns: ∀z∈ns,In z) (hl:ns.length<=7):CC 17 #[GX p q g h,DX d v,.int .i64 nd] w (.tuple #[NV (atX p q d nd ns),.int .i64 (atE p q d nd ns)]):=by
 have a':=hv
 obtain⟨sl,gb,go,cap,rfl,h2,h3,h4,h5,h6⟩:=hv
 have hK:=fun u (hB:Bw w u)=>vCheck p q g h d ns _ u (hG.below hB) hp hq (a'.up hB) hns (by omega)
 have hN:=fun u=>vNode nd u
 by_cases c:dcE p q d ns=0
 ·rw[c] at hK
  obtain⟨c1,c2,c3,c4,c5⟩:=dcE_0 c
  have hq3:=c1.q3
  have hp7:=c1.2
  by_cases c6:ndB nd=true
  ·rw[show decide (1<=nd/\nd<=16)=true from c6] at hN
   have hb:=ndB_iff.1 c6
   have e0:atE p q d nd ns=0:=by simp[atE,c,c6]
   rw[atX,if_pos e0,e0,<-raS_gat (nd:=nd) (ns:=ns) (by omega) (show (2:Int)<=q by omega) _ (Nat.le_refl _)]
   refine vat_k p q g h d nd _ sl gb go cap ns (raS p q nd ns) w hK hN (NL.ix (u:=w) h4) h5 h6 (Ym hns) (by omega) c4 (Um _ _ _ _) (nd_pow hb.1 hb.2) (fun k hk u hB=>?_) (fun u b hB hl2 hc=>?_)
   ·have hk2:=all_get.1 c5 k hk
    have hE:=cExpG p q g h (ns.getD k 0) (nd^k) u (hG.below hB) hp hq (Ym hns k hk) (by have:=nd_pow hb.1 hb.2 k (by omega);exact⟨by omega,by omega⟩)
    rw[exPX,exPE,hk2,if_pos rfl,if_pos rfl] at hE
    rw[raS,Ul hk]
    exact hE
   ·have hi: ∀k,k<(raS p q nd ns).length->In ((raS p q nd ns).getD k 0):=fun k hk=>by
     rw[Um] at hk;rw[raS,Ul hk];exact Zq hp (by omega)
    have hM:=cMulG p q g h (raS p q nd ns) (.slice (some ⟨b,0,none⟩) ns.length ns.length) u (hG.below hB) (by rw[Um];omega) hp hq hi ((PRw.nl (lo:=0) ⟨b,by rw[Um],Nat.zero_le _,hl2,hc⟩))
    rw[mlX,mlE,raS_all c1 c5,if_pos rfl,if_pos rfl,Um] at hM
    exact hM
  ·rw[Bool.not_eq_true] at c6
   rw[show decide (1<=nd/\nd<=16)=false from c6] at hN
   have e0:atE p q d nd ns=2:=by simp[atE,c,c6]
   rw[atX,e0,if_neg (by omega),NV_0]
   exact vat_n p q g h d nd sl cap ns w hK hN
 ·have e0:atE p q d nd ns=dcE p q d ns:=by simp[atE,c]
  rw[atX,e0,if_neg c,NV_0]
  exact vat_c p q g h d nd _ sl cap ns w (by simp[c]) hK
theorem vver_a (p q g h d nd s t a b c ev:Int) (sl:Option Addr) (cap n:Nat) (w:World) (he:(ev !=0)=true)(hA:Hid (∀u,Bw w u->CC 17 #[GX p q g h,DX d (.slice sl n cap),.int .i64 nd] u (.tuple #[NV a,.int .i64 ev]))):
 CC 21 #[GX p q g h,DX d (.slice sl n cap),SX nd s t] w (.int .i64 ev):=by
 go_enter Tryz.func21,Tryz.ntmps21
 go_upto_region 1 with fail
 obtain⟨v0,hC,HB0,K0⟩:=bx3 w (GE (p) (q) (g) (h)) 26 (DE (d) (.slice sl n cap)) 30 (SE (nd) (s) (t)) 35
 rw[hC]
 clear hC
 apply Rp K0 HB0 [] [(8,7,L0s,some (9,LN a))] [(0,12,_),(1,13,_),(2,14,_),(3,15,_),(4,16,_),(5,11,_),(6,17,_),(7,18,_),(10,8,_)] [(9,8)] [] []
 ·exact oc (g_ld 0 Tryz.underlying26 Z0)<|oc (g_ld 1 Tryz.underlying30 Z2)<|oc (g_fd (fdS0 _))<|oc (g_lc 2 0 lI)<|oc (g_cb ent_V7 hA.out)<|oc g_mv<|oc g_ex<|oc g_ex<|oc (g_al 0 aN)<|oc (g_sn 0 iN)<|oc g_as on
 intro u1 b1_8 HB1 sz1 K1
 simp only[sQ] at K1⊢
 clear K0 HB0
 go_upto_region 2 with fail
 apply Rn K1 HB1 [(0,19,_),(1,20,_)]
 ·exact oc g_mv<|oc (g_bn (fun uZ=>Zs _ _ _ ev 0 _ uZ he)) on
 intro u2 HB2 sz2 K2
 simp only[sQ] at K2⊢
 clear K1 HB1
 go_upto_region 3 with fail
 apply Rn K2 HB2 [(0,21,_),(1,6,_)]
 ·exact oc g_mv<|oc g_as on
 intro u3 HB3 sz3 K3
 simp only[sQ] at K3⊢
 clear K2 HB2
 go_wp2
 refine bodyPost_ret (v:= .int .i64 ev) (by simp[results,Tryz.results21,go_sem,]) rfl ⟨rfl,HB3⟩
theorem vver_m (p q g h d nd s t a b c ev:Int) (sl:Option Addr) (cap n:Nat) (w:World) (he:(ev !=0)=false) (hc:(c !=0)=true)(hA:Hid (∀u,Bw w u->CC 17 #[GX p q g h,DX d (.slice sl n cap),.int .i64 nd] u (.tuple #[NV a,.int .i64 ev])))(hM:Hid (∀u,Bw w u->CC 36 #[GX p q g h,NV s,NV t] u (.tuple #[NV b,.int .i64 c]))):
 CC 21 #[GX p q g h,DX d (.slice sl n cap),SX nd s t] w (.int .i64 c):=by
 go_enter Tryz.func21,Tryz.ntmps21
 go_upto_region 1 with fail
 obtain⟨v0,hC,HB0,K0⟩:=bx3 w (GE (p) (q) (g) (h)) 26 (DE (d) (.slice sl n cap)) 30 (SE (nd) (s) (t)) 35
 rw[hC]
 clear hC
 apply Rp K0 HB0 [] [(8,7,L0s,some (9,LN a))] [(0,12,_),(1,13,_),(2,14,_),(3,15,_),(4,16,_),(5,11,_),(6,17,_),(7,18,_),(10,8,_)] [(9,8)] [] []
 ·exact oc (g_ld 0 Tryz.underlying26 Z0)<|oc (g_ld 1 Tryz.underlying30 Z2)<|oc (g_fd (fdS0 _))<|oc (g_lc 2 0 lI)<|oc (g_cb ent_V7 hA.out)<|oc g_mv<|oc g_ex<|oc g_ex<|oc (g_al 0 aN)<|oc (g_sn 0 iN)<|oc g_as on
 intro u1 b1_8 HB1 sz1 K1
 simp only[sQ] at K1⊢
 clear K0 HB0
 go_upto_region 2 with fail
 apply Rn K1 HB1 [(0,19,_),(1,20,_)]
 ·exact oc g_mv<|oc (g_bn (fun uZ=>Zs _ _ _ ev 0 _ uZ he)) on
 intro u2 HB2 sz2 K2
 simp only[sQ] at K2⊢
 clear K1 HB1
 go_upto_region 4 with fail
 apply Rp K2 HB2 [] [(9,9,L0s,some (10,LN b))] [(0,23,_),(1,24,_),(2,25,_),(3,26,_),(4,27,_),(5,28,_),(6,22,_),(7,29,_),(8,30,_),(11,10,_)] [(10,9)] [] []
 ·exact oc (g_ld 0 Tryz.underlying26 Z0)<|oc (g_fd (fdS1 _))<|oc (g_lo 2 1 uN iN)<|oc (g_fd (fdS2 _))<|oc (g_lo 2 5 uN iN)<|oc (g_cb ent_V4 hM.out)<|oc g_mv<|oc g_ex<|oc g_ex<|oc (g_al 0 aN)<|oc (g_sn 0 iN)<|oc g_as on
 intro u3 b3_9 HB3 sz3 K3
 simp only[sQ] at K3⊢
 clear K2 HB2
 go_upto_region 5 with fail
 apply Rn K3 HB3 [(0,32,_),(1,33,_),(2,31,_)]
 ·exact oc g_mv<|oc (g_bn (fun uZ=>Zs _ _ _ c 0 _ uZ hc))<|oc g_as on
 intro u4 HB4 sz4 K4
 simp only[sQ] at K4⊢
 clear K3 HB3
 go_upto_region 6 with fail
 apply Rn K4 HB4 [(0,34,_),(1,6,_)]
 ·exact oc g_mv<|oc g_as on
 intro u5 HB5 sz5 K5
 simp only[sQ] at K5⊢
 clear K4 HB4
 go_wp2
 refine bodyPost_ret (v:= .int .i64 c) (by simp[results,Tryz.results21,go_sem,]) rfl ⟨rfl,HB5⟩
theorem vver_n (p q g h d nd s t a b c ev:Int) (sl:Option Addr) (cap n:Nat) (w:World) (he:(ev !=0)=false) (hc:(c !=0)=false)(hA:Hid (∀u,Bw w u->CC 17 #[GX p q g h,DX d (.slice sl n cap),.int .i64 nd] u (.tuple #[NV a,.int .i64 ev])))(hM:Hid (∀u,Bw w u->CC 36 #[GX p q g h,NV s,NV t] u (.tuple #[NV b,.int .i64 c]))) (ia:In a) (ib:In b) (hx:decide (b=a)=!true):
 CC 21 #[GX p q g h,DX d (.slice sl n cap),SX nd s t] w (.int .i64 100):=by
 go_enter Tryz.func21,Tryz.ntmps21
 go_upto_region 1 with fail
 obtain⟨v0,hC,HB0,K0⟩:=bx3 w (GE (p) (q) (g) (h)) 26 (DE (d) (.slice sl n cap)) 30 (SE (nd) (s) (t)) 35
 rw[hC]
 clear hC
 apply Rp K0 HB0 [] [(8,7,L0s,some (9,LN a))] [(0,12,_),(1,13,_),(2,14,_),(3,15,_),(4,16,_),(5,11,_),(6,17,_),(7,18,_),(10,8,_)] [(9,8)] [] []
 ·exact oc (g_ld 0 Tryz.underlying26 Z0)<|oc (g_ld 1 Tryz.underlying30 Z2)<|oc (g_fd (fdS0 _))<|oc (g_lc 2 0 lI)<|oc (g_cb ent_V7 hA.out)<|oc g_mv<|oc g_ex<|oc g_ex<|oc (g_al 0 aN)<|oc (g_sn 0 iN)<|oc g_as on
 intro u1 b1_8 HB1 sz1 K1
 simp only[sQ] at K1⊢
 clear K0 HB0
 go_upto_region 2 with fail
 apply Rn K1 HB1 [(0,19,_),(1,20,_)]
 ·exact oc g_mv<|oc (g_bn (fun uZ=>Zs _ _ _ ev 0 _ uZ he)) on
 intro u2 HB2 sz2 K2
 simp only[sQ] at K2⊢
 clear K1 HB1
 go_upto_region 4 with fail
 apply Rp K2 HB2 [] [(9,9,L0s,some (10,LN b))] [(0,23,_),(1,24,_),(2,25,_),(3,26,_),(4,27,_),(5,28,_),(6,22,_),(7,29,_),(8,30,_),(11,10,_)] [(10,9)] [] []
 ·exact oc (g_ld 0 Tryz.underlying26 Z0)<|oc (g_fd (fdS1 _))<|oc (g_lo 2 1 uN iN)<|oc (g_fd (fdS2 _))<|oc (g_lo 2 5 uN iN)<|oc (g_cb ent_V4 hM.out)<|oc g_mv<|oc g_ex<|oc g_ex<|oc (g_al 0 aN)<|oc (g_sn 0 iN)<|oc g_as on
 intro u3 b3_9 HB3 sz3 K3
 simp only[sQ] at K3⊢
 clear K2 HB2
 go_upto_region 5 with fail
 apply Rn K3 HB3 [(0,32,_),(1,33,_),(2,31,_)]
 ·exact oc g_mv<|oc (g_bn (fun uZ=>Zs _ _ _ c 0 _ uZ hc))<|oc g_as on
 intro u4 HB4 sz4 K4
 simp only[sQ] at K4⊢
 clear K3 HB3
 go_upto_region 7 with fail
 apply Rn K4 HB4 [(0,36,_),(1,37,_),(2,38,_),(3,35,_)]
 ·exact oc (g_ld 4 uN iN)<|oc (g_ld 3 uN iN)<|oc (g_bn (U4 _ _ ib ia true hx))<|oc g_as on
 intro u5 HB5 sz5 K5
 simp only[sQ] at K5⊢
 clear K4 HB4
 go_upto_region 8 with fail
 apply Rn K5 HB5 [(0,6,_)]
 ·exact oc g_as on
 intro u6 HB6 sz6 K6
 simp only[sQ] at K6⊢
 clear K5 HB5
 go_wp2
 refine bodyPost_ret (v:= .int .i64 100) (by simp[results,Tryz.results21,go_sem,]) rfl ⟨rfl,HB6⟩
theorem vver_k (p q g h d nd s t a b c ev:Int) (sl:Option Addr) (cap n:Nat) (w:World) (he:(ev !=0)=false) (hc:(c !=0)=false)(hA:Hid (∀u,Bw w u->CC 17 #[GX p q g h,DX d (.slice sl n cap),.int .i64 nd] u (.tuple #[NV a,.int .i64 ev])))(hM:Hid (∀u,Bw w u->CC 36 #[GX p q g h,NV s,NV t] u (.tuple #[NV b,.int .i64 c]))) (ia:In a) (ib:In b) (hx:decide (b=a)=!false):
 CC 21 #[GX p q g h,DX d (.slice sl n cap),SX nd s t] w (.int .i64 0):=by
 go_enter Tryz.func21,Tryz.ntmps21
 go_upto_region 1 with fail
 obtain⟨v0,hC,HB0,K0⟩:=bx3 w (GE (p) (q) (g) (h)) 26 (DE (d) (.slice sl n cap)) 30 (SE (nd) (s) (t)) 35
 rw[hC]
 clear hC
 apply Rp K0 HB0 [] [(8,7,L0s,some (9,LN a))] [(0,12,_),(1,13,_),(2,14,_),(3,15,_),(4,16,_),(5,11,_),(6,17,_),(7,18,_),(10,8,_)] [(9,8)] [] []
 ·exact oc (g_ld 0 Tryz.underlying26 Z0)<|oc (g_ld 1 Tryz.underlying30 Z2)<|oc (g_fd (fdS0 _))<|oc (g_lc 2 0 lI)<|oc (g_cb ent_V7 hA.out)<|oc g_mv<|oc g_ex<|oc g_ex<|oc (g_al 0 aN)<|oc (g_sn 0 iN)<|oc g_as on
 intro u1 b1_8 HB1 sz1 K1
 simp only[sQ] at K1⊢
 clear K0 HB0
 go_upto_region 2 with fail
 apply Rn K1 HB1 [(0,19,_),(1,20,_)]
 ·exact oc g_mv<|oc (g_bn (fun uZ=>Zs _ _ _ ev 0 _ uZ he)) on
 intro u2 HB2 sz2 K2
 simp only[sQ] at K2⊢
 clear K1 HB1
 go_upto_region 4 with fail
 apply Rp K2 HB2 [] [(9,9,L0s,some (10,LN b))] [(0,23,_),(1,24,_),(2,25,_),(3,26,_),(4,27,_),(5,28,_),(6,22,_),(7,29,_),(8,30,_),(11,10,_)] [(10,9)] [] []
 ·exact oc (g_ld 0 Tryz.underlying26 Z0)<|oc (g_fd (fdS1 _))<|oc (g_lo 2 1 uN iN)<|oc (g_fd (fdS2 _))<|oc (g_lo 2 5 uN iN)<|oc (g_cb ent_V4 hM.out)<|oc g_mv<|oc g_ex<|oc g_ex<|oc (g_al 0 aN)<|oc (g_sn 0 iN)<|oc g_as on
 intro u3 b3_9 HB3 sz3 K3
 simp only[sQ] at K3⊢
 clear K2 HB2
 go_upto_region 5 with fail
 apply Rn K3 HB3 [(0,32,_),(1,33,_),(2,31,_)]
 ·exact oc g_mv<|oc (g_bn (fun uZ=>Zs _ _ _ c 0 _ uZ hc))<|oc g_as on
 intro u4 HB4 sz4 K4
 simp only[sQ] at K4⊢
 clear K3 HB3
 go_upto_region 7 with fail
 apply Rn K4 HB4 [(0,36,_),(1,37,_),(2,38,_),(3,35,_)]
 ·exact oc (g_ld 4 uN iN)<|oc (g_ld 3 uN iN)<|oc (g_bn (U4 _ _ ib ia false hx))<|oc g_as on
 intro u5 HB5 sz5 K5
 simp only[sQ] at K5⊢
 clear K4 HB4
 go_upto_region 9 with fail
 apply Rn K5 HB5 [(0,6,_)]
 ·exact oc g_as on
 intro u6 HB6 sz6 K6
 simp only[sQ] at K6⊢
 clear K5 HB5
 go_wp2
 refine bodyPost_ret (v:= .int .i64 0) (by simp[results,Tryz.results21,go_sem,]) rfl ⟨rfl,HB6⟩
theorem coX_In {p q g h s t:Int} (hp:In p):In (coX p q g h s t):=by
 unfold coX;split
 ·have c2:isB p q g=true:=by rename_i h1;simp only[Bool.and_eq_true] at h1;exact h1.1
  exact Zq hp (by have:=(Wq c2).1.2;omega)
 ·exact In_0
theorem atX_In' {p q d nd:Int} {ns:List Int} (hp:In p) (c:atE p q d nd ns=0):In (atX p q d nd ns):=by
 unfold atX;rw[if_pos c]
 have c3:dcE p q d ns=0:=by
  unfold atE at c
  by_cases h1:dcE p q d ns=0
  ·exact h1
  ·rw[if_neg h1] at c;exact c
 exact atO_In hp (by have:=(dcE_0 c3).1.2;omega) _
theorem vVerify (p q g h d nd s t:Int) (ns:List Int) (v:Value) (w:World) (hG:GT w) (hp:In p) (hq:In q) (hg:In g) (hh:In h) (hs:In s) (ht:In t) (hv:NL w v ns) (hns: ∀z∈ns,In z) (hl:ns.length<=7):CC 21 #[GX p q g h,DX d v,SX nd s t] w (.int .i64 (veE p q g h d nd s t ns)):=by
 have a':=hv
 obtain⟨sl,gb,go,cap,rfl,_⟩:=hv
 have hA:=fun u (hB:Bw w u)=>vAt p q g h d nd ns _ u (hG.below hB) hp hq (a'.up hB) hns hl
 have hM:=fun u (hB:Bw w u)=>cComG p q g h s t u (hG.below hB) hp hq hg hh hs ht
 unfold veE
 by_cases c:atE p q d nd ns=0
 ·rw[if_pos c]
  have ic:=coX_In (q:=q) (g:=g) (h:=h) (s:=s) (t:=t) hp
  have ia:=atX_In' hp c
  by_cases c1:coE p q g h=0
  ·rw[if_pos c1]
   by_cases c2:coX p q g h s t=atX p q d nd ns
   ·rw[if_pos c2]
    exact vver_k p q g h d nd s t _ _ _ _ sl cap _ w (by simp[c]) (by simp[c1]) hA hM ia ic (by simp[c2])
   ·rw[if_neg c2]
    exact vver_n p q g h d nd s t _ _ _ _ sl cap _ w (by simp[c]) (by simp[c1]) hA hM ia ic (by simp[c2])
  ·rw[if_neg c1]
   have e9:coE p q g h=90:=by unfold coE at c1⊢;split at c1<;>simp_all
   have:=vver_m p q g h d nd s t _ _ _ _ sl cap _ w (by simp[c]) (by simp[c1]) hA hM
   rwa [e9] at this
 ·rw[if_neg c]
  exact vver_a p q g h d nd s t _ 0 0 _ sl cap _ w (by simp[c]) hA
theorem vnought_0 (d:Int) (sl:Option Addr) (cap:Nat) (ns:List Int) (w:World) (h:decide (0<(ns.length:Int))=false):
 CC 23 #[DX d (.slice sl ns.length cap)] w (.bool false):=by
 go_enter Tryz.func23,Tryz.ntmps23
 go_upto_region 1 with fail
 obtain⟨v0,hC,HB0,K0⟩:=bx1 w (DE (d) (.slice sl ns.length cap)) 30
 rw[hC]
 clear hC
 apply Rm K0 HB0 [(0,3,_),(1,4,_),(2,5,_),(3,6,_),(4,7,_),(5,8,undef),(6,9,undef),(7,10,undef),(8,11,undef),(9,12,undef),(10,13,undef),(11,14,_),(12,2,_)]
 ·exact oc (g_fd (fdD1 _))<|oc (g_lc 0 1 lSN)<|oc (g_ln Tryz.underlying27)<|oc (g_bn (fun uZ=>gtr_i _ _ (ns.length:Int) 0 _ uZ h))<|oc g_mv<|oc g_sk<|oc g_sk<|oc g_sk<|oc g_sk<|oc g_sk<|oc g_sk<|oc g_pk<|oc g_as on
 intro u1 HB1 sz1 K1
 simp only[sQ] at K1⊢
 clear K0 HB0
 go_wp2
 refine bodyPost_ret (v:= .bool false) (by simp[results,Tryz.results23,go_sem,]) rfl ⟨rfl,HB1⟩
theorem vnought_1 (d:Int) (sl:Option Addr) (cap:Nat) (ns:List Int) (gb go:Nat) (x:Int) (b:Bool) (w:World) (h:decide (0<(ns.length:Int))=true) (hX:Hid (∀W,(Instr.indexAt 27 (.slice sl ns.length cap) (.int .i64 0)).run Tryz.prog W= .ok (.pointer (some ⟨gb,go,none⟩)) W)) (hR:Hid (w.rangeAt gb go (LN x))) (hg:gb<w.heap.size) (hx:In x) (hb:decide (x=1)=b):
 CC 23 #[DX d (.slice sl ns.length cap)] w (.bool b):=by
 go_enter Tryz.func23,Tryz.ntmps23
 go_upto_region 1 with fail
 obtain⟨v0,hC,HB0,K0⟩:=bx1 w (DE (d) (.slice sl ns.length cap)) 30
 rw[hC]
 clear hC
 apply Rm K0 HB0 [(0,3,_),(1,4,_),(2,5,_),(3,6,_),(4,7,_),(5,8,_),(6,9,_),(7,10,_),(8,11,_),(9,12,_),(10,13,_),(11,14,_),(12,2,_)]
 ·exact oc (g_fd (fdD1 _))<|oc (g_lc 0 1 lSN)<|oc (g_ln Tryz.underlying27)<|oc (g_bn (fun uZ=>gtr_i _ _ (ns.length:Int) 0 _ uZ h))<|oc g_mv<|oc (g_fd (fdD1 _))<|oc (g_lc 0 1 lSN)<|oc (g_ix hX.out)<|oc (g_lf hR.out hg uN iN)<|oc (g_cl Xb (fun uZ=>vNumber 1 uZ (by omega) (by omega)))<|oc (g_bn (eql_n _ _ hx In_1 b hb))<|oc g_pk<|oc g_as on
 intro u1 HB1 sz1 K1
 simp only[sQ] at K1⊢
 clear K0 HB0
 go_wp2
 refine bodyPost_ret (v:= .bool b) (by simp[results,Tryz.results23,go_sem,]) rfl ⟨rfl,HB1⟩
theorem vNought (d:Int) (ns:List Int) (v:Value) (w:World) (hv:NL w v ns) (hns: ∀z∈ns,In z):CC 23 #[DX d v] w (.bool (noB ns)):=by
 obtain⟨sl,gb,go,cap,rfl,h2,h3,h4,h5,h6⟩:=hv
 by_cases h:0<ns.length
 ·rw[show noB ns=decide (ns.getD 0 0=1) by simp[noB,h]]
  have hX:=NL.ix (u:=w) (cap:=cap) h4 0 h
  have hR:=h6.at 0 h
  rw[Nat.mul_zero,Nat.add_zero] at hX hR
  exact vnought_1 d sl cap ns gb go _ _ w (by simp;omega) hX hR (h5.resolve_left (by omega)) (Ym hns 0 h) rfl
 ·rw[show noB ns=false by simp[noB,h]]
  exact vnought_0 d sl cap ns w (decide_eq_false (by omega))
theorem Xu:EnT 28:=fun _ _=>by kernel_rfl
theorem ent_N2:EnT 12:=fun _ _=>by kernel_rfl
theorem Ud:EnT 21:=fun _ _=>by kernel_rfl
theorem ent_N4:EnT 33:=fun _ _=>by kernel_rfl
theorem In_s {n:Int} (h0:0<=n:=by decide) (h1:n<1000:=by decide):In n:=⟨h0,by omega⟩
theorem w_in2 {a b:Int} (ha:In a) (hb:In b): ∀z∈[a,b],In z:=fun z hz=>by
 simp at hz;rcases hz with rfl | rfl<;>assumption
theorem lt_NL {u:World} {v:Value} {ns:List Int} (h:NL u v ns): ∃sl cap,v= .slice sl ns.length cap:=by
 obtain⟨sl,_,_,cap,e,_⟩:=h
 exact⟨sl,cap,e⟩
theorem works11 (w:World) (hV:VOK w):
 CC 15 #[] w (.bool true):=by
 go_enter Tryz.func15,Tryz.ntmps15
 go_upto_region 3 with(go_at_call 33;first | (refine(W1 3 w (by omega) (by omega)).mono ?_;rintro e ua ⟨rfl,hBa⟩) | (refine(W1 2 ua (by omega) (by omega)).mono ?_;rintro e ub ⟨rfl,hBb⟩) | (refine(W1 5 (ub.alloc (.cells (PtE 3 2:List Value).toArray 24)) (by omega) (by omega)).mono ?_;rintro e uc ⟨rfl,hBc⟩) | (refine(W1 7 uc (by omega) (by omega)).mono ?_;rintro e ud ⟨rfl,hBd⟩))
 generalize hC:ud.alloc (.cells (PtE 5 7:List Value).toArray 24)=v0 at *
 have hB1:Below (ub.alloc (.cells (PtE 3 2:List Value).toArray 24)).heap.size (ub.alloc (.cells (PtE 3 2:List Value).toArray 24)) v0:=by rw[<-hC];exact Z3 (Z7 hBc hBd) _
 have hB0:Bw w v0:=Z7 (Z3 (Z7 hBa hBb) _) hB1
 have fa_0:NL v0 (.slice (some ⟨ub.heap.size,0,none⟩) 2 2) [3,2]:=NL.up (inN2 3 2 ub) hB1
 have fb_0:NL v0 (.slice (some ⟨ud.heap.size,0,none⟩) 2 2) [5,7]:=by rw[<-hC];exact inN2 5 7 ud
 have HB0:Bw v0 v0:=Below.refl _ _
 clear hC hB1
 have K0_1:=Bk.nil (v0.heap.size) v0
 go_upto_region 3 with fail
 apply Rp K0_1 HB0 [] [(7,4,L0h,some (8,SE (2) (7) (19)))] [(0,21,_),(1,22,_),(2,23,_),(3,24,_),(4,20,_),(5,25,_),(6,26,_),(9,5,_)] [(8,7)] [] []
 ·exact oc (g_cl Xu cThe)<|oc g_mv<|oc g_mv<|oc (g_cb ent_N2 (fun uZ bZ=>by have h:=hV.share uZ (Z7 hB0 bZ) P0 Q0 4 H0 2 [3,2] [5,7] _ _ X9 In_Q0' Tk Tl (by omega) (fa_0.up bZ) (fb_0.up bZ) (w_in2 In_s In_s) (w_in2 In_s In_s) (by decide) (by decide);rw[w_sv,w_sh] at h;exact h))<|oc g_mv<|oc g_ex<|oc g_ex<|oc (g_al 0 Yh)<|oc (g_sn 0 Z1)<|oc g_as on
 intro u1 b1_7 HB1 sz1 K1
 simp only[sQ] at K1⊢
 clear HB0
 have hT1:Bw w u1:=Z7 hB0 HB1
 have fa_1:NL u1 (.slice (some ⟨ub.heap.size,0,none⟩) 2 2) [3,2]:=fa_0.up HB1
 have fb_1:NL u1 (.slice (some ⟨ud.heap.size,0,none⟩) 2 2) [5,7]:=fb_0.up HB1
 have HBz1:Bw u1 u1:=Below.refl _ _
 have K1_2:Bk u1.heap.size u1 [(false,b1_7,SE (2) (7) (19))]:=⟨.c (K1.lt 0) (K1.cv 0)<|trivial,by simp⟩
 go_upto_region 4 with fail
 have K4:CV u1 b1_7 (SE 2 7 19):=(K1_2.cv 0)
 have l4:=(K1_2.lt 0)
 have hTu:=hT1
 have K4:Hid _:=K4
 go_cut [6,7] (fun s6 s7 wx=> ∃b y,s6= .pointer (some ⟨b,0,none⟩)/\s7= .int .i64 0/\Bw u1 wx/\u1.heap.size<=b/\b<wx.heap.size/\CV wx b (DE 1 y)/\NL wx y (cmS P0 Q0 4 H0 [3,2] [5,7]))
 case first=>
  go_wp2_with (first
   | (go_at_call 28;refine(cThe u1).mono ?_;rintro e u5 ⟨rfl,hB5⟩)
   | (go_at_call 10;refine(hV.deal u5 (Z7 hTu hB5) P0 Q0 4 H0 1 [3,2] [5,7] _ _ X9 In_Q0' Tk Tl (by omega) (fa_1.up hB5) (fb_1.up hB5) (w_in2 In_s In_s) (w_in2 In_s In_s) (by decide) (by decide)).mono ?_;rw[dlD,dlC,dl_0 (by decide) (by decide),if_pos rfl,if_pos rfl];rintro e u6 ⟨y,rfl,hy,hB6⟩;obtain⟨sy,cy,ey⟩:=lt_NL hy;subst ey;have hy:Hid _:=hy))
  go_meet
  exact⟨u6.heap.size,_,rfl,rfl,Z3 (Z7 hB5 hB6) _,Nat.le_trans hB5.size hB6.size,by simp,CV.new u6 _ _,NL.up hy.out (Z3 (Zp u6) _)⟩
 case rest=>
  obtain⟨b6,y,rfl,rfl,hBw,hlo6,l6,K6,ny_0⟩:=hcut
  obtain⟨sy,cy,ey⟩:=lt_NL ny_0
  subst ey
  have K4:=CV.below K4.out hBw l4
  have l4:=Nat.lt_of_lt_of_le l4 hBw.size
  have hT6:Bw w wc:=Z7 hTu hBw
  have h46:b1_7≠b6:=by omega
  have fa_6:=fa_1.up hBw
  have fb_6:=fb_1.up hBw
  have HB6:Bw wc wc:=Below.refl _ _
  have K1_3:Bk wc.heap.size wc [(false,b1_7,SE (2) (7) (19)),(false,b6,DE (1) (.slice sy (cmS P0 Q0 4 H0 [3,2] [5,7]).length cy))]:=⟨.c l4 K4<| .c l6 K6<|trivial,by simp<;>omega⟩
  go_upto_region 5 with fail
  apply Rm K1_3 HB6 [(0,34,_),(1,35,_),(2,36,_),(3,37,_),(4,8,_)]
  ·exact oc (g_cl Xu cThe)<|oc (g_ld 1 Tryz.underlying30 Z2)<|oc (g_ld 0 Tryz.underlying35 Z1)<|oc (g_cb Ud (fun uZ bZ=>by have h:=hV.verify uZ (Z7 hT6 bZ) P0 Q0 4 H0 1 2 7 19 (cmS P0 Q0 4 H0 [3,2] [5,7]) _ X9 In_Q0' Tk Tl (by omega) (by omega) In_s In_s (ny_0.up bZ) (cm_In X9 is4 isH0) (by rw[Wm];decide);rw[w_v7] at h;exact h))<|oc g_as on
  intro u2 HB2 sz2 K2
  simp only[sQ] at K2⊢
  clear HB6
  go_upto_region 6 with fail
  apply Rp K2 HB2 [] [(1,9,L0h,some (2,SE (2) (7) (19)))] [(0,38,_)] [(2,1)] [] []
  ·exact oc (g_ld 0 Tryz.underlying35 Z1)<|oc (g_al 0 Yh)<|oc (g_sn 0 Z1) on
  intro u3 b3_1 HB3 sz3 K3
  simp only[sQ] at K3⊢
  clear K2 HB2
  go_upto_region 7 with fail
  apply Rp K3 HB3 [.no,.no,.all 3 (SE (2) (8) (19))] [] [(0,39,_),(1,40,_),(2,41,_)] [] [] []
  ·exact oc g_mv<|oc (g_cv (first:=[]) ent_N4 (fun fZ uZ kZ sZ=>W1 8 uZ (by omega) (by omega)))<|oc (g_fd (fdS1 _))<|oc (g_sm 2 1 ([.int .i64 2]) (LN 7) (LN 19) (post:=LN 8) iN) on
  intro u4 HB4 sz4 K4
  simp only[sQ] at K4⊢
  clear K3 HB3
  go_upto_region 8 with fail
  apply Rm K4 HB4 [(0,42,_),(1,43,_),(2,44,_),(3,45,_),(4,46,_),(5,47,_),(6,48,_),(7,49,_),(8,50,_),(9,51,_),(10,52,_),(11,53,_),(12,54,_),(13,55,_),(14,56,_),(15,57,_),(16,58,_),(17,59,_),(18,60,_),(19,61,_),(20,62,_),(21,63,_),(22,64,_),(23,65,_),(24,66,_),(25,67,_),(26,68,_),(27,69,_),(28,70,_),(29,71,_),(30,72,_),(31,0,_)]
  ·exact oc (g_fd (fdS1 _))<|oc (g_lo 0 1 uN iN)<|oc g_mv<|oc (g_cv (first:=[]) ent_N4 (fun fZ uZ kZ sZ=>W1 7 uZ (by omega) (by omega)))<|oc (g_bn (fun uZ=>eql_n _ _ (In_s:In 7) (In_s:In 7) true (by decide) uZ))<|oc g_mv<|oc (g_fd (fdS2 _))<|oc (g_lo 0 5 uN iN)<|oc g_mv<|oc (g_cv (first:=[]) ent_N4 (fun fZ uZ kZ sZ=>W1 19 uZ (by omega) (by omega)))<|oc (g_bn (fun uZ=>eql_n _ _ (In_s:In 19) (In_s:In 19) true (by decide) uZ))<|oc g_pk<|oc g_mv<|oc g_mv<|oc (g_bn (fun uZ=>Xh _ _ _ 0 0 _ uZ rfl))<|oc g_pk<|oc g_mv<|oc g_mv<|oc (g_bn (fun uZ=>Xh _ _ _ 0 0 _ uZ rfl))<|oc g_pk<|oc g_mv<|oc g_mv<|oc (g_bn (fun uZ=>Xh _ _ _ 0 0 _ uZ rfl))<|oc g_pk<|oc g_mv<|oc (g_cl Xu cThe)<|oc (g_ld 1 Tryz.underlying30 Z2)<|oc (g_ld 2 Tryz.underlying35 Z1)<|oc (g_cb Ud (fun uZ bZ=>by have h:=hV.verify uZ (Z7 hT6 bZ) P0 Q0 4 H0 1 2 8 19 (cmS P0 Q0 4 H0 [3,2] [5,7]) _ X9 In_Q0' Tk Tl (by omega) (by omega) In_s In_s (ny_0.up bZ) (cm_In X9 is4 isH0) (by rw[Wm];decide);rw[w_v8] at h;exact h))<|oc (g_bn (fun uZ=>Xh _ _ _ 100 100 _ uZ rfl))<|oc g_pk<|oc g_as on
  intro u5 HB5 sz5 K5
  simp only[sQ] at K5⊢
  clear K4 HB4
  go_wp2
  exact bodyPost_ret (v:= .bool true) (by simp[results,Tryz.results15,go_sem]) rfl ⟨rfl,Z7 hT6 HB5⟩
theorem ent_O2:EnT 15:=fun _ _=>by kernel_rfl
theorem ent_O3:EnT 27:=fun _ _=>by kernel_rfl
theorem ent_O4:EnT 19:=fun _ _=>by kernel_rfl
theorem sh_ok {nd:Int} {ss ts:List Int} (hn:ndB nd=true) (hs:shB ss.length ts.length=true):shO P0 Q0 nd ss ts=0/\shV P0 Q0 nd ss ts=SX nd (hoN Q0 nd ss ss.length) (hoN Q0 nd ts ts.length):=by
 have e:shO P0 Q0 nd ss ts=0:=by unfold shO;rw[if_pos g0_ok,hs,hn];rfl
 exact⟨e,by rw[shV,if_pos e]⟩
theorem vssRight_core (dl dn kd:Int) (sa sb:Option Addr) (n m k ca cb:Nat) (ss ts:List Int) (w:World) (hV:VOK w) (hk:min (min (n:Int) (m:Int)) 6=(k:Int)) (h1:k<=n) (h2:n<=ca) (h3:sa=none->ca=0) (h4:k<=m) (h5:m<=cb) (h6:sb=none->cb=0) (hA:NL w (.slice sa k ca) ss) (hB:NL w (.slice sb k cb) ts) (hsl:ss.length=k) (htl:ts.length=k) (hss: ∀z∈ss,In z) (hts: ∀z∈ts,In z) (hdn:1<=dn/\dn<=16) (hnd:ndB dn=true) (hwr:IntKind.i64.wrap (1+kd)=dn) (hAm:Hid (∀u,CC 29 #[.int .i64 dl,.int .i64 16] u (.int .i64 kd))):
 CC 6 #[.slice sa n ca,.slice sb m cb,.int .i64 dl] w (.bool true):=by
 go_enter Tryz.func6,Tryz.ntmps6
 have HB0:Bw w w:=Below.refl _ _
 have K0_1:=Bk.nil (w.heap.size) w
 go_upto_region 1 with fail
 apply Rn K0_1 HB0 [(0,12,_),(1,13,_)]
 ·exact oc (g_cb ent_O2 (fun uZ bZ=>works11 uZ (hV.up bZ)))<|oc (g_un Wp) on
 intro u1 HB1 sz1 K1
 simp only[sQ] at K1⊢
 clear HB0
 go_upto_region 3 with fail
 apply Rp K1 HB1 [] [] [(0,15,_),(1,16,_),(2,17,_),(3,14,_),(4,18,_),(5,19,_),(6,0,_),(7,1,_)] [(6,0),(7,1)] [(6,0),(7,1)] []
 ·exact oc g_mv<|oc g_mv<|oc (g_cl ent_O3 (fun uZ=>two_core sa sb n m k ca cb uZ hk h1 h2 h3 h4 h5 h6))<|oc g_mv<|oc g_ex<|oc g_ex<|oc g_as<|oc g_as on
 intro u2 HB2 sz2 K2
 simp only[sQ] at K2⊢
 clear K1 HB1
 go_upto_region 4 with fail
 have hTu:=HB2
 by_cases hz:k=0
 ·have hde:dlE P0 Q0 4 H0 dn ss ts=110:=by unfold dlE;rw[if_pos g0_ok,hnd,show shB ss.length ts.length=false by unfold shB;rw[decide_eq_false_iff_not];omega];rfl
  have hk0:((k:Int)==0)=true:=by rw[beq_iff_eq];omega
  have hA:Hid _:=hA
  have hB:Hid _:=hB
  clear hz
  go_cut [8] (fun s8 wx=>s8= .int .i64 110/\Bw u2 wx)
  case first=>
   replace hA:=hA.out
   replace hB:=hB.out
   go_wp2_with (first
    | (go_at_call 28;refine(cThe u2).mono ?_;rintro e u5 ⟨rfl,hB5⟩)
    | (go_at_call 29;refine(hAm.out u5).mono ?_;rintro e u6 ⟨rfl,hB6⟩;replace hB6:=Z7 hB5 hB6)
    | (go_at_call 10;refine(hV.deal u6 (Z7 hTu hB6) P0 Q0 4 H0 dn ss ts _ _ X9 In_Q0' Tk Tl (by omega) (NL.up hA (Z7 hTu hB6)) (NL.up hB (Z7 hTu hB6)) hss hts (by omega) (by omega)).mono ?_;rw[hde];rintro e u7 ⟨y,rfl,hy,hB7⟩;obtain⟨sy,cy,ey⟩:=lt_NL hy;subst ey;have hy:Hid _:=hy))
   go_meet
   exact⟨rfl,Z3 (Z7 hB6 hB7) _⟩
  case rest=>
   obtain⟨rfl,hBw⟩:=hcut
   have hTw:Bw w wc:=Z7 hTu hBw
   have K2_2:=Bk.nil (w.heap.size) wc
   go_upto_region 5 with fail
   apply Rn K2_2 hTw [(0,30,_),(1,31,_),(2,32,_)]
   ·exact oc g_mv<|oc (g_ln Tryz.underlying27)<|oc (g_bn (fun uZ=>Xh _ _ _ (k:Int) 0 _ uZ hk0)) on
   intro u3 HB3 sz3 K3
   simp only[sQ] at K3⊢
   go_upto_region 6 with fail
   apply Rn K3 HB3 [(0,33,_),(1,34,_),(2,6,_)]
   ·exact oc g_mv<|oc (g_bn (fun uZ=>Xh _ _ _ 110 110 _ uZ rfl))<|oc g_as on
   intro u4 HB4 sz4 K4
   simp only[sQ] at K4⊢
   clear K3 HB3
   go_wp2
   exact bodyPost_ret (v:= .bool true) (by simp[results,Tryz.results6,go_sem]) rfl ⟨rfl,HB4⟩
 ·have hsh:shB ss.length ts.length=true:=shB_iff.2 ⟨by omega,by omega,by omega⟩
  have hde:dlE P0 Q0 4 H0 dn ss ts=0:=dl_0 hnd hsh
  have hk0:((k:Int)==0)=false:=by rw[beq_eq_false_iff_ne];omega
  have hA:Hid _:=hA
  have hB:Hid _:=hB
  clear hz
  go_cut [7,8] (fun s7 s8 wx=> ∃b y,s7= .pointer (some ⟨b,0,none⟩)/\s8= .int .i64 0/\Bw u2 wx/\b<wx.heap.size/\CV wx b (DE dn y)/\NL wx y (cmS P0 Q0 4 H0 ss ts))
  case first=>
   replace hA:=hA.out
   replace hB:=hB.out
   go_wp2_with (first
    | (go_at_call 28;refine(cThe u2).mono ?_;rintro e u5 ⟨rfl,hB5⟩)
    | (go_at_call 29;refine(hAm.out u5).mono ?_;rintro e u6 ⟨rfl,hB6⟩;replace hB6:=Z7 hB5 hB6)
    | (go_at_call 10;refine(hV.deal u6 (Z7 hTu hB6) P0 Q0 4 H0 dn ss ts _ _ X9 In_Q0' Tk Tl (by omega) (NL.up hA (Z7 hTu hB6)) (NL.up hB (Z7 hTu hB6)) hss hts (by omega) (by omega)).mono ?_;rw[hde,dlD,dlC,hde,if_pos rfl,if_pos rfl];rintro e u7 ⟨y,rfl,hy,hB7⟩;obtain⟨sy,cy,ey⟩:=lt_NL hy;subst ey;have hy:Hid _:=hy))
   go_meet
   exact⟨u7.heap.size,_,rfl,rfl,Z3 (Z7 hB6 hB7) _,by simp,CV.new u7 _ _,NL.up hy.out (Z3 (Zp u7) _)⟩
  case rest=>
   obtain⟨b7,y,rfl,rfl,hBw,l7,K7,ny_0⟩:=hcut
   obtain⟨sy,cy,ey⟩:=lt_NL ny_0
   subst ey
   have hTw:Bw w wc:=Z7 hTu hBw
   have fa_0:=NL.up hA.out hTw
   have fb_0:=NL.up hB.out hTw
   have HBc:Bw wc wc:=Below.refl _ _
   have K2_2:Bk wc.heap.size wc [(false,b7,DE (dn) (.slice sy (cmS P0 Q0 4 H0 ss ts).length cy))]:=⟨.c l7 K7<|trivial,by simp⟩
   go_upto_region 5 with fail
   apply Rn K2_2 HBc [(0,30,_),(1,31,_),(2,32,_)]
   ·exact oc g_mv<|oc (g_ln Tryz.underlying27)<|oc (g_bn (fun uZ=>Xh _ _ _ (k:Int) 0 _ uZ hk0)) on
   intro u3 HB3 sz3 K3
   simp only[sQ] at K3⊢
   go_upto_region 7 with fail
   apply Rn K3 HB3 [(0,9,_)]
   ·exact oc g_as on
   intro u4 HB4 sz4 K4
   simp only[sQ] at K4⊢
   clear K3 HB3
   go_wp2_with fail
   go_loopw [9] (fun s9 wr=> ∃j:Nat,1<=j/\j<=7/\s9= .int .i64 (j:Int)/\Bw wc wr) (fun s9 _=>7 -(intOf s9).toNat)
   case atStart=>exact⟨1,by omega,by omega,rfl,HB4⟩
   case round=>
    obtain⟨j,hj1,hj7,rfl,HBs⟩:=hrel
    have Kr:=CV.below K7 HBs l7
    have lr:=Nat.lt_of_lt_of_le l7 HBs.size
    by_cases hj:j<=6
    ·have hl:decide ((j:Int)<=6)=true:=by simp;omega
     have hnj:ndB (j:Int)=true:=ndB_iff.2 ⟨by omega,by omega⟩
     have hShr:=fun u (hB:Bw wc u)=>hV.share u (Z7 hTw hB) P0 Q0 4 H0 (j:Int) ss ts _ _ X9 In_Q0' Tk Tl (by omega) (NL.up fa_0 hB) (NL.up fb_0 hB) hss hts (by omega) (by omega)
     rw[(sh_ok hnj hsh).1,(sh_ok hnj hsh).2] at hShr
     have ix:=hoN_In (x:=(j:Int)) (ns:=ss) In_Q0' (by decide) ss.length
     have iy:=hoN_In (x:=(j:Int)) (ns:=ts) In_Q0' (by decide) ts.length
     have hVe:Hid (∀u,Bw wc u->CC 21 #[GX P0 Q0 4 H0,DX dn (.slice sy (cmS P0 Q0 4 H0 ss ts).length cy),SX (j:Int) (hoN Q0 (j:Int) ss ss.length) (hoN Q0 (j:Int) ts ts.length)] u (.int .i64 0)):=fun u hB=>by
      have h:=hV.verify u (Z7 hTw hB) P0 Q0 4 H0 dn (j:Int) (hoN Q0 (j:Int) ss ss.length) (hoN Q0 (j:Int) ts ts.length) (cmS P0 Q0 4 H0 ss ts) _ X9 In_Q0' Tk Tl (by omega) (by omega) ix iy (NL.up ny_0 hB) (cm_In X9 is4 isH0) (by rw[Wm];omega)
      rw[W8 is4 isH0 hnd hnj hsh,if_pos rfl] at h
      exact h
     obtain⟨x,ex⟩: ∃x,hoN Q0 (j:Int) ss ss.length=x:=⟨_,rfl⟩
     obtain⟨z,ez⟩: ∃x,hoN Q0 (j:Int) ts ts.length=x:=⟨_,rfl⟩
     rw[ex,ez] at hShr hVe
     clear ex ez ix iy
     have hShr:Hid _:=hShr
     have K4_3:Bk wc.heap.size wr [(false,b7,DE (dn) (.slice sy (cmS P0 Q0 4 H0 ss ts).length cy))]:=⟨.c lr Kr<|trivial,by simp⟩
     go_upto_region 8 with fail
     apply Rn K4_3 HBs [(0,35,_),(1,36,_)]
     ·exact oc g_mv<|oc (g_bn (fun uZ=>leq_p _ _ (j:Int) 6 _ uZ hl)) on
     intro u5 HB5 sz5 K5
     simp only[sQ] at K5⊢
     go_upto_region 10 with fail
     apply Rp K5 HB5 [] [(8,10,L0h,some (9,SE ((j:Int)) (x) (z)))] [(0,40,_),(1,41,_),(2,42,_),(3,43,_),(4,44,_),(5,39,_),(6,45,_),(7,46,_),(10,11,_)] [(9,8)] [] []
     ·exact oc (g_cl Xu cThe)<|oc g_mv<|oc g_mv<|oc g_mv<|oc (g_cb ent_N2 hShr.out)<|oc g_mv<|oc g_ex<|oc g_ex<|oc (g_al 0 Yh)<|oc (g_sn 0 Z1)<|oc g_as on
     intro u6 b6_8 HB6 sz6 K6
     simp only[sQ] at K6⊢
     clear K5 HB5
     go_upto_region 11 with fail
     apply Rm K6 HB6 [(0,47,_),(1,48,_),(2,49,_),(3,50,_),(4,51,_),(5,52,_),(6,53,_),(7,54,_),(8,55,_)]
     ·exact oc g_mv<|oc (g_bn (fun uZ=>Zs _ _ _ 0 0 _ uZ rfl))<|oc g_mv<|oc (g_cl Xu cThe)<|oc (g_ld 0 Tryz.underlying30 Z2)<|oc (g_ld 1 Tryz.underlying35 Z1)<|oc (g_cb Ud hVe.out)<|oc (g_bn (fun uZ=>Zs _ _ _ 0 0 _ uZ rfl))<|oc g_pk on
     intro u7 HB7 sz7 K7
     simp only[sQ] at K7⊢
     clear K6 HB6
     go_upto_region 9 with fail
     apply Rp K7 HB7 [] [] [(0,37,_),(1,38,_),(2,9,_)] [(2,0)] [(2,9)] []
     ·exact oc g_mv<|oc (g_bn (fun uZ=>Yq _ _ (j:Int) 1 ((j+1:Nat):Int) uZ (by omega) (by omega) (by omega)))<|oc g_as on
     intro u8 HB8 sz8 K8
     simp only[sQ] at K8⊢
     clear K7 HB7
     go_wp2
     refine⟨⟨j+1,by omega,by omega,rfl,HB8⟩,?_⟩
     simp[intOf]<;>omega
    ·have hl:decide ((j:Int)<=6)=false:=by simp;omega
     have hCh:Hid (∀u,Bw wc u->CC 19 #[GX P0 Q0 4 H0,DX dn (.slice sy (cmS P0 Q0 4 H0 ss ts).length cy)] u (.int .i64 0)):=fun u hB=>by
      have h:=hV.check u (Z7 hTw hB) P0 Q0 4 H0 dn (cmS P0 Q0 4 H0 ss ts) _ X9 In_Q0' Tk Tl (by omega) (NL.up ny_0 hB) (cm_In X9 is4 isH0) (by rw[Wm];omega)
      rw[deal_ok is4 isH0 hnd hsh] at h
      exact h
     have K4_3:Bk wc.heap.size wr [(false,b7,DE (dn) (.slice sy (cmS P0 Q0 4 H0 ss ts).length cy))]:=⟨.c lr Kr<|trivial,by simp⟩
     go_upto_region 8 with fail
     apply Rn K4_3 HBs [(0,35,_),(1,36,_)]
     ·exact oc g_mv<|oc (g_bn (fun uZ=>leq_p _ _ (j:Int) 6 _ uZ hl)) on
     intro u5 HB5 sz5 K5
     simp only[sQ] at K5⊢
     go_upto_region 13 with fail
     apply Rm K5 HB5 [(0,56,_),(1,57,_),(2,58,_),(3,59,_),(4,60,_),(5,61,_),(6,62,_),(7,63,_),(8,6,_)]
     ·exact oc g_mv<|oc (g_bn (fun uZ=>Xh _ _ _ 0 0 _ uZ rfl))<|oc g_mv<|oc (g_cl Xu cThe)<|oc (g_ld 0 Tryz.underlying30 Z2)<|oc (g_cb ent_O4 hCh.out)<|oc (g_bn (fun uZ=>Xh _ _ _ 0 0 _ uZ rfl))<|oc g_pk<|oc g_as on
     intro u6 HB6 sz6 K6
     simp only[sQ] at K6⊢
     clear K5 HB5
     go_wp2
     exact bodyPost_ret (v:= .bool true) (by simp[results,Tryz.results6,go_sem]) rfl ⟨rfl,Z7 hTw HB6⟩
theorem eqn24k (a b c d x y z t:Int) (w:World):(Op.equalIn 9999 24 (A4 a b c d) (A4 x y z t)).run Tryz.prog w= .ok (eq4 a b c d x y z t) w:=by
 have u3:=Tryz.underlying22
 have a3:=Tryz.isAgg22
 have z3:=Tryz.sizeOf22
 unfold eq4
 rw[show (9999:Nat)=9998+1 from rfl,Op.equalIn]
 simp only[Sem.run_bind,run_underlying Tryz.underlying24,Result.andThen_ok]
 simp only[Std.Legacy.Range.forIn_eq_forIn_range',Std.Legacy.Range.size,Nat.sub_zero,Nat.add_sub_cancel,Nat.div_one,List.range'_succ,List.range'_zero,List.forIn_cons,List.forIn_nil]
 go_simp
 by_cases h1:a=x<;>by_cases h2:b=y<;>by_cases h3:c=z<;>by_cases h4:d=t<;>simp[h1,h2,h3,h4]
theorem eqSh (p q:Operand) (n s t n2 s2 t2:Int) (w:World):(do eqGuard .eql 35 p q (SX n s t) (SX n2 s2 t2);binOp .eql 35 (SX n s t) (SX n2 s2 t2):Sem Value).run Tryz.prog w= .ok (.bool (decide (n=n2)&&(eq4 (D0 s) (D1 s) (D2 s) (D3 s) (D0 s2) (D1 s2) (D2 s2) (D3 s2)&&eq4 (D0 t) (D1 t) (D2 t) (D3 t) (D0 t2) (D1 t2) (D2 t2) (D3 t2)))) w:=by
 have k1:=eqn24k (D0 s) (D1 s) (D2 s) (D3 s) (D0 s2) (D1 s2) (D2 s2) (D3 s2) w
 have k2:=eqn24k (D0 t) (D1 t) (D2 t) (D3 t) (D0 t2) (D1 t2) (D2 t2) (D3 t2) w
 generalize eq4 (D0 s) (D1 s) (D2 s) (D3 s) (D0 s2) (D1 s2) (D2 s2) (D3 s2)=b1 at *
 generalize eq4 (D0 t) (D1 t) (D2 t) (D3 t) (D0 t2) (D1 t2) (D2 t2) (D3 t2)=b2 at *
 go_simp
 by_cases h:n=n2
 ·cases b1<;>cases b2<;>simp[h,k1,k2]
 ·simp[h]
theorem eqS (p q:Operand) {n s t n2 s2 t2:Int} (hs:In s) (hs2:In s2) (ht:In t) (ht2:In t2) (b:Bool) (hb:decide (n=n2/\s=s2/\t=t2)=b) (w:World):(do eqGuard .eql 35 p q (SX n s t) (SX n2 s2 t2);binOp .eql 35 (SX n s t) (SX n2 s2 t2):Sem Value).run Tryz.prog w= .ok (.bool b) w:=by
 rw[eqSh,eq4_N hs hs2,eq4_N ht ht2,<-hb]
 simp
theorem sIc {b c:Nat} {v x:Int} (w:World) (h:w.cell? ⟨b,c,none⟩=some (.int .i64 v)) (hf:w.frozen? ⟨b,c,none⟩=false):(Instr.storeAt 3 (.pointer (some ⟨b,c,none⟩)) (.int .i64 x)).run Tryz.prog w= .ok () (w.setCell ⟨b,c,none⟩ (.int .i64 x)):=by
 go_simp
theorem fldQ {o:Oper} {ev:Operand->Value} {x:Operand} {p q g h:Int} (u:World) (ho:o.op= .field 26 x 1) (hx:ev x=GX p q g h):(execOp ev o).run Tryz.prog u= .ok (.value (NV q)) u:=by
 have k:(Instr.field 26 (GX p q g h) 1).run Tryz.prog u= .ok (NV q) u:=by kernel_rfl
 unfold execOp;rw[ho];simp only[hx,Sem.run_bind,k,Result.andThen_ok,Sem.run_pure]
theorem H0_1:H0≠1:=by
 have h:1<H0:=by decide+kernel
 omega
end
section
def UN (q a:Int):Prop:= ∃b,q∣b*a -1
theorem UN.mul {q a b:Int} (ha:UN q a) (hb:UN q b):UN q (a*b):=by
 obtain⟨x,k,hx⟩:=ha
 obtain⟨y,m,hy⟩:=hb
 exact⟨x*y,k*(y*b)+m,by grind⟩
theorem UN.inv {q a:Int} (hq:0<q) (h:UN q a): ∃v,IsInv (a%q) q v:=by
 obtain⟨x,k,hx⟩:=h
 have e:=Int.emod_add_mul_ediv a q
 have e2:=Int.emod_add_mul_ediv x q
 refine⟨x%q,Int.emod_nonneg _ (by omega),Int.emod_lt_of_pos _ hq,⟨k -(x/q)*a -(x%q)*(a/q),?_⟩⟩
 generalize a%q=r at *
 generalize a/q=s at *
 generalize x%q=u at *
 generalize x/q=v at *
 grind
end
section
open Go.RowKit
def flS:List (Int×Int×Int)->List Value
 | []=>[]
 | x::l=>SE x.1 x.2.1 x.2.2++flS l
def ShL (u:World) (v:Value) (l:List (Int×Int×Int)):Prop:= ∃sl gb go cap,v= .slice sl l.length cap/\l.length<=cap/\(sl=none->cap=0)/\(l=[]\/sl=some ⟨gb,go,none⟩)/\(l.length=0\/gb<u.heap.size)/\ ∀j v,(flS l)[j]?=some v->u.cell? ⟨gb,go+j,none⟩=some v
theorem ShL.up {w u:World} {v:Value} {l:List (Int×Int×Int)} (h:ShL w v l) (hB:Bw w u):ShL u v l:=by
 obtain⟨sl,gb,go,cap,h1,h2,h3,h4,h5,h6⟩:=h
 refine⟨sl,gb,go,cap,h1,h2,h3,h4,h5.imp id fun e=>Nat.lt_of_lt_of_le e hB.size,fun j v hj=>?_⟩
 rcases h5 with h5 | h5
 ·rw[List.eq_nil_of_length_eq_zero h5] at hj;simp[flS] at hj
 ·exact(hB.cell (p:=⟨gb,go+j,none⟩) h5).trans (h6 j v hj)
def opS (l:List (Int×Int×Int)):List (Int×Int):=l.map fun x=>(x.1,x.2.1)
def opT (l:List (Int×Int×Int)):List (Int×Int):=l.map fun x=>(x.1,x.2.2)
structure VOP (w:World):Prop where
 opn: ∀u,Bw w u-> ∀(p q g h:Int) (l:List (Int×Int×Int)) (v:Value) (vs:List Int),gOk p q->In p->In q->In g->In h->ShL u v l->1<=l.length->l.length<=16->(∀x∈l,(1<=x.1/\x.1<=16)/\In x.2.1/\In x.2.2)->Invs q (l.map (·.1)) vs->CC 25 #[GX p q g h,v] u (.tuple #[NV (smN q (fac q 0 (l.map (·.1)) vs) (opS l) l.length),NV (smN q (fac q 0 (l.map (·.1)) vs) (opT l) l.length),.int .i64 0])
 nought: ∀u,Bw w u-> ∀(d:Int) (ns:List Int) (v:Value),NL u v ns->(∀z∈ns,In z)->ns.length<=7->CC 23 #[DX d v] u (.bool (noB ns))
theorem VOP.up {w u:World} (h:VOP w) (hB:Bw w u):VOP u:=⟨fun v hv=>h.opn v (Z7 hB hv),fun v hv=>h.nought v (Z7 hB hv)⟩
end
end Go.Proofs.YtbbohmgjphpfeaaGreatDoor
