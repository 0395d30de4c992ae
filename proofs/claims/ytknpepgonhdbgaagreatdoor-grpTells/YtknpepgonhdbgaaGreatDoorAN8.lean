import Derived.Test.YtknpepgonhdbgaaGreatDoorLC5
namespace Go.Proofs.YtknpepgonhdbgaaGreatDoor
set_option linter.unusedVariables false
set_option linter.unusedSimpArgs false
set_option maxRecDepth 100000
set_option maxHeartbeats 4000000
section
theorem sq_Mb {p q x:Int} (hp:Pr p.toNat) (hg:gOk p q) (h:x%p≠0):Mb p q (x*x%p):=by
 have h7:=hg.2
 have h2:=hg.1
 refine Mb.of hg ?_
 have ha0:=Int.emod_nonneg x (show p≠0 by omega)
 have ha1:=Int.emod_lt_of_pos x (show 0<p by omega)
 have e0:(x*x)^q.toNat%p=(x%p)^(p.toNat -1)%p:=by
  rw[show p.toNat -1=2*q.toNat by omega,Int.pow_mul,<-Ue (x*x),<-Ue ((x%p)^2),Int.pow_succ,Int.pow_succ,Int.pow_zero,Int.one_mul,<-Int.mul_emod]
 rw[e0]
 obtain⟨a,ea⟩: ∃a:Nat,x%p=(a:Int):=⟨(x%p).toNat,by omega⟩
 rw[ea] at h ha1⊢
 have hb: ¬p.toNat∣a:=fun hd=>by have:=Nat.le_of_dvd (by omega) hd;omega
 have hf:=hp.fermat hb
 have hf2:((a^(p.toNat -1)%p.toNat:Nat):Int)=1:=by rw[hf];rfl
 rw[Int.natCast_emod,Int.natCast_pow,Int.toNat_of_nonneg (by omega)] at hf2
 exact hf2
theorem one_Mb {p q:Int} (hg:gOk p q):Mb p q 1:=by
 have h7:=hg.2
 exact⟨by omega,by omega,by rw[Int.one_pow];exact one_mod (by omega)⟩
theorem meF_is {f:Nat->Int}: ∀(k s:Nat),meF f s k=1\/ ∃i,meF f s k=f i/\1<f i
 | 0,s=>.inl rfl
 | k+1,s=>by
  rw[meF]
  by_cases h:1<f s
  ·rw[if_pos h];exact .inr ⟨s,rfl,h⟩
  ·rw[if_neg h];exact meF_is k (s+1)
theorem meN_Mb {p q:Int} (hp:Pr p.toNat) (hg:gOk p q) (bs:List Nat):Mb p q (meN p bs):=by
 unfold meN
 rcases meF_is (f:=sqM p bs) 64 0 with h | ⟨i,h,h1⟩
 ·rw[h];exact one_Mb hg
 ·rw[h]
  unfold sqM at h1⊢
  refine sq_Mb hp hg fun e=>?_
  rw[Int.mul_emod,e,Int.mul_zero,Int.zero_emod] at h1
  omega
theorem Vz {p q x:Int} (hg:gOk p q) (h:Mb p q x):isB p q x=true:=decide_eq_true ⟨hg,h⟩
abbrev P0:Int:=1162079267
abbrev Q0:Int:=581039633
theorem X0:gOk P0 Q0:=⟨by decide,by decide⟩
theorem is_4 (hp:Pr P0.toNat):Mb P0 Q0 4:=sq_Mb (x:=2) hp X0 (by decide)
theorem is_9 (hp:Pr P0.toNat):Mb P0 Q0 9:=sq_Mb (x:=3) hp X0 (by decide)
theorem is_no (hp:Pr P0.toNat):isB P0 Q0 (P0 -4)=false:=by
 have:=gn_neg (p:=P0) (q:=Q0) (a:=2) hp (by decide) (by decide) (by decide) (by decide) (by decide)
 unfold gnB at this
 have hn:=of_decide_eq_false this
 exact decide_eq_false fun h=>hn ⟨by decide,by decide,h.2.2.2⟩
end
section
open Go.RowKit
def P104 (u:World) (v:Value):Prop:=IN u u.heap.size v [104]
theorem P104.stab {u u2:World} {x:Value} (hB:Bw u u2) (h:P104 u x):P104 u2 x:=(IN.below h hB).mono hB.size
def GChk (w:World):Prop:= ∀u p q g h,Bw w u->In p->In q->In g->In h->CC 15 #[GX p q g h] u (.int .i64 (chE p q))
def GIs (w:World):Prop:= ∀u p q g h x,Bw w u->In p->In q->In g->In h->In x->CC 13 #[GX p q g h,NV x] u (.bool (isB p q x))
def GExp (w:World):Prop:= ∀u p q g h x e,Bw w u->In p->In q->In g->In h->In x->In e->CC 9 #[GX p q g h,NV x,NV e] u (.tuple #[NV (exPX p q x e),.int .i64 (exPE p q x)])
def GInv (w:World):Prop:= ∀u p q g h x,Bw w u->In p->In q->In g->In h->In x->CC 11 #[GX p q g h,NV x] u (.tuple #[NV (inPX p q x),.int .i64 (exPE p q x)])
def GPa0 (w:World):Prop:= ∀u,Bw w u->CC 27 #[.int .i64 0] u (.tuple #[GX P0 Q0 4 (meN P0 [104]),.int .i64 0])
theorem Tj:EnT 15:=fun _ _=>by kernel_rfl
theorem Tx:EnT 13:=fun _ _=>by kernel_rfl
theorem Wd:EnT 9:=fun _ _=>by kernel_rfl
theorem U5:EnT 11:=fun _ _=>by kernel_rfl
theorem ent_grp_Params:EnT 27:=fun _ _=>by kernel_rfl
theorem works9_core (P Q hh:Int) (w:World) (iP:In P) (i4:In 4) (hP4:4<=P)
 (hP:Hid (∀u,Bw w u->CC 27 #[.int .i64 0] u (.tuple #[GX P Q 4 hh,.int .i64 0])))
 (hE:Hid (∀u,Bw w u->CC 9 #[GX P Q 4 hh,NV 4,A4 0 0 0 0] u (.tuple #[NV 1,.int .i64 0])))
 (hI:Hid (∀u,Bw w u->CC 13 #[GX P Q 4 hh,NV 9] u (.bool true)))
 (hJ:Hid (∀u,Bw w u->CC 13 #[GX P Q 4 hh,NV (P -4)] u (.bool false)))
 (hC:Hid (∀u,Bw w u->CC 15 #[GX P Q 4 hh] u (.int .i64 0))):
 CC 17 #[] w (.bool true):=by
 go_enter Tryz.func17,Tryz.ntmps17
 have HB0:Bw w w:=Below.refl _ _
 have K0_1:=Bk.nil (w.heap.size) w
 go_upto_region 1 with fail
 refine rgP K0_1 HB0 HB0.size [] [(4,1,L0g,some (5,GE (P) (Q) (4) (hh)))] [(0,8,.tuple #[GX (P) (Q) (4) (hh),.int .i64 0]),(1,7,.tuple #[GX (P) (Q) (4) (hh),.int .i64 0]),(2,9,GX (P) (Q) (4) (hh)),(3,10,.int .i64 0),(6,2,.int .i64 0)] [(5,4)] [] [] ?_ ?_
 ·exact oc (g_cb ent_grp_Params (fun uZ bZ=>hP.out uZ bZ))<|oc g_mv<|oc g_ex<|oc g_ex<|oc (g_al 0 Xg)<|oc (g_sn 0 Z0)<|oc g_as on
 intro u1 b1_4 HB1 sz1 K1
 simp only[sQ] at K1⊢
 clear HB0
 go_upto_region 2 with fail
 refine rgD K1 HB1 HB1.size [] [(7,3,L0s,some (8,LN 1))] [(0,12,GX (P) (Q) (4) (hh)),(1,13,NV 4),(2,14,A4 (0) (0) (0) (0)),(3,15,.tuple #[NV 1,.int .i64 0]),(4,11,.tuple #[NV 1,.int .i64 0]),(5,16,NV 1),(6,17,.int .i64 0),(9,4,.int .i64 0)] [(8,7)] [] [] ?_ ?_
 ·exact oc (g_ld 0 Tryz.underlying26 Z0)<|oc (g_cl Zt (fun uZ=>Uj 4 uZ (by omega) (by omega)))<|oc (g_bd zN)<|oc (g_cb Wd (fun uZ bZ=>hE.out uZ bZ))<|oc g_mv<|oc g_ex<|oc g_ex<|oc (g_al 0 aN)<|oc (g_sn 0 iN)<|oc g_as on
 intro u2 b2_7 HB2 sz2 K2
 simp only[sQ] at K2⊢
 clear K1 HB1
 go_upto_region 3 with fail
 refine rgD K2 HB2 HB2.size [] [(7,5,L0s,some (8,LN (P -4)))] [(0,19,.pointer (some ⟨b1_4,0,none⟩)),(1,20,NV P),(2,21,NV 4),(3,22,.tuple #[NV (P -4),.bool false]),(4,18,.tuple #[NV (P -4),.bool false]),(5,23,NV (P -4)),(6,24,.bool false),(9,6,.bool false)] [(8,7)] [] [] ?_ ?_
 ·exact oc (g_fd (fun uZ=>fdG0 _ uZ))<|oc (g_lo 0 0 uN iN)<|oc (g_cl Zt (fun uZ=>Uj 4 uZ (by omega) (by omega)))<|oc (g_cl Yq (fun uZ=>nrSub_ge P 4 uZ iP i4 hP4))<|oc g_mv<|oc g_ex<|oc g_ex<|oc (g_al 0 aN)<|oc (g_sn 0 iN)<|oc g_as on
 intro u3 b3_7 HB3 sz3 K3
 simp only[sQ] at K3⊢
 clear K2 HB2
 go_upto_region 4 with fail
 refine rgD K3 HB3 HB3.size [] [] [(0,25,.int .i64 0),(1,26,.bool true),(2,27,.bool true),(3,28,.int .i64 0),(4,29,.bool true),(5,30,.bool true),(6,31,.bool true),(7,32,NV 1),(8,33,NV 1),(9,34,.bool true),(10,35,.bool true),(11,36,.bool true),(12,37,GX (P) (Q) (4) (hh)),(13,38,NV 9),(14,39,.bool true),(15,40,.bool true),(16,41,.bool true),(17,42,GX (P) (Q) (4) (hh)),(18,43,NV (P -4)),(19,44,.bool false),(20,45,.bool true),(21,46,.bool true),(22,47,.bool true),(23,48,GX (P) (Q) (4) (hh)),(24,49,.int .i64 0),(25,50,.bool true),(26,51,.bool true),(27,0,.bool true)] [] [] [false,false,false] ?_ ?_
 ·exact oc g_mv<|oc (g_bn (fun uZ=>Wa _ _ _ 0 0 _ uZ rfl))<|oc g_mv<|oc g_mv<|oc (g_bn (fun uZ=>Wa _ _ _ 0 0 _ uZ rfl))<|oc g_pk<|oc g_mv<|oc (g_ld 1 uN iN)<|oc (g_cl Zt (fun uZ=>Uj 1 uZ (by omega) (by omega)))<|oc (g_bn (fun uZ=>Xr _ _ (1) uZ))<|oc g_pk<|oc g_mv<|oc (g_ld 0 Tryz.underlying26 Z0)<|oc (g_cl Zt (fun uZ=>Uj 9 uZ (by omega) (by omega)))<|oc (g_cb Tx (fun uZ bZ=>hI.out uZ bZ))<|oc g_pk<|oc g_mv<|oc (g_ld 0 Tryz.underlying26 Z0)<|oc (g_ld 2 uN iN)<|oc (g_cb Tx (fun uZ bZ=>hJ.out uZ bZ))<|oc (g_un (fun uZ=>rfl))<|oc g_pk<|oc g_mv<|oc (g_ld 0 Tryz.underlying26 Z0)<|oc (g_cb Tj (fun uZ bZ=>hC.out uZ bZ))<|oc (g_bn (fun uZ=>Wa _ _ _ 0 0 _ uZ rfl))<|oc g_pk<|oc g_as on
 intro u4 HB4 sz4 K4
 simp only[sQ] at K4⊢
 clear K3 HB3
 go_wp2
 refine bodyPost_ret (v:= .bool true) (by simp[results,Tryz.results17,go_sem,]) rfl ⟨rfl,HB4⟩
theorem pr0:Pr P0.toNat:=(cfB_pr chain0_in chain0_ok).2
theorem Yb:In P0:=⟨by decide,by decide⟩
theorem Xh:In Q0:=⟨by decide,by decide⟩
theorem T9:In 4:=⟨by decide,by decide⟩
theorem In_n9:In 9:=⟨by decide,by decide⟩
theorem In_lt {p x:Int} (hp:In p) (h0:0<=x) (h1:x<=p):In x:=⟨h0,Int.lt_of_le_of_lt h1 hp.2⟩
theorem Tq {p q x:Int} (hp:In p) (h:Mb p q x):In x:=In_lt hp (by have:=h.1;omega) (by have:=h.2.1;omega)
theorem mb_h0:Mb P0 Q0 (meN P0 [104]):=meN_Mb pr0 X0 _
theorem works9 (w:World) (hP:GPa0 w) (hE:GExp w) (hI:GIs w) (hC:GChk w):CC 17 #[] w (.bool true):=by
 have iH:=Tq Yb mb_h0
 refine works9_core P0 Q0 (meN P0 [104]) w Yb T9 (by decide) (fun u hB=>?_) (fun u hB=>?_) (fun u hB=>?_) (fun u hB=>?_) (fun u hB=>?_)
 ·exact hP u hB
 ·have:=hE u P0 Q0 4 (meN P0 [104]) 4 0 hB Yb Xh T9 iH T9 ⟨by decide,by decide⟩
  rw[NV_0] at this
  have e1:isB P0 Q0 4=true:=Vz X0 (is_4 pr0)
  have e2:exPE P0 Q0 4=0:=if_pos e1
  have e3:exPX P0 Q0 4 0=1:=(if_pos e1).trans (by decide)
  rw[e2,e3] at this
  exact this
 ·have:=hI u P0 Q0 4 (meN P0 [104]) 9 hB Yb Xh T9 iH In_n9
  rw[Vz X0 (is_9 pr0)] at this
  exact this
 ·have:=hI u P0 Q0 4 (meN P0 [104]) (P0 -4) hB Yb Xh T9 iH ⟨by decide,by decide⟩
  rw[is_no pr0] at this
  exact this
 ·have:=hC u P0 Q0 4 (meN P0 [104]) hB Yb Xh T9 iH
  have e2:chE P0 Q0=0:=if_pos X0
  rw[e2] at this
  exact this
theorem eql_b (p q:Operand) (x:Bool) (w:World):(do eqGuard .eql 4 p q (.bool x) (.bool x);binOp .eql 4 (.bool x) (.bool x):Sem Value).run Tryz.prog w= .ok (.bool true) w:=by cases x<;>go_simp
theorem Vn:EnT 10:=fun _ _=>by kernel_rfl
theorem Wf:EnT 12:=fun _ _=>by kernel_rfl
theorem Zs:EnT 17:=fun _ _=>by kernel_rfl
theorem grpTells_core (p q g h x e x1 x2 e1 ce:Int) (b:Bool) (w:World)
 (hE:Hid (∀u,Bw w u->CC 9 #[GX p q g h,NV x,NV e] u (.tuple #[NV x1,.int .i64 e1]))) (hE2:Hid (∀u,Bw w u->CC 10 #[GX p q g h,NV x,NV e] u (.tuple #[NV x1,.int .i64 e1])))
 (hV:Hid (∀u,Bw w u->CC 11 #[GX p q g h,NV x] u (.tuple #[NV x2,.int .i64 e1]))) (hV2:Hid (∀u,Bw w u->CC 12 #[GX p q g h,NV x] u (.tuple #[NV x2,.int .i64 e1])))
 (hI:Hid (∀u,Bw w u->CC 13 #[GX p q g h,NV x] u (.bool b))) (hI2:Hid (∀u,Bw w u->CC 14 #[GX p q g h,NV x] u (.bool b)))
 (hC:Hid (∀u,Bw w u->CC 15 #[GX p q g h] u (.int .i64 ce))) (hC2:Hid (∀u,Bw w u->CC 16 #[GX p q g h] u (.int .i64 ce)))
 (hW:Hid (∀u,Bw w u->CC 17 #[] u (.bool true))):
 CC 3 #[GX p q g h,NV x,NV e] w (.bool true):=by
 go_enter Tryz.func3,Tryz.ntmps3
 go_upto_region 1 with fail
 generalize hC:(((w.alloc (.cells (GE (p) (q) (g) (h):List Value).toArray 26)).alloc (.cells (LN x:List Value).toArray 24)).alloc (.cells (LN e:List Value).toArray 24))=v0 at *
 have HB0:Bw w v0:=by rw[<-hC];exact Z1 (Z1 (Z1 (Z6 w) _) _) _
 have K0:Bk w.heap.size v0 [(true,w.heap.size,GE (p) (q) (g) (h)),(true,w.heap.size+1,LN x),(true,w.heap.size+1+1,LN e)]:=by rw[<-hC];exact(Bk.nil _ w).ad.ad.ad
 clear hC
 refine rgP K0 HB0 HB0.size [] [(7,7,L0s,some (8,LN x1))] [(0,16,GX (p) (q) (g) (h)),(1,17,NV x),(2,18,NV e),(3,19,.tuple #[NV x1,.int .i64 e1]),(4,15,.tuple #[NV x1,.int .i64 e1]),(5,20,NV x1),(6,21,.int .i64 e1),(9,8,.int .i64 e1)] [(8,7)] [] [] ?_ ?_
 ·exact oc (g_ld 0 Tryz.underlying26 Z0)<|oc (g_ld 1 uN iN)<|oc (g_ld 2 uN iN)<|oc (g_cb Wd (fun uZ bZ=>hE.out uZ bZ))<|oc g_mv<|oc g_ex<|oc g_ex<|oc (g_al 0 aN)<|oc (g_sn 0 iN)<|oc g_as on
 intro u1 b1_7 HB1 sz1 K1
 simp only[sQ] at K1⊢
 clear K0 HB0
 go_upto_region 2 with fail
 refine rgP K1 HB1 HB1.size [] [(7,9,L0s,some (8,LN x1))] [(0,23,GX (p) (q) (g) (h)),(1,24,NV x),(2,25,NV e),(3,26,.tuple #[NV x1,.int .i64 e1]),(4,22,.tuple #[NV x1,.int .i64 e1]),(5,27,NV x1),(6,28,.int .i64 e1),(9,10,.int .i64 e1)] [(8,7)] [] [true,true,false] ?_ ?_
 ·exact oc (g_ld 0 Tryz.underlying26 Z0)<|oc (g_ld 1 uN iN)<|oc (g_ld 2 uN iN)<|oc (g_cb Vn (fun uZ bZ=>hE2.out uZ bZ))<|oc g_mv<|oc g_ex<|oc g_ex<|oc (g_al 0 aN)<|oc (g_sn 0 iN)<|oc g_as on
 intro u2 b2_7 HB2 sz2 K2
 simp only[sQ] at K2⊢
 clear K1 HB1
 go_upto_region 3 with fail
 refine rgP K2 HB2 HB2.size [] [(6,11,L0s,some (7,LN x2))] [(0,30,GX (p) (q) (g) (h)),(1,31,NV x),(2,32,.tuple #[NV x2,.int .i64 e1]),(3,29,.tuple #[NV x2,.int .i64 e1]),(4,33,NV x2),(5,34,.int .i64 e1),(8,12,.int .i64 e1)] [(7,6)] [] [] ?_ ?_
 ·exact oc (g_ld 0 Tryz.underlying26 Z0)<|oc (g_ld 1 uN iN)<|oc (g_cb U5 (fun uZ bZ=>hV.out uZ bZ))<|oc g_mv<|oc g_ex<|oc g_ex<|oc (g_al 0 aN)<|oc (g_sn 0 iN)<|oc g_as on
 intro u3 b3_6 HB3 sz3 K3
 simp only[sQ] at K3⊢
 clear K2 HB2
 go_upto_region 4 with fail
 refine rgP K3 HB3 HB3.size [] [(6,13,L0s,some (7,LN x2))] [(0,36,GX (p) (q) (g) (h)),(1,37,NV x),(2,38,.tuple #[NV x2,.int .i64 e1]),(3,35,.tuple #[NV x2,.int .i64 e1]),(4,39,NV x2),(5,40,.int .i64 e1),(8,14,.int .i64 e1)] [(7,6)] [] [] ?_ ?_
 ·exact oc (g_ld 0 Tryz.underlying26 Z0)<|oc (g_ld 1 uN iN)<|oc (g_cb Wf (fun uZ bZ=>hV2.out uZ bZ))<|oc g_mv<|oc g_ex<|oc g_ex<|oc (g_al 0 aN)<|oc (g_sn 0 iN)<|oc g_as on
 intro u4 b4_6 HB4 sz4 K4
 simp only[sQ] at K4⊢
 clear K3 HB3
 go_upto_region 5 with fail
 refine rgD K4 HB4 HB4.size [] [] [(0,41,NV x1),(1,42,NV x1),(2,43,.bool true),(3,44,.bool true),(4,45,.int .i64 e1),(5,46,.int .i64 e1),(6,47,.bool true),(7,48,.bool true),(8,49,.bool true),(9,50,NV x2),(10,51,NV x2),(11,52,.bool true),(12,53,.bool true),(13,54,.bool true),(14,55,.int .i64 e1),(15,56,.int .i64 e1),(16,57,.bool true),(17,58,.bool true),(18,59,.bool true),(19,60,GX (p) (q) (g) (h)),(20,61,NV x),(21,62,.bool b),(22,63,GX (p) (q) (g) (h)),(23,64,NV x),(24,65,.bool b),(25,66,.bool true),(26,67,.bool true),(27,68,.bool true),(28,69,GX (p) (q) (g) (h)),(29,70,.int .i64 ce),(30,71,GX (p) (q) (g) (h)),(31,72,.int .i64 ce),(32,73,.bool true),(33,74,.bool true),(34,75,.bool true),(35,76,.bool true),(36,77,.bool true),(37,6,.bool true)] [] [] [false,false,false,false,false,false] ?_ ?_
 ·exact oc (g_ld 2 uN iN)<|oc (g_ld 3 uN iN)<|oc (g_bn (fun uZ=>Xr _ _ (x1) uZ))<|oc g_mv<|oc g_mv<|oc g_mv<|oc (g_bn (fun uZ=>Wa _ _ _ e1 e1 true uZ (by simp)))<|oc g_pk<|oc g_mv<|oc (g_ld 4 uN iN)<|oc (g_ld 5 uN iN)<|oc (g_bn (fun uZ=>Xr _ _ (x2) uZ))<|oc g_pk<|oc g_mv<|oc g_mv<|oc g_mv<|oc (g_bn (fun uZ=>Wa _ _ _ e1 e1 true uZ (by simp)))<|oc g_pk<|oc g_mv<|oc (g_ld 0 Tryz.underlying26 Z0)<|oc (g_ld 1 uN iN)<|oc (g_cb Tx (fun uZ bZ=>hI.out uZ bZ))<|oc (g_ld 0 Tryz.underlying26 Z0)<|oc (g_ld 1 uN iN)<|oc (g_cb Z5 (fun uZ bZ=>hI2.out uZ bZ))<|oc (g_bn (fun uZ=>eql_b _ _ b uZ))<|oc g_pk<|oc g_mv<|oc (g_ld 0 Tryz.underlying26 Z0)<|oc (g_cb Tj (fun uZ bZ=>hC.out uZ bZ))<|oc (g_ld 0 Tryz.underlying26 Z0)<|oc (g_cb Zi (fun uZ bZ=>hC2.out uZ bZ))<|oc (g_bn (fun uZ=>Wa _ _ _ ce ce true uZ (by simp)))<|oc g_pk<|oc g_mv<|oc (g_cb Zs (fun uZ bZ=>hW.out uZ bZ))<|oc g_pk<|oc g_as on
 intro u5 HB5 sz5 K5
 simp only[sQ] at K5⊢
 clear K4 HB4
 go_wp2
 refine bodyPost_ret (v:= .bool true) (by simp[results,Tryz.results3,go_sem,]) rfl ⟨rfl,HB5⟩
theorem GPa0.up {w u:World} (h:GPa0 w) (hB:Bw w u):GPa0 u:=fun u2 hB2=>h u2 (Zz hB hB2)
theorem GExp.up {w u:World} (h:GExp w) (hB:Bw w u):GExp u:=fun u2 p q g h' x e hB2=>h u2 p q g h' x e (Zz hB hB2)
theorem GIs.up {w u:World} (h:GIs w) (hB:Bw w u):GIs u:=fun u2 p q g h' x hB2=>h u2 p q g h' x (Zz hB hB2)
theorem GChk.up {w u:World} (h:GChk w) (hB:Bw w u):GChk u:=fun u2 p q g h' hB2=>h u2 p q g h' (Zz hB hB2)
theorem grpTells_any (p q g h x e:Int) (w:World) (hp:In p) (hq:In q) (hg:In g) (hh:In h) (hx:In x) (he:In e) (hP:GPa0 w) (hE:GExp w) (hV:GInv w) (hI:GIs w) (hC:GChk w):
 CC 3 #[GX p q g h,NV x,NV e] w (.bool true):=
 grpTells_core p q g h x e _ _ _ _ _ w (fun u hB=>hE u p q g h x e hB hp hq hg hh hx he) (fun u hB=>xExpG p q g h x e u hp hq hg hh hx he)
  (fun u hB=>hV u p q g h x hB hp hq hg hh hx) (fun u hB=>xInverseGr p q g h x u hp hq hg hh hx)
  (fun u hB=>hI u p q g h x hB hp hq hg hh hx) (fun u hB=>xIs p q g h x u hp hq hx)
  (fun u hB=>hC u p q g h hB hp hq hg hh) (fun u hB=>xCheckG p q g h u hp hq)
  (fun u hB=>works9 u (hP.up hB) (hE.up hB) (hI.up hB) (hC.up hB))
end
end Go.Proofs.YtknpepgonhdbgaaGreatDoor
