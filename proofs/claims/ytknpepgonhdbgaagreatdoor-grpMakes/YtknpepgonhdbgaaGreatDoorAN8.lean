import Derived.Test.YtknpepgonhdbgaaGreatDoorAO9
import Derived.Test.YtknpepgonhdbgaaGreatDoorTie
import Derived.Test.YtknpepgonhdbgaaGreatDoorCards
import Derived.LaidMore
import Derived.SevenTiedAt
namespace Go.Proofs.YtknpepgonhdbgaaGreatDoor
set_option linter.unusedVariables false
set_option linter.unusedSimpArgs false
set_option maxRecDepth 100000
set_option maxHeartbeats 4000000
section
theorem sq_Mb{p q x:Int}(hp:Pr p.toNat)(hg:gOk p q)(h:x%p≠0):Mb p q (x*x%p):=by
 have h7:=hg.2
 have h2:=hg.1
 refine Mb.of hg ?_
 have ha0:=Int.emod_nonneg x (show p≠0 by omega)
 have ha1:=Int.emod_lt_of_pos x (show 0<p by omega)
 have e0:(x*x)^q.toNat%p=(x%p)^(p.toNat -1)%p:=by
  rw[show p.toNat -1=2*q.toNat by omega,Int.pow_mul,<-pow_modG (x*x),<-pow_modG ((x%p)^2),Int.pow_succ,Int.pow_succ,Int.pow_zero,Int.one_mul,<-Int.mul_emod]
 rw[e0]
 obtain⟨a,ea⟩: ∃a:Nat,x%p=(a:Int):=⟨(x%p).toNat,by omega⟩
 rw[ea] at h ha1⊢
 have hb: ¬p.toNat∣a:=fun hd=>by have:=Nat.le_of_dvd (by omega) hd;omega
 have hf:=hp.fermat hb
 have hf2:((a^(p.toNat -1)%p.toNat:Nat):Int)=1:=by rw[hf];rfl
 rw[Int.natCast_emod,Int.natCast_pow,Int.toNat_of_nonneg (by omega)] at hf2
 exact hf2
theorem one_Mb{p q:Int}(hg:gOk p q):Mb p q 1:=by
 have h7:=hg.2
 exact⟨by omega,by omega,by rw[Int.one_pow];exact one_mod (by omega)⟩
theorem meF_is{f:Nat->Int}: ∀(k s:Nat),meF f s k=1\/ ∃i,meF f s k=f i/\1<f i
 | 0,s=>.inl rfl
 | k+1,s=>by
  rw[meF]
  by_cases h:1<f s
  ·rw[if_pos h];exact .inr ⟨s,rfl,h⟩
  ·rw[if_neg h];exact meF_is k (s+1)
theorem meN_Mb{p q:Int}(hp:Pr p.toNat)(hg:gOk p q)(bs:List Nat):Mb p q (meN p bs):=by
 unfold meN
 rcases meF_is (f:=sqM p bs) 64 0 with h | ⟨i,h,h1⟩
 ·rw[h];exact one_Mb hg
 ·rw[h]
  unfold sqM at h1⊢
  refine sq_Mb hp hg fun e=>?_
  rw[Int.mul_emod,e,Int.mul_zero,Int.zero_emod] at h1
  omega
theorem isB_of{p q x:Int}(hg:gOk p q)(h:Mb p q x):isB p q x=true:=decide_eq_true ⟨hg,h⟩
abbrev P0:Int:=1162079267
abbrev Q0:Int:=581039633
theorem g0_ok:gOk P0 Q0:=⟨by decide,by decide⟩
theorem is_4(hp:Pr P0.toNat):Mb P0 Q0 4:=sq_Mb (x:=2) hp g0_ok (by decide)
theorem is_9(hp:Pr P0.toNat):Mb P0 Q0 9:=sq_Mb (x:=3) hp g0_ok (by decide)
theorem is_no(hp:Pr P0.toNat):isB P0 Q0 (P0 -4)=false:=by
 have:=gn_neg (p:=P0) (q:=Q0) (a:=2) hp (by decide) (by decide) (by decide) (by decide) (by decide)
 unfold gnB at this
 have hn:=of_decide_eq_false this
 exact decide_eq_false fun h=>hn ⟨by decide,by decide,h.2.2.2⟩
end
section
open Go.RowKit
def P104(u:World)(v:Value):Prop:=IN u u.heap.size v [104]
theorem P104.stab{u u2:World}{x:Value}(hB:Bw u u2)(h:P104 u x):P104 u2 x:=(IN.below h hB).mono hB.size
theorem W7:EnT 24:=fun _ _=>by kernel_rfl
def GChk(w:World):Prop:= ∀u p q g h,Bw w u->In p->In q->In g->In h->CC 15 #[GX p q g h] u (.int .i64 (chE p q))
def GIs(w:World):Prop:= ∀u p q g h x,Bw w u->In p->In q->In g->In h->In x->CC 13 #[GX p q g h,NV x] u (.bool (isB p q x))
def GExp(w:World):Prop:= ∀u p q g h x e,Bw w u->In p->In q->In g->In h->In x->In e->CC 9 #[GX p q g h,NV x,NV e] u (.tuple #[NV (exPX p q x e),.int .i64 (exPE p q x)])
def GCom(w:World):Prop:= ∀u p q g h s t,Bw w u->In p->In q->In g->In h->In s->In t->CC 20 #[GX p q g h,NV s,NV t] u (.tuple #[NV (coX p q g h s t),.int .i64 (coE p q g h)])
def GPa0(w:World):Prop:= ∀u,Bw w u->CC 27 #[.int .i64 0] u (.tuple #[GX P0 Q0 4 (meN P0 [104]),.int .i64 0])
def GMem(w:World):Prop:= ∀u p q g h bs v,Bw w u->In p->In q->In g->In h->IN u u.heap.size v bs->(∀x∈bs,x<256)->bs.length<=200->CC 22 #[GX p q g h,v] u (.tuple #[NV (meX p q bs),.int .i64 (chE p q)])
def GSca(w:World):Prop:= ∀u p q g h bs v,Bw w u->In p->In q->In g->In h->IN u u.heap.size v bs->(∀x∈bs,x<256)->bs.length<=200->CC 25 #[GX p q g h,v] u (.tuple #[NV (scX p q bs),.int .i64 (chE p q)])
theorem ent_grp_Check:EnT 15:=fun _ _=>by kernel_rfl
theorem ent_grp_Is:EnT 13:=fun _ _=>by kernel_rfl
theorem ent_grp_Exp:EnT 9:=fun _ _=>by kernel_rfl
theorem ent_grp_Params:EnT 27:=fun _ _=>by kernel_rfl
theorem works9_core(P Q hh:Int)(w:World)(iP:In P)(i4:In 4)(hP4:4<=P)
 (hP:Hid (∀u,Bw w u->CC 27 #[.int .i64 0] u (.tuple #[GX P Q 4 hh,.int .i64 0])))
 (hE:Hid (∀u,Bw w u->CC 9 #[GX P Q 4 hh,NV 4,A4 0 0 0 0] u (.tuple #[NV 1,.int .i64 0])))
 (hI:Hid (∀u,Bw w u->CC 13 #[GX P Q 4 hh,NV 9] u (.bool true)))
 (hJ:Hid (∀u,Bw w u->CC 13 #[GX P Q 4 hh,NV (P -4)] u (.bool false)))
 (hC:Hid (∀u,Bw w u->CC 15 #[GX P Q 4 hh] u (.int .i64 0))):
 CC 17 #[] w (.bool true):=by
 go_enter Tryz.func17,Tryz.ntmps17
 have HB0:Bw w w:=Below.refl _ _
 have K0_1:=Bk.nil (w.heap.size) w
 go_upto_region 1 with fail
 refine rgP K0_1 HB0 HB0.size [] [(4,1,L0g,some (5,GE P Q (4) hh))] [(0,8,.tuple #[GX P Q (4) hh,.int .i64 0]),(1,7,.tuple #[GX P Q (4) hh,.int .i64 0]),(2,9,GX P Q (4) hh),(3,10,.int .i64 0),(6,2,.int .i64 0)] [(5,4)] [] [] ?_ ?_
 ·exact oc (g_cb ent_grp_Params (fun uZ bZ=>hP.out uZ bZ))<|oc g_mv<|oc g_ex<|oc g_ex<|oc (g_al 0 al_api_Group)<|oc (g_sn 0 Z1)<|oc g_as on
 intro u1 b1_4 HB1 sz1 K1
 simp only[sQ] at K1⊢
 clear HB0
 go_upto_region 2 with fail
 refine rgD K1 HB1 HB1.size [] [(7,3,L0s,some (8,LN 1))] [(0,12,GX P Q (4) hh),(1,13,NV 4),(2,14,A4 (0) (0) (0) (0)),(3,15,.tuple #[NV 1,.int .i64 0]),(4,11,.tuple #[NV 1,.int .i64 0]),(5,16,NV 1),(6,17,.int .i64 0),(9,4,.int .i64 0)] [(8,7)] [] [] ?_ ?_
 ·exact oc (g_ld 0 Tryz.underlying26 Z1)<|oc (g_cl Y8 (fun uZ=>bNat_any 4 uZ (by omega) (by omega)))<|oc (g_bd zN)<|oc (g_cb ent_grp_Exp (fun uZ bZ=>hE.out uZ bZ))<|oc g_mv<|oc g_ex<|oc g_ex<|oc (g_al 0 aN)<|oc (g_sn 0 iN)<|oc g_as on
 intro u2 b2_7 HB2 sz2 K2
 simp only[sQ] at K2⊢
 clear K1 HB1
 go_upto_region 3 with fail
 refine rgD K2 HB2 HB2.size [] [(7,5,L0s,some (8,LN (P -4)))] [(0,19,.pointer (some ⟨b1_4,0,none⟩)),(1,20,NV P),(2,21,NV 4),(3,22,.tuple #[NV (P -4),.bool false]),(4,18,.tuple #[NV (P -4),.bool false]),(5,23,NV (P -4)),(6,24,.bool false),(9,6,.bool false)] [(8,7)] [] [] ?_ ?_
 ·exact oc (g_fd (fun uZ=>fdG0 _ uZ))<|oc (g_lo 0 0 uN iN)<|oc (g_cl Y8 (fun uZ=>bNat_any 4 uZ (by omega) (by omega)))<|oc (g_cl Wv (fun uZ=>nrSub_ge P 4 uZ iP i4 hP4))<|oc g_mv<|oc g_ex<|oc g_ex<|oc (g_al 0 aN)<|oc (g_sn 0 iN)<|oc g_as on
 intro u3 b3_7 HB3 sz3 K3
 simp only[sQ] at K3⊢
 clear K2 HB2
 go_upto_region 4 with fail
 refine rgD K3 HB3 HB3.size [] [] [(0,25,.int .i64 0),(1,26,.bool true),(2,27,.bool true),(3,28,.int .i64 0),(4,29,.bool true),(5,30,.bool true),(6,31,.bool true),(7,32,NV 1),(8,33,NV 1),(9,34,.bool true),(10,35,.bool true),(11,36,.bool true),(12,37,GX P Q (4) hh),(13,38,NV 9),(14,39,.bool true),(15,40,.bool true),(16,41,.bool true),(17,42,GX P Q (4) hh),(18,43,NV (P -4)),(19,44,.bool false),(20,45,.bool true),(21,46,.bool true),(22,47,.bool true),(23,48,GX P Q (4) hh),(24,49,.int .i64 0),(25,50,.bool true),(26,51,.bool true),(27,0,.bool true)] [] [] [false,false,false] ?_ ?_
 ·exact oc g_mv<|oc (g_bn (fun uZ=>eql_i _ _ _ 0 0 _ uZ rfl))<|oc g_mv<|oc g_mv<|oc (g_bn (fun uZ=>eql_i _ _ _ 0 0 _ uZ rfl))<|oc g_pk<|oc g_mv<|oc (g_ld 1 uN iN)<|oc (g_cl Y8 (fun uZ=>bNat_any 1 uZ (by omega) (by omega)))<|oc (g_bn (fun uZ=>U5 _ _ (1) uZ))<|oc g_pk<|oc g_mv<|oc (g_ld 0 Tryz.underlying26 Z1)<|oc (g_cl Y8 (fun uZ=>bNat_any 9 uZ (by omega) (by omega)))<|oc (g_cb ent_grp_Is (fun uZ bZ=>hI.out uZ bZ))<|oc g_pk<|oc g_mv<|oc (g_ld 0 Tryz.underlying26 Z1)<|oc (g_ld 2 uN iN)<|oc (g_cb ent_grp_Is (fun uZ bZ=>hJ.out uZ bZ))<|oc (g_un (fun uZ=>rfl))<|oc g_pk<|oc g_mv<|oc (g_ld 0 Tryz.underlying26 Z1)<|oc (g_cb ent_grp_Check (fun uZ bZ=>hC.out uZ bZ))<|oc (g_bn (fun uZ=>eql_i _ _ _ 0 0 _ uZ rfl))<|oc g_pk<|oc g_as on
 intro u4 HB4 sz4 K4
 simp only[sQ] at K4⊢
 clear K3 HB3
 go_wp2
 refine bodyPost_ret (v:= .bool true) (by simp[results,Tryz.results17,go_sem,]) rfl ⟨rfl,HB4⟩
theorem pr0:Pr P0.toNat:=(cfB_pr chain0_in chain0_ok).2
theorem In_P0':In P0:=⟨by decide,by decide⟩
theorem In_Q0':In Q0:=⟨by decide,by decide⟩
theorem In_n4:In 4:=⟨by decide,by decide⟩
theorem In_n9:In 9:=⟨by decide,by decide⟩
theorem In_lt{p x:Int}(hp:In p)(h0:0<=x)(h1:x<=p):In x:=⟨h0,Int.lt_of_le_of_lt h1 hp.2⟩
theorem In_Mb{p q x:Int}(hp:In p)(h:Mb p q x):In x:=In_lt hp (by have:=h.1;omega) (by have:=h.2.1;omega)
theorem mb_h0:Mb P0 Q0 (meN P0 [104]):=meN_Mb pr0 g0_ok _
theorem works9(w:World)(hP:GPa0 w)(hE:GExp w)(hI:GIs w)(hC:GChk w):CC 17 #[] w (.bool true):=by
 have iH:=In_Mb In_P0' mb_h0
 refine works9_core P0 Q0 (meN P0 [104]) w In_P0' In_n4 (by decide) (fun u hB=>?_) (fun u hB=>?_) (fun u hB=>?_) (fun u hB=>?_) (fun u hB=>?_)
 ·exact hP u hB
 ·have:=hE u P0 Q0 4 (meN P0 [104]) 4 0 hB In_P0' In_Q0' In_n4 iH In_n4 ⟨by decide,by decide⟩
  rw[NV_0] at this
  have e1:isB P0 Q0 4=true:=isB_of g0_ok (is_4 pr0)
  have e2:exPE P0 Q0 4=0:=if_pos e1
  have e3:exPX P0 Q0 4 0=1:=(if_pos e1).trans (by decide)
  rw[e2,e3] at this
  exact this
 ·have:=hI u P0 Q0 4 (meN P0 [104]) 9 hB In_P0' In_Q0' In_n4 iH In_n9
  rw[isB_of g0_ok (is_9 pr0)] at this
  exact this
 ·have:=hI u P0 Q0 4 (meN P0 [104]) (P0 -4) hB In_P0' In_Q0' In_n4 iH ⟨by decide,by decide⟩
  rw[is_no pr0] at this
  exact this
 ·have:=hC u P0 Q0 4 (meN P0 [104]) hB In_P0' In_Q0' In_n4 iH
  have e2:chE P0 Q0=0:=if_pos g0_ok
  rw[e2] at this
  exact this
theorem Wg:EnT 17:=fun _ _=>by kernel_rfl
theorem GPa0.up{w u:World}(h:GPa0 w)(hB:Bw w u):GPa0 u:=fun u2 hB2=>h u2 (Zt hB hB2)
theorem GExp.up{w u:World}(h:GExp w)(hB:Bw w u):GExp u:=fun u2 p q g h' x e hB2=>h u2 p q g h' x e (Zt hB hB2)
theorem GIs.up{w u:World}(h:GIs w)(hB:Bw w u):GIs u:=fun u2 p q g h' x hB2=>h u2 p q g h' x (Zt hB hB2)
theorem GChk.up{w u:World}(h:GChk w)(hB:Bw w u):GChk u:=fun u2 p q g h' hB2=>h u2 p q g h' (Zt hB hB2)
def GMul(w:World):Prop:= ∀u p q g h ns v,Bw w u->In p->In q->In g->In h->NL u v ns->ns.length<=12->(∀k,k<ns.length->In (ns.getD k 0))->CC 18 #[GX p q g h,v] u (.tuple #[NV (mlX p q ns),.int .i64 (mlE p q ns)])
theorem ent_grp_Commit:EnT 20:=fun _ _=>by kernel_rfl
theorem ent_grp_Mul:EnT 18:=fun _ _=>by kernel_rfl
theorem slHG(sl:Option Addr)(n cap k:Nat)(h:k<=n)(hc:n<=cap)(hn:sl=none->cap=0)(w:World):(Instr.sliceAt 36 (.slice sl n cap) none (some (.int .i64 k)) none).run Tryz.prog w= .ok (.slice sl k cap) w:=by
 cases sl with
 | none=>
  have e0:=hn rfl
  have e1:n=0:=by omega
  have e2:k=0:=by omega
  subst e0 e1 e2
  show (Instr.sliceAt 36 (.slice none 0 0) none (some (.int .i64 0)) none).run Tryz.prog w=_
  kernel_rfl
 | some a=>
  have h3:k<=cap:=by omega
  simp[Instr.sliceAt,Instr.slice,go_sem,Tryz.underlying36,h3]
theorem ent_grp_Member:EnT 22:=fun _ _=>by kernel_rfl
theorem ent_grp_Scalar:EnT 25:=fun _ _=>by kernel_rfl
def PGI(ys:List Nat)(u:World)(v:Value):Prop:=IN u u.heap.size v ys
theorem PGI.stab{ys:List Nat}{u u2:World}{x:Value}(hB:Bw u u2)(h:PGI ys u x):PGI ys u2 x:=(IN.below h hB).mono hB.size
theorem PO.nl{base:Nat}{ns:List Int}{u:World}{x:Value}(h:PO base ns u x):NL u x ns:=by
 have h2:=h.2
 obtain⟨b,c,rfl,hb,hs⟩:=h.at
 have hc:ns.length<=c:=by
  rcases h2.2 with⟨e,_⟩ | ⟨g,cap,cur,e,_,_,hle,_⟩
  ·cases e
  ·cases e;exact hle
 exact⟨_,b,0,c,rfl,hc,(fun e=>by cases e),.inr rfl,.inr hb,hs⟩
theorem Wt:EnT 19:=fun _ _=>by kernel_rfl
theorem W8:EnT 21:=fun _ _=>by kernel_rfl
theorem W6:EnT 26:=fun _ _=>by kernel_rfl
theorem grpMakes_core(p q g h s t a ea d ed m r ce:Int)(sl:Option Addr)(gb go len cap:Nat)(ns:List Int)(sl2:Option Addr)(n2 cap2 m2:Nat)(ys:List Nat)(w:World)(hlen:min (len:Int) 12=(ns.length:Int))(hc:len<=cap)(hsn:sl=none->cap=0)(hg0:ns.length=0\/gb<w.heap.size)(hS:Hid (SN w gb go ns))(hsl:ns=[]\/sl=some ⟨gb,go,none⟩)
 (hmin2:min (n2:Int) 200=(m2:Int))(hm2:m2<=n2)(hc2:n2<=cap2)(hsn2:sl2=none->cap2=0)
 (hM:Hid (∀u v,Bw w u->NL u v ns->CC 18 #[GX p q g h,v] u (.tuple #[NV a,.int .i64 ea])))
 (hM2:Hid (∀u,Bw w u->CC 19 #[GX p q g h,.slice sl ns.length cap] u (.tuple #[NV a,.int .i64 ea])))
 (hK:Hid (∀u,Bw w u->CC 20 #[GX p q g h,NV s,NV t] u (.tuple #[NV d,.int .i64 ed])))
 (hK2:Hid (∀u,Bw w u->CC 21 #[GX p q g h,NV s,NV t] u (.tuple #[NV d,.int .i64 ed])))
 (hBy:Hid (∀u,Bw w u->Calls Tryz.prog 23 #[(.slice sl2 m2 cap2)] u fun e u'=> ∃v,e= .returned v/\PGI ys u' v/\Bw u u'))
 (hMember:Hid (∀u v,Bw w u->PGI ys u v->CC 22 #[GX p q g h,v] u (.tuple #[NV m,.int .i64 ce])))
 (hScalar:Hid (∀u v,Bw w u->PGI ys u v->CC 25 #[GX p q g h,v] u (.tuple #[NV r,.int .i64 ce])))
 (hMember2:Hid (∀u,Bw w u->CC 24 #[GX p q g h,(.slice sl2 m2 cap2)] u (.tuple #[NV m,.int .i64 ce])))
 (hScalar2:Hid (∀u,Bw w u->CC 26 #[GX p q g h,(.slice sl2 m2 cap2)] u (.tuple #[NV r,.int .i64 ce])))
 (hW:Hid (∀u,Bw w u->CC 17 #[] u (.bool true))):
 CC 4 #[GX p q g h,.slice sl len cap,NV s,NV t,(.slice sl2 n2 cap2)] w (.bool true):=by
 have hn12:ns.length<=12:=by omega
 go_enter Tryz.func4,Tryz.ntmps4
 go_upto_region 1 with fail
 generalize hC:(((w.alloc (.cells (GE p q g h:List Value).toArray 26)).alloc (.cells (LN s:List Value).toArray 24)).alloc (.cells (LN t:List Value).toArray 24))=v0 at *
 have HB0:Bw w v0:=by rw[<-hC];exact Z0 (Z0 (Z0 (Z5 w) _) _) _
 have K0:Bk w.heap.size v0 [(true,w.heap.size,GE p q g h),(true,w.heap.size+1,LN s),(true,w.heap.size+1+1,LN t)]:=by rw[<-hC];exact(Bk.nil _ w).ad.ad.ad
 clear hC
 refine rgD K0 HB0 HB0.size [] [] [(0,27,.slice sl len cap),(1,28,.slice sl len cap),(2,29,.int .i64 (len:Int)),(3,30,.int .i64 (ns.length:Int)),(4,31,.slice sl ns.length cap),(5,32,(.slice sl2 n2 cap2)),(6,33,(.slice sl2 n2 cap2)),(7,34,.int .i64 (n2:Int)),(8,35,.int .i64 (m2:Int)),(9,36,(.slice sl2 m2 cap2)),(10,1,.slice sl ns.length cap),(11,4,(.slice sl2 m2 cap2))] [(10,0),(10,1),(11,5),(11,6)] [(10,1),(11,4)] [] ?_ ?_
 ·exact oc g_mv<|oc g_mv<|oc (g_ln Tryz.underlying35)<|oc (g_mn hlen)<|oc (g_sl (fun uZ=>slH sl len cap ns.length (by omega) hc hsn uZ))<|oc g_mv<|oc g_mv<|oc (g_ln Tryz.underlying36)<|oc (g_mn hmin2)<|oc (g_sl (fun uZ=>slHG sl2 n2 cap2 m2 hm2 hc2 hsn2 uZ))<|oc g_as<|oc g_as on
 intro u1 HB1 sz1 K1
 simp only[sQ] at K1⊢
 clear K0 HB0
 go_upto_region 2 with fail
 refine rgE K1 HB1 HB1.size [] [(8,11,L0s,some (9,LN a))] [(0,38,GX p q g h),(2,40,.slice sl ns.length cap),(4,42,.tuple #[NV a,.int .i64 ea]),(5,37,.tuple #[NV a,.int .i64 ea]),(6,43,NV a),(7,44,.int .i64 ea),(10,12,.int .i64 ea)] [(9,8)] [] [⟨1,39,some 3,PE u1.heap.size⟩,⟨3,41,some 4,PO u1.heap.size ns⟩] [] (.cons (fun _ _ _ h1 h2=>h2.stab h1)<| .cons (fun _ _ _ h1 h2=>h2.stab h1)<|Stab.nil) ?_ ?_
 ·exact oc (g_ld 0 Tryz.underlying26 Z1)<|oc (g_bs 0 (PE u1.heap.size) bsN (fun u hu=>PE.new hu))<|oc g_mv<|oc (g_a1 0 1 (PE u1.heap.size) (PO u1.heap.size ns) (fun u vs hB hs h=>app_empty u1.heap.size u _ vs sl gb go cap ns hs (by omega) hsl (hS.out.below2 hB hg0) h))<|oc (g_c2 1 (PO u1.heap.size ns) ent_grp_Mul (fun uZ y bZ h=>hM.out uZ y bZ h.nl))<|oc g_mv<|oc g_ex<|oc g_ex<|oc (g_al 0 aN)<|oc (g_sn 0 iN)<|oc g_as on
 intro u2 b2_8 v2_1 hv2_1 v2_3 hv2_3 HB2 sz2 K2
 simp only[sQ] at K2⊢
 clear K1 HB1
 go_upto_region 3 with fail
 refine rgP K2 HB2 HB2.size [] [(6,13,L0s,some (7,LN a))] [(0,46,GX p q g h),(1,47,.slice sl ns.length cap),(2,48,.tuple #[NV a,.int .i64 ea]),(3,45,.tuple #[NV a,.int .i64 ea]),(4,49,NV a),(5,50,.int .i64 ea),(8,14,.int .i64 ea)] [(7,6)] [] [] ?_ ?_
 ·exact oc (g_ld 0 Tryz.underlying26 Z1)<|oc g_mv<|oc (g_cb Wt (fun uZ bZ=>hM2.out uZ bZ))<|oc g_mv<|oc g_ex<|oc g_ex<|oc (g_al 0 aN)<|oc (g_sn 0 iN)<|oc g_as on
 intro u3 b3_6 HB3 sz3 K3
 simp only[sQ] at K3⊢
 clear K2 HB2
 go_upto_region 4 with fail
 refine rgP K3 HB3 HB3.size [] [(7,15,L0s,some (8,LN d))] [(0,52,GX p q g h),(1,53,NV s),(2,54,NV t),(3,55,.tuple #[NV d,.int .i64 ed]),(4,51,.tuple #[NV d,.int .i64 ed]),(5,56,NV d),(6,57,.int .i64 ed),(9,16,.int .i64 ed)] [(8,7)] [] [] ?_ ?_
 ·exact oc (g_ld 0 Tryz.underlying26 Z1)<|oc (g_ld 1 uN iN)<|oc (g_ld 2 uN iN)<|oc (g_cb ent_grp_Commit (fun uZ bZ=>hK.out uZ bZ))<|oc g_mv<|oc g_ex<|oc g_ex<|oc (g_al 0 aN)<|oc (g_sn 0 iN)<|oc g_as on
 intro u4 b4_7 HB4 sz4 K4
 simp only[sQ] at K4⊢
 clear K3 HB3
 go_upto_region 5 with fail
 refine rgP K4 HB4 HB4.size [] [(7,17,L0s,some (8,LN d))] [(0,59,GX p q g h),(1,60,NV s),(2,61,NV t),(3,62,.tuple #[NV d,.int .i64 ed]),(4,58,.tuple #[NV d,.int .i64 ed]),(5,63,NV d),(6,64,.int .i64 ed),(9,18,.int .i64 ed)] [(8,7)] [] [true,false,false] ?_ ?_
 ·exact oc (g_ld 0 Tryz.underlying26 Z1)<|oc (g_ld 1 uN iN)<|oc (g_ld 2 uN iN)<|oc (g_cb W8 (fun uZ bZ=>hK2.out uZ bZ))<|oc g_mv<|oc g_ex<|oc g_ex<|oc (g_al 0 aN)<|oc (g_sn 0 iN)<|oc g_as on
 intro u5 b5_7 HB5 sz5 K5
 simp only[sQ] at K5⊢
 clear K4 HB4
 go_upto_region 6 with fail
 refine rgE K5 HB5 HB5.size [] [(7,19,L0s,some (8,LN m))] [(0,66,GX p q g h),(1,67,(.slice sl2 m2 cap2)),(3,69,.tuple #[NV m,.int .i64 ce]),(4,65,.tuple #[NV m,.int .i64 ce]),(5,70,NV m),(6,71,.int .i64 ce),(9,20,.int .i64 ce)] [(8,7)] [] [⟨2,68,some 3,(PGI ys)⟩] [] (.cons (fun _ _ _ h1 h2=>h2.stab h1)<|Stab.nil) ?_ ?_
 ·exact oc (g_ld 0 Tryz.underlying26 Z1)<|oc g_mv<|oc (g_cE 0 (PGI ys) X2 (fun u hB hs=>hBy.out u hB))<|oc (g_c2 0 (PGI ys) ent_grp_Member (fun uZ y bZ hy=>hMember.out uZ y bZ hy))<|oc g_mv<|oc g_ex<|oc g_ex<|oc (g_al 0 aN)<|oc (g_sn 0 iN)<|oc g_as on
 intro u6 b6_7 v6_2 hv6_2 HB6 sz6 K6
 simp only[sQ] at K6⊢
 clear K5 HB5
 go_upto_region 7 with fail
 refine rgP K6 HB6 HB6.size [] [(6,21,L0s,some (7,LN m))] [(0,73,GX p q g h),(1,74,(.slice sl2 m2 cap2)),(2,75,.tuple #[NV m,.int .i64 ce]),(3,72,.tuple #[NV m,.int .i64 ce]),(4,76,NV m),(5,77,.int .i64 ce),(8,22,.int .i64 ce)] [(7,6)] [] [] ?_ ?_
 ·exact oc (g_ld 0 Tryz.underlying26 Z1)<|oc g_mv<|oc (g_cb W7 (fun uZ bZ=>hMember2.out uZ bZ))<|oc g_mv<|oc g_ex<|oc g_ex<|oc (g_al 0 aN)<|oc (g_sn 0 iN)<|oc g_as on
 intro u7 b7_6 HB7 sz7 K7
 simp only[sQ] at K7⊢
 clear K6 HB6
 go_upto_region 8 with fail
 refine rgE K7 HB7 HB7.size [] [(7,23,L0s,some (8,LN r))] [(0,79,GX p q g h),(1,80,(.slice sl2 m2 cap2)),(3,82,.tuple #[NV r,.int .i64 ce]),(4,78,.tuple #[NV r,.int .i64 ce]),(5,83,NV r),(6,84,.int .i64 ce),(9,24,.int .i64 ce)] [(8,7)] [] [⟨2,81,some 3,(PGI ys)⟩] [] (.cons (fun _ _ _ h1 h2=>h2.stab h1)<|Stab.nil) ?_ ?_
 ·exact oc (g_ld 0 Tryz.underlying26 Z1)<|oc g_mv<|oc (g_cE 0 (PGI ys) X2 (fun u hB hs=>hBy.out u hB))<|oc (g_c2 0 (PGI ys) ent_grp_Scalar (fun uZ y bZ hy=>hScalar.out uZ y bZ hy))<|oc g_mv<|oc g_ex<|oc g_ex<|oc (g_al 0 aN)<|oc (g_sn 0 iN)<|oc g_as on
 intro u8 b8_7 v8_2 hv8_2 HB8 sz8 K8
 simp only[sQ] at K8⊢
 clear K7 HB7
 go_upto_region 9 with fail
 refine rgP K8 HB8 HB8.size [] [(6,25,L0s,some (7,LN r))] [(0,86,GX p q g h),(1,87,(.slice sl2 m2 cap2)),(2,88,.tuple #[NV r,.int .i64 ce]),(3,85,.tuple #[NV r,.int .i64 ce]),(4,89,NV r),(5,90,.int .i64 ce),(8,26,.int .i64 ce)] [(7,6)] [] [false] ?_ ?_
 ·exact oc (g_ld 0 Tryz.underlying26 Z1)<|oc g_mv<|oc (g_cb W6 (fun uZ bZ=>hScalar2.out uZ bZ))<|oc g_mv<|oc g_ex<|oc g_ex<|oc (g_al 0 aN)<|oc (g_sn 0 iN)<|oc g_as on
 intro u9 b9_6 HB9 sz9 K9
 simp only[sQ] at K9⊢
 clear K8 HB8
 go_upto_region 10 with fail
 refine rgP K9 HB9 HB9.size [] [] [(0,91,NV a),(1,92,NV a),(2,93,.bool true),(3,94,.bool true),(4,95,.int .i64 ea),(5,96,.int .i64 ea),(6,97,.bool true),(7,98,.bool true),(8,99,.bool true),(9,100,NV d),(10,101,NV d),(11,102,.bool true),(12,103,.bool true),(13,104,.bool true),(14,105,.int .i64 ed),(15,106,.int .i64 ed),(16,107,.bool true),(17,108,.bool true),(18,109,.bool true),(19,110,NV m),(20,111,NV m),(21,112,.bool true),(22,113,.bool true),(23,114,.bool true),(24,115,.int .i64 ce),(25,116,.int .i64 ce),(26,117,.bool true),(27,118,.bool true),(28,119,.bool true),(29,120,NV r),(30,121,NV r),(31,122,.bool true),(32,123,.bool true),(33,124,.bool true),(34,125,.int .i64 ce),(35,126,.int .i64 ce),(36,127,.bool true),(37,128,.bool true),(38,129,.bool true),(39,130,.bool true),(40,131,.bool true),(41,10,.bool true)] [] [] [false,false,false,false,false,false,false,false] ?_ ?_
 ·exact oc (g_ld 0 uN iN)<|oc (g_ld 1 uN iN)<|oc (g_bn (fun uZ=>U5 _ _ a uZ))<|oc g_mv<|oc g_mv<|oc g_mv<|oc (g_bn (fun uZ=>eql_i _ _ _ ea ea true uZ (by simp)))<|oc g_pk<|oc g_mv<|oc (g_ld 2 uN iN)<|oc (g_ld 3 uN iN)<|oc (g_bn (fun uZ=>U5 _ _ d uZ))<|oc g_pk<|oc g_mv<|oc g_mv<|oc g_mv<|oc (g_bn (fun uZ=>eql_i _ _ _ ed ed true uZ (by simp)))<|oc g_pk<|oc g_mv<|oc (g_ld 4 uN iN)<|oc (g_ld 5 uN iN)<|oc (g_bn (fun uZ=>U5 _ _ m uZ))<|oc g_pk<|oc g_mv<|oc g_mv<|oc g_mv<|oc (g_bn (fun uZ=>eql_i _ _ _ ce ce true uZ (by simp)))<|oc g_pk<|oc g_mv<|oc (g_ld 6 uN iN)<|oc (g_ld 7 uN iN)<|oc (g_bn (fun uZ=>U5 _ _ r uZ))<|oc g_pk<|oc g_mv<|oc g_mv<|oc g_mv<|oc (g_bn (fun uZ=>eql_i _ _ _ ce ce true uZ (by simp)))<|oc g_pk<|oc g_mv<|oc (g_cb Wg (fun uZ bZ=>hW.out uZ bZ))<|oc g_pk<|oc g_as on
 intro u10 HB10 sz10 K10
 simp only[sQ] at K10⊢
 clear K9 HB9
 go_wp2
 refine bodyPost_ret (v:= .bool true) (by simp[results,Tryz.results4,go_sem,]) rfl ⟨rfl,HB10⟩
theorem grpMakes_any(p q g h s t:Int)(sl:Option Addr)(gb go len cap:Nat)(ns:List Int)(sl2:Option Addr)(n2 cap2 m2:Nat)(ys:List Nat)(w:World)(hp:In p)(hq:In q)(hg:In g)(hh:In h)(hs:In s)(ht:In t)(hns: ∀k,k<ns.length->In (ns.getD k 0))
 (hlen:min (len:Int) 12=(ns.length:Int))(hc:len<=cap)(hsn:sl=none->cap=0)(hg0:ns.length=0\/gb<w.heap.size)(hS:SN w gb go ns)(hsl:ns=[]\/sl=some ⟨gb,go,none⟩)
 (hmin2:min (n2:Int) 200=(m2:Int))(hm2:m2<=n2)(hc2:n2<=cap2)(hsn2:sl2=none->cap2=0)
 (hin: ∀u,Bw w u->IN u u.heap.size (.slice sl2 m2 cap2) ys)(hb: ∀x∈ys,x<256)(hl:ys.length<=200)
 (hP:GPa0 w)(hE:GExp w)(hI:GIs w)(hC:GChk w)(hK:GCom w)(hM:GMul w)(hB:GMem w)(hA:GSca w):
 CC 4 #[GX p q g h,.slice sl len cap,NV s,NV t,(.slice sl2 n2 cap2)] w (.bool true):=by
 have hn12:ns.length<=12:=by omega
 have hix:Hid (∀j,j<ns.length-> ∀W,(Instr.indexAt 35 (.slice sl ns.length cap) (.int .i64 j)).run Tryz.prog W= .ok (.pointer (some ⟨gb,go+4*j,none⟩)) W):=fun j hj W=>by
  have e:=hsl.resolve_left (fun e=>by subst e;simp at hj)
  subst e
  exact ixS gb go ns.length cap j hj W
 refine grpMakes_core p q g h s t _ _ _ _ _ _ _ sl gb go len cap ns sl2 n2 cap2 m2 ys w hlen hc hsn hg0 hS hsl hmin2 hm2 hc2 hsn2
  (fun u v hB' hv=>hM u p q g h ns v hB' hp hq hg hh hv hn12 hns) (fun u hB'=>xMulG p q g h sl gb go cap ns u (by omega) hp hq hns hix (hg0.imp id fun e=>Nat.lt_of_lt_of_le e hB'.size) (SN.below2 hS hB' hg0))
  (fun u hB'=>hK u p q g h s t hB' hp hq hg hh hs ht) (fun u hB'=>xCommit p q g h s t u hp hq hg hh hs ht) (fun u hB'=>?_)
  (fun u v hB' hv=>hB u p q g h ys v hB' hp hq hg hh hv hb hl) (fun u v hB' hv=>hA u p q g h ys v hB' hp hq hg hh hv hb hl)
  (fun u hB'=>xMemberG p q g h ys _ u hp hq (hin u hB') hb (by omega)) (fun u hB'=>xScalar p q g h ys _ u hp hq (hin u hB') hb (by omega))
  (fun u hB'=>works9 u (hP.up hB') (hE.up hB') (hI.up hB') (hC.up hB'))
 exact(cBytes ys _ u (by omega) (hin u hB')).mono fun e u2 ⟨v,e1,h1,h2⟩=>⟨v,e1,PG_in h1,h2⟩
theorem gPa0(w:World)(hV:GV w):GPa0 w:=fun u hB=>par_k 0 P0 Q0 _ u (fun u _=>cNumbers 0 1162079267 581039633 [131101,581039633,1162079267] u (by decide) (by decide) rfl rfl (fun u=>cPrimes0 u)) (fun u2 y hB2 hy=>cMemberOf P0 [104] y u2 (hV.below (Zt hB hB2) hV.sz) In_P0' (by decide) hy (by decide) (by decide))
theorem gChk(w:World):GChk w:=fun u p q g h hB hp hq hg hh=>cCheckG p q g h u hp hq
theorem gIs(w:World)(hG:GT w):GIs w:=fun u p q g h x hB hp hq hg hh hx=>cIsG p q g h x u (hG.below hB) hp hq hx
theorem gExp(w:World)(hG:GT w):GExp w:=fun u p q g h x e hB hp hq hg hh hx he=>cExpG p q g h x e u (hG.below hB) hp hq hx he
theorem gCom(w:World)(hG:GT w):GCom w:=fun u p q g h s t hB hp hq hg hh hs ht=>cComG p q g h s t u (hG.below hB) hp hq hg hh hs ht
theorem gMem(w:World)(hV:GV w):GMem w:=fun u p q g h bs v hB hp hq hg hh hin hb hl=>cMemG p q g h bs v u (hV.below hB hV.sz) hp hq hin hb (by omega)
theorem gSca(w:World)(hV:GV w):GSca w:=fun u p q g h bs v hB hp hq hg hh hin hb hl=>cScaG p q g h bs v u (hV.below hB hV.sz) hp hq hin hb (by omega)
theorem gMul(w:World)(hG:GT w):GMul w:=fun u p q g h ns v hB hp hq hg hh hy hn hns=>cMulG p q g h ns v u (hG.below hB) (by omega) hp hq hns hy
end
section
open Go.ChangeShapes Go.WideShapes Go.ChangeAt Go.RowKit
theorem own4:ownKnob Tryz.prog.godebug=none:=by kernel_rfl
theorem laid4:laidOutB Tryz.prog=true:=by kernel_rfl
abbrev lstG:List (String×DataW Unit):=[("math/bits.deBruijn32tab",Rows.laid_math_bits_deBruijn32tab),("math/bits.deBruijn64tab",Rows.laid_math_bits_deBruijn64tab),("internal/strconv.uint64pow10",Rows.laid_internal_strconv_uint64pow10),("seneschal/sha.constants",Rows.laid_seneschal_sha_constants),("seneschal/sha.first",Rows.laid_seneschal_sha_first)]
theorem gCon:Tryz.prog.globalNamed "seneschal/sha.constants" =some 7:=by kernel_rfl
theorem gFir:Tryz.prog.globalNamed "seneschal/sha.first" =some 3:=by kernel_rfl
theorem tCon:(Tryz.prog.globals[7]?).map (·.type)=some 197:=by kernel_rfl
theorem tFir:(Tryz.prog.globals[3]?).map (·.type)=some 183:=by kernel_rfl
theorem tPow:(Tryz.prog.globals[0]?).map (·.type)=some 179:=by kernel_rfl
theorem powIs:(Rows.laid_internal_strconv_uint64pow10:DataW Unit)=Lib.tabData .u64 Lib.pow10Tab:=by kernel_rfl
def lits{H:Type}(ks:List Nat):DataW H:= .agg (ks.map fun(k:Nat)=>.lit (.int .u32 (k:Int)))
theorem con_is{H:Type}:(Rows.laid_seneschal_sha_constants:DataW H)=lits kcs:=by kernel_rfl
theorem fir_is{H:Type}:(Rows.laid_seneschal_sha_first:DataW H)=lits fst8:=by kernel_rfl
theorem cells32:Tryz.prog.cellsOf 180=1:=by kernel_rfl
theorem arr_cells{H:Type}{enc:TypeId×Value->H}{W:World}{base fuel:Nat}{sp:Nat->Bool}{held:Bool}{t:TypeId}{n:Nat}(ht:Tryz.prog.underlying t=some (.array n 180)){cs:List Value}{ks:List Nat}{pl:List MemPlace}(h:DataW.trod enc Tryz.prog W base sp held fuel t cs=some (lits ks,pl))(hk:ks.length=n): ∀i,i<n->cs[i]?=some (.int .u32 ((ks.getD i 0:Nat):Int)):=fun i hi=>by
 obtain⟨xs,m,rfl,hx,hlen,hn,hel⟩:=DataW.trod_array ht h
 simp only[Prod.mk.injEq,lits,DataW.agg.injEq] at hx
 have h1:=hel i hi
 rw[cells32,Nat.mul_one,List.getElem?_eq_getElem (by omega)] at h1
 obtain⟨k,e1,e2,_⟩:=DataW.trod_int Tryz.underlying180 h1
 have e3:(xs.map (·.1))[i]?=some (.lit (.int .u32 k)):=by
  rw[List.getElem?_map,List.getElem?_eq_getElem (by omega)]
  simp[e2]
 rw[<-hx.1,List.getElem?_map,List.getElem?_eq_getElem (by omega)] at e3
 simp at e3
 have e4:(cs.drop i)[0]?=some (.int .u32 k):=by
  have:((cs.drop i).take 1)[0]?=some (.int .u32 k):=by rw[e1];rfl
  rwa [List.getElem?_take_of_lt (by omega)] at this
 rw[List.getElem?_drop,Nat.add_zero] at e4
 rw[e4,List.getD_eq_getElem?_getD,List.getElem?_eq_getElem (by omega),<-e3]
 rfl
structure GG(w:World):Prop where
 v:GV w
 t:GT w
 sz:0<w.heap.size
theorem of_laidG{W:World}(h:laidMetH Tryz.prog lstG W):GG W:=by
 rw[MakeChecks.laidMetH_plain _ _ _ (by kernel_rfl)] at h
 obtain⟨ps,⟨g0,t0,cs0,f0,p0,q0,hg0,ht0,hv0,hd0,⟨g1,t1,cs1,f1,p1,q1,hg1,ht1,hv1,hd1,⟨g2,t2,cs2,f2,p2,q2,hg2,ht2,hv2,hd2,⟨g3,t3,cs3,f3,p3,q3,hg3,ht3,hv3,hd3,⟨g4,t4,cs4,f4,p4,q4,hg4,ht4,hv4,hd4,_,_⟩,_⟩,_⟩,_⟩,_⟩,_,_⟩:=h
 obtain rfl:=Option.some.inj (gPow.symm.trans hg2)
 obtain rfl:=Option.some.inj (tPow.symm.trans ht2)
 obtain rfl:=Option.some.inj (gCon.symm.trans hg3)
 obtain rfl:=Option.some.inj (gFir.symm.trans hg4)
 obtain rfl:=Option.some.inj (tCon.symm.trans ht3)
 obtain rfl:=Option.some.inj (tFir.symm.trans ht4)
 rw[powIs] at hd2
 rw[con_is] at hd3
 rw[fir_is] at hd4
 have htab:Lib.TabIs Tryz.prog W "internal/strconv.uint64pow10" .u64 Lib.pow10Tab:=by
  unfold Lib.TabIs
  rw[hv2,<-Lib.cells_of_tab Tryz.underlying179 Tryz.underlying22 (by kernel_rfl) (by kernel_rfl) hd2]
 have hc2:=htab.cell gPow 0 (by rw[Lib.pow10Tab_length];omega)
 have k0:=arr_cells Tryz.underlying197 hd3 rfl
 have k1:=arr_cells Tryz.underlying183 hd4 rfl
 have c0: ∀t,t<64->W.cell? ⟨7,t,none⟩=some (.int .u32 ((kcs.getD t 0:Nat):Int)):=fun t ht=>by
  rw[World.var?_cell hg3 hv3 t,<-Array.getElem?_toList];exact k0 t ht
 have c1: ∀t,t<8->W.cell? ⟨3,t,none⟩=some (.int .u32 ((fst8.getD t 0:Nat):Int)):=fun t ht=>by
  rw[World.var?_cell hg4 hv4 t,<-Array.getElem?_toList];exact k1 t ht
 have s0:7<W.heap.size:=World.block_lt_of_cell? W _ (c0 0 (by decide))
 have s1:3<W.heap.size:=World.block_lt_of_cell? W _ (c1 0 (by decide))
 exact⟨⟨by omega,c0,c1⟩,⟨World.block_lt_of_cell? W _ hc2,htab⟩,by omega⟩
theorem doorG(os:Go.Os)(args:Array Value):laidMetH Tryz.prog lstG ((World.doorLaid Tryz.prog 400 os).forCall (fun _ _=>0) ⟨#[],args,[]⟩).memory:=
 laidMetH_of_parts3 (fuel:=8) (laidMet_of_run' 8 (by kernel_rfl) (by kernel_rfl)) (by kernel_rfl) (by kernel_rfl)
theorem cells8:Tryz.prog.cellsOf 5=1:=by kernel_rfl
theorem open_by{H:Type}{enc:TypeId×Value->H}{W:World}{base:Nat}{v:Value}{x:DataW H}{p:List MemPlace}(h1:0<W.heap.size)(hv:Value.okWide Tryz.prog W .any base 36 v)(h:DataW.Trod enc Tryz.prog W 0 (fun _=>true) true 36 v x p):
 ∃sl cap gb go,∃xs:List Nat,v= .slice sl xs.length cap/\xs.length<=cap/\(sl=none->cap=0)/\(xs.length=0\/sl=some ⟨gb,go,none⟩)/\gb<W.heap.size/\SB W gb go xs/\ ∀x∈xs,x<256:=by
 obtain⟨a0,len,cap,rfl⟩:=okWide_slice Tryz.underlying36 hv
 obtain⟨fuel,hf⟩:=h
 rcases Go.Deep.open_slice1 Tryz.underlying36 cells8 hf with⟨hcs,hx⟩ | ⟨ad,len',cap',m,n,V,D,Pl,hcs,hbs,hl,hm,hmm,hx,hall⟩
 ·simp[Value.cells] at hcs
  obtain⟨rfl,rfl,rfl⟩:=hcs
  exact⟨_,_,0,0,[],rfl,Nat.le_refl _,fun _=>rfl,.inl rfl,h1,fun j hj=>by simp at hj,fun x hx=>by simp at hx⟩
 ·simp[Value.cells] at hcs
  obtain⟨rfl,rfl,rfl⟩:=hcs
  simp only[if_true] at hmm
  by_cases h0:cap=0
  ·subst h0
   have e:len=0:=by omega
   subst e
   exact⟨_,_,0,0,[],rfl,Nat.le_refl _,fun _=>rfl,.inl rfl,h1,fun j hj=>by simp at hj,fun x hx=>by simp at hx⟩
  ·have hrow: ∀i,i<cap-> ∃k:Nat,k<256/\W.cell? (ad.add i)=some (.int .u8 (k:Int)):=fun i hi=>by
    obtain⟨k1,k2⟩:=hall i (by omega)
    obtain⟨k,e1,e2,e3⟩:=DataW.trod_int Tryz.underlying5 k2
    simp at e1
    have e3:0<=k/\k<256:=by
     simp[Lit.wf,IntKind.min,IntKind.max,IntKind.signed,IntKind.bits] at e3
     omega
    refine⟨k.toNat,by omega,?_⟩
    rw[k1,e1,show ((k.toNat:Nat):Int)=k by omega]
   obtain⟨gb,go,spot⟩:=ad
   have hspot:spot=none:=by
    obtain⟨z,_,hz⟩:=hrow 0 (by omega)
    simpa [Addr.add] using World.cell?_spot hz
   subst hspot
   have hadd: ∀i:Nat,((⟨gb,go,none⟩:Addr).add i)=⟨gb,go+i,none⟩:=fun i=>by unfold Addr.add;(repeat' split)<;>simp_all
   have hlist: ∀n,n<=cap-> ∃xs:List Nat,xs.length=n/\(∀x∈xs,x<256)/\SB W gb go xs:=fun n=>by
    induction n with
    | zero=>exact fun _=>⟨[],rfl,fun x hx=>by simp at hx,fun j hj=>by simp at hj⟩
    | succ n ih=>
     intro hn
     obtain⟨xs,e1,e2,e3⟩:=ih (by omega)
     obtain⟨k,hk,hc⟩:=hrow n (by omega)
     rw[hadd] at hc
     refine⟨xs++[k],by simp[e1],fun x hx=>?_,fun j hj=>?_⟩
     ·rcases List.mem_append.1 hx with h | h
      ·exact e2 x h
      ·simp at h;omega
     ·by_cases hj2:j<xs.length
      ·rw[e3 j hj2]
       simp[List.getElem?_append_left hj2]
      ·have:j=n:=by simp at hj;omega
       subst this
       rw[hc]
       simp[<-e1]
   obtain⟨xs,e1,e2,e3⟩:=hlist len (by omega)
   have hblk:gb<W.heap.size:=by
    obtain⟨z,_,hz⟩:=hrow 0 (by omega)
    rw[hadd] at hz
    exact World.block_lt_of_cell? W _ hz
   subst e1
   exact⟨_,_,gb,go,xs,rfl,hl,fun e=>(by cases e),.inr rfl,hblk,e3,e2⟩
theorem in_pre(L:Nat){sl:Option Addr}{cap gb go:Nat}{xs:List Nat}{W:World}(k1:xs.length<=cap)(k3:xs.length=0\/sl=some ⟨gb,go,none⟩)(k4:gb<W.heap.size)(k5:SB W gb go xs): ∀u,Bw W u->IN u u.heap.size (.slice sl (xs.take L).length cap) (xs.take L):=fun u hB=>by
 have hl:(xs.take L).length<=xs.length:=by rw[List.length_take];omega
 refine⟨sl,cap,gb,go,rfl,by omega,k3.imp (fun h=>by omega) id,Nat.lt_of_lt_of_le k4 hB.size,fun j hj=>?_⟩
 have hj3:j<L:=by rw[List.length_take] at hj;omega
 rw[hB.cell (p:=⟨gb,go+j,none⟩) k4,k5 j (by omega)]
 simp[List.getElem?_take_of_lt hj3]
theorem min_pre(L:Nat)(xs:List Nat):min (xs.length:Int) L=((xs.take L).length:Int)/\(xs.take L).length<=xs.length/\(xs.take L).length<=L:=by rw[List.length_take];omega
theorem list_of{p:Nat->Int->Prop}: ∀n,(∀i,i<n-> ∃z,p i z)-> ∃ns:List Int,ns.length=n/\ ∀i,i<n->p i (ns.getD i 0)
 | 0,_=>⟨[],rfl,fun i hi=>by omega⟩
 | n+1,h=>by
  obtain⟨ns,hl,hp⟩:=list_of n (fun i hi=>h i (by omega))
  obtain⟨z,hz⟩:=h n (by omega)
  refine⟨ns++[z],by simp[hl],fun i hi=>?_⟩
  by_cases e:i=n
  ·subst e
   have:(ns++[z]).getD i 0=z:=by rw[<-hl];simp
   rw[this];exact hz
  ·have:(ns++[z]).getD i 0=ns.getD i 0:=by simp[List.getElem?_append_left (show i<ns.length by omega)]
   rw[this];exact hp i (by omega)
theorem flN_atg: ∀(ns:List Int) (j:Nat) (v:Value),(flN ns)[j]?=some v->j/4<ns.length/\(LN (ns.getD (j/4) 0))[j%4]?=some v
 | [],j,v,h=>by simp[flN] at h
 | n::r,j,v,h=>by
  rw[flN] at h
  by_cases hj:j<4
  ·rw[List.getElem?_append_left (by show j<4;exact hj)] at h
   rw[show j/4=0 by omega,show j%4=j by omega]
   exact⟨by simp,by simpa using h⟩
  ·rw[List.getElem?_append_right (by show 4<=j;omega)] at h
   have h:(flN r)[j -4]?=some v:=h
   have:=flN_atg r (j -4) v h
   rw[show j/4=(j -4)/4+1 by omega,show j%4=(j -4)%4 by omega]
   exact⟨by simpa using this.1,by simpa using this.2⟩
theorem SN.of{w:World}{g o:Nat}{ns:List Int}(h: ∀i,i<ns.length-> ∀c v,(LN (ns.getD i 0))[c]?=some v->w.cell? ⟨g,o+(i*4+c),none⟩=some v):SN w g o ns:=fun j v hj=>by
 obtain⟨h1,h2⟩:=flN_atg ns j v hj
 have:=h _ h1 _ v h2
 rwa [show j/4*4+j%4=j by omega] at this
theorem row_nat{H:Type}{enc:TypeId×Value->H}{W:World}{bs fuel base:Nat}{sp:Nat->Bool}{held:Bool}{a:Addr}{cs:List Value}{x:DataW H×List MemPlace}(h1:W.cells? base a 4=some cs)(h:DataW.trod enc Tryz.prog W bs sp held fuel 24 cs=some x):
 ∃z,In z/\ ∀c v,(LN z)[c]?=some v->W.cell? (a.add c)=some v:=by
 obtain⟨_,hl,hc⟩:=World.cells?_some h1
 match cs,hl,hc,h with
 | [c0,c1,c2,c3],hl,hc,h=>
  obtain⟨y0,y1,y2,y3,m,hx,hy0,hy1,hy2,hy3⟩:=trod_array4 Tryz.underlying24 Tryz.cells22 h
  obtain⟨x0,e0,rfl,w0⟩:=DataW.trod_int Tryz.underlying22 hy0
  obtain⟨x1,e1,rfl,w1⟩:=DataW.trod_int Tryz.underlying22 hy1
  obtain⟨x2,e2,rfl,w2⟩:=DataW.trod_int Tryz.underlying22 hy2
  obtain⟨x3,e3,rfl,w3⟩:=DataW.trod_int Tryz.underlying22 hy3
  simp at e0 e1 e2 e3
  subst e0 e1 e2 e3
  refine⟨V x0 x1 x2 x3,In_V (Zj w0) (Zj w1) (Zj w2) (Zj w3),fun c v hv=>?_⟩
  have hL:LN (V x0 x1 x2 x3)=[.int .u64 x0,.int .u64 x1,.int .u64 x2,.int .u64 x3]:=by
   have:=NV_V (Zj w0) (Zj w1) (Zj w2) (Zj w3)
   unfold NV A4 at this
   injection this with this
   have:=congrArg Array.toList this
   simpa using this
  rw[hL] at hv
  have hlt:c<4:=by have:=(List.getElem?_eq_some_iff.1 hv).1;simpa using this
  rw[hc c hlt];exact hv
theorem open_nats(L:Nat){H:Type}{enc:TypeId×Value->H}{W:World}{base:Nat}{v0:Value}{x:DataW H}{p:List MemPlace}(hv:Value.okWide Tryz.prog W .any base 35 v0)(h:DataW.Trod enc Tryz.prog W 0 (fun _=>true) true 35 v0 x p):
 ∃sl len cap gb go,∃ns:List Int,v0= .slice sl len cap/\(min len L)=ns.length/\len<=cap/\(sl=none->cap=0)/\(cap=0\/sl=some ⟨gb,go,none⟩)/\(ns.length=0\/gb<W.heap.size)/\SN W gb go ns/\ ∀z∈ns,In z:=by
 obtain⟨a0,len,cap,rfl⟩:=okWide_slice Tryz.underlying35 hv
 obtain⟨fuel,hf⟩:=h
 rcases Go.Deep.open_slice Tryz.underlying35 hf with⟨hcs,hx⟩ | ⟨ad,len',cap',m,n,D,Pl,hcs,hbs,hl,hm,hmm,hx,hall⟩
 ·simp[Value.cells] at hcs
  obtain⟨rfl,rfl,rfl⟩:=hcs
  exact⟨_,_,_,0,0,[],rfl,by simp,Nat.le_refl _,fun _=>rfl,.inl rfl,.inl rfl,SN.empty rfl,fun z hz=>(by cases hz)⟩
 ·simp[Value.cells] at hcs
  obtain⟨rfl,rfl,rfl⟩:=hcs
  simp only[if_true] at hmm
  by_cases h0:cap=0
  ·subst h0
   have e:len=0:=by omega
   subst e
   exact⟨_,_,_,0,0,[],rfl,by simp,Nat.le_refl _,fun _=>rfl,.inl rfl,.inl rfl,SN.empty rfl,fun z hz=>(by cases hz)⟩
  ·have hrow: ∀i,i<cap-> ∃z,In z/\ ∀c v,(LN z)[c]?=some v->W.cell? ((ad.add (i*4)).add c)=some v:=fun i hi=>by
    obtain⟨cs,k1,k2⟩:=hall i (by rw[hmm];exact hi)
    rw[Tryz.cells24] at k1
    exact row_nat k1 k2
   obtain⟨gb,go,spot⟩:=ad
   have hspot:spot=none:=by
    obtain⟨z,_,hz⟩:=hrow 0 (by omega)
    have:=hz 0 _ rfl
    simpa [Addr.add] using World.cell?_spot this
   subst hspot
   have hadd: ∀i c:Nat,((⟨gb,go,none⟩:Addr).add (i*4)).add c=⟨gb,go+(i*4+c),none⟩:=fun i c=>by unfold Addr.add;(repeat' split)<;>simp_all<;>omega
   obtain⟨ns,hnl,hnp⟩:=list_of (min len L) (fun i hi=>hrow i (by omega))
   have hblk:gb<W.heap.size:=by
    obtain⟨z,_,hz⟩:=hrow 0 (by omega)
    have:=hz 0 _ rfl
    rw[hadd] at this
    exact World.block_lt_of_cell? W _ this
   refine⟨_,_,_,gb,go,ns,rfl,hnl.symm,hl,fun e=>(by cases e),.inr rfl,.inr hblk,SN.of (fun i hi c v hv=>?_),fun z hz=>?_⟩
   ·have:=(hnp i (by omega)).2 c v hv
    rwa [hadd] at this
   ·obtain⟨j,hj,rfl⟩:=List.mem_iff_getElem.1 hz
    have:=(hnp j (by omega)).1
    simpa [List.getElem?_eq_getElem hj] using this
end
end Go.Proofs.YtknpepgonhdbgaaGreatDoor
