import Derived.Test.YtmoimodkopjeeaaGreatDoorAN9
namespace Go.Proofs.YtmoimodkopjeeaaGreatDoor
set_option linter.unusedVariables false
set_option linter.unusedSimpArgs false
set_option maxRecDepth 100000
set_option maxHeartbeats 4000000
section
open Go.RowKit
section
section
variable {R:Rg} {P:Program} {Q:Exit->Act->World->Prop} {ops:Array Oper} {i:Nat} {o:Oper}
end
def H0:Int:=meN P0 [104]
theorem ent_M1:EnT 57:=fun _ _=>by kernel_rfl
theorem the_core(p q g h:Int)(w:World)(hP:Hid (∀u,CC 57 #[iI 0] u (.tuple #[GX p q g h,iI 0]))):
 CC 28 #[] w (GX p q g h):=by
 go_enter Tryz.func28,Tryz.ntmps28
 go_upto_region 1 with fail
 obtain⟨v0,hC,HB0,K0⟩:=bx1 w L0g 26
 rw[hC]
 clear hC
 refine Rp K0 HB0 [] [(4,1,L0g,some (5,GE p q g h))] [(0,4,_),(1,3,_),(2,5,_),(3,6,_),(6,2,_)] [(5,4)] [] [] (oc (g_cl ent_M1 hP.out)<|oc g_mv<|oc g_ex<|oc g_ex<|oc (g_al 0 Uz)<|oc (g_sn 0 Z0)<|oc g_as on) fun u1 b1_4 HB1 _ K1=>?_
 simp only[sQ] at K1⊢
 go_upto_region 2 with fail
 refine Rp K1 HB1 [.all 1 (GE p q g h)] [] [(0,7,_)] [] [] [] (oc (g_ld 1 Tryz.underlying26 Z0)<|oc (g_st 0 Z0) on) fun u2 HB2 _ K2=>?_
 simp only[sQ] at K2⊢
 have c0_0:=((K2.cv 0) 0 _ rfl).1
 have c0_1:=((K2.cv 0) 1 _ rfl).1
 have c0_2:=((K2.cv 0) 2 _ rfl).1
 have c0_3:=((K2.cv 0) 3 _ rfl).1
 have c0_4:=((K2.cv 0) 4 _ rfl).1
 have c0_5:=((K2.cv 0) 5 _ rfl).1
 have c0_6:=((K2.cv 0) 6 _ rfl).1
 have c0_7:=((K2.cv 0) 7 _ rfl).1
 have c0_8:=((K2.cv 0) 8 _ rfl).1
 have c0_9:=((K2.cv 0) 9 _ rfl).1
 have c0_10:=((K2.cv 0) 10 _ rfl).1
 have c0_11:=((K2.cv 0) 11 _ rfl).1
 have c0_12:=((K2.cv 0) 12 _ rfl).1
 have c0_13:=((K2.cv 0) 13 _ rfl).1
 have c0_14:=((K2.cv 0) 14 _ rfl).1
 have c0_15:=((K2.cv 0) 15 _ rfl).1
 go_wp2
 refine bodyPost_ret (v:=GX p q g h) (by simp[results,Tryz.results28,go_sem,c0_0,c0_1,c0_2,c0_3,c0_4,c0_5,c0_6,c0_7,c0_8,c0_9,c0_10,c0_11,c0_12,c0_13,c0_14,c0_15]) rfl ⟨rfl,HB2⟩
theorem cThe(w:World):CC 28 #[] w (GX P0 Q0 4 H0):=the_core P0 Q0 4 H0 w fun u=>xParams0 u
theorem is4:isB P0 Q0 4=true:=decide_eq_true ⟨g0_ok,is_4 pr0⟩
theorem isH0:isB P0 Q0 H0=true:=decide_eq_true ⟨g0_ok,mb_h0⟩
theorem In_H0:In H0:=In_Mb In_P0' mb_h0
end
theorem prQ:Pr Q0.toNat:=crB_pr chain0_in 0 (by decide) (by simp[crB,knB,cat,chain0,Us,chain0_1])
theorem Mb.cancel{p q X A B:Int}(hg:gOk p q)(hX:Mb p q X)(h:A*X%p=B*X%p):A%p=B%p:=by
 have hi:=hX.inv hg
 obtain⟨c,hc⟩:=hi.2.2
 rw[Int.emod_eq_of_lt (by have:=hX.1;omega) hX.2.1] at hc
 generalize invN p q X=I at *
 have h2:=Int.emod_eq_emod_iff_emod_sub_eq_zero.1 h
 obtain⟨k,hk⟩:=Int.dvd_of_emod_eq_zero h2
 refine Int.emod_eq_emod_iff_emod_sub_eq_zero.2 (Int.emod_eq_zero_of_dvd ⟨I*k -(A -B)*c,?_⟩)
 grind
theorem co_inj1{p q g h s s' t:Int}(hq:Pr q.toNat)(h1:isB p q g=true)(h2:isB p q h=true)(hne:g≠1):coX p q g h s t=coX p q g h s' t↔s%q=s'%q:=by
 obtain⟨hg,m1⟩:=Ug h1
 obtain⟨_,m2⟩:=Ug h2
 have h3:=hg.q3
 rw[coX_is h1 h2,coX_is h1 h2]
 refine⟨fun e=>?_,fun e=>by rw[e]⟩
 have e:=Mb.cancel hg (m2.pow hg _) e
 rw[Int.emod_emod,Int.emod_emod] at e
 have e:=pow_inj hq hg m1 hne e
 have r1:=Int.emod_nonneg s (show q≠0 by omega)
 have r2:=Int.emod_nonneg s' (show q≠0 by omega)
 rwa [Int.toNat_of_nonneg r1,Int.toNat_of_nonneg r2,Int.emod_emod,Int.emod_emod] at e
def dlE(p q g h d:Int)(ss ts:List Int):Int:=if gOk p q then (if ndB d&&shB ss.length ts.length then (if isB p q g&&isB p q h then 0 else 90) else 110) else 90
def dlD(p q g h d:Int)(ss ts:List Int):Int:=if dlE p q g h d ss ts=0 then d else 0
def dlC(p q g h d:Int)(ss ts:List Int):List Int:=if dlE p q g h d ss ts=0 then cmS p q g h ss ts else []
structure VOK(w:World):Prop where
 share: ∀u,Bw w u-> ∀(p q g h nd:Int) (ss ts:List Int) (v v2:Value),In p->In q->In g->In h-> -9223372036854775808<=nd/\nd<9223372036854775808->NL u v ss->NL u v2 ts->(∀z∈ss,In z)->(∀z∈ts,In z)->ss.length<=7->ts.length<=7->CC 12 #[GX p q g h,iI nd,v,v2] u (.tuple #[shV p q nd ss ts,iI (shO p q nd ss ts)])
 deal: ∀u,Bw w u-> ∀(p q g h d:Int) (ss ts:List Int) (v v2:Value),In p->In q->In g->In h-> -9223372036854775808<=d/\d<9223372036854775808->NL u v ss->NL u v2 ts->(∀z∈ss,In z)->(∀z∈ts,In z)->ss.length<=7->ts.length<=7->Calls Tryz.prog 10 #[GX p q g h,iI d,v,v2] u fun e u'=> ∃y,e= .returned (.tuple #[DX (dlD p q g h d ss ts) y,iI (dlE p q g h d ss ts)])/\NL u' y (dlC p q g h d ss ts)/\Bw u u'
 check: ∀u,Bw w u-> ∀(p q g h d:Int) (ns:List Int) (v:Value),In p->In q->In g->In h-> -9223372036854775808<=d/\d<9223372036854775808->NL u v ns->(∀z∈ns,In z)->ns.length<=7->CC 19 #[GX p q g h,DX d v] u (iI (dcE p q d ns))
 verify: ∀u,Bw w u-> ∀(p q g h d nd s t:Int) (ns:List Int) (v:Value),In p->In q->In g->In h-> -9223372036854775808<=d/\d<9223372036854775808-> -9223372036854775808<=nd/\nd<9223372036854775808->In s->In t->NL u v ns->(∀z∈ns,In z)->ns.length<=7->CC 21 #[GX p q g h,DX d v,SX nd s t] u (iI (veE p q g h d nd s t ns))
theorem VOK.up{w u:World}(h:VOK w)(hB:Bw w u):VOK u:=⟨fun v hv=>h.share v (Zg hB hv),fun v hv=>h.deal v (Zg hB hv),fun v hv=>h.check v (Zg hB hv),fun v hv=>h.verify v (Zg hB hv)⟩
theorem w_sh:shO P0 Q0 2 [3,2] [5,7]=0:=by decide
theorem w_s:hoN Q0 2 [3,2] ([3,2]:List Int).length=7:=by decide
theorem w_t:hoN Q0 2 [5,7] ([5,7]:List Int).length=19:=by decide
theorem w_sv:shV P0 Q0 2 [3,2] [5,7]=SX 2 7 19:=by rw[shV,if_pos w_sh,w_s,w_t]
theorem dl_0{d:Int}{ss ts:List Int}(hd:ndB d=true)(hs:shB ss.length ts.length=true):dlE P0 Q0 4 H0 d ss ts=0:=by
 unfold dlE;rw[if_pos g0_ok,hd,hs,is4,isH0];rfl
theorem w_v7:veE P0 Q0 4 H0 1 2 7 19 (cmS P0 Q0 4 H0 [3,2] [5,7])=0:=by
 rw[verify_is is4 isH0 (by decide) (by decide) (by decide),w_s,w_t,if_pos rfl]
theorem w_v8:veE P0 Q0 4 H0 1 2 8 19 (cmS P0 Q0 4 H0 [3,2] [5,7])=100:=by
 rw[verify_is is4 isH0 (by decide) (by decide) (by decide),w_s,w_t,if_neg]
 exact fun e=>absurd ((co_inj1 prQ is4 isH0 (by decide)).1 e) (by decide)
theorem ent_V7:EnT 17:=fun _ _=>by kernel_rfl
abbrev DQ:Value:= .agg L0d.toArray
theorem zDq(w:World):(Instr.build 30 [].toArray).run Tryz.prog w= .ok DQ w:=by kernel_rfl
theorem bdDq(d:Int)(s:Option Addr)(n c:Nat)(w:World):(Instr.build 30 [(0,iI d),(1,.slice s n c)].toArray).run Tryz.prog w= .ok (DX d (.slice s n c)) w:=by kernel_rfl
theorem vdl_c(p q g h d c:Int)(sa sb:Option Addr)(ca cb:Nat)(ss ts:List Int)(w:World)(hc:(c !=0)=true)(hP:Hid (∀u,CC 34 #[GX p q g h,.slice sa ss.length ca,.slice sb ts.length cb] u (iI c))):
 CC 10 #[GX p q g h,iI d,.slice sa ss.length ca,.slice sb ts.length cb] w (.tuple #[DQ,iI c]):=by
 go_enter Tryz.func10,Tryz.ntmps10
 go_upto_region 1 with fail
 obtain⟨v0,hC,HB0,K0⟩:=bx2 w (GE p q g h) 26 L0d 30
 rw[hC]
 clear hC
 refine Rn K0 HB0 (cG 0 15 [_,_,_,_] [(4,10,_)]) (oc (g_ld 0 Tryz.underlying26 Z0)<|oc g_mv<|oc g_mv<|oc (g_cl Zk hP.out)<|oc g_as on) fun u1 HB1 _ K1=>?_
 simp only[sQ] at K1⊢
 go_upto_region 2 with fail
 refine Rn K1 HB1 [(0,20,_),(1,21,_),(2,19,_)] (oc g_mv<|oc (g_bn (fun uZ=>Zw _ _ _ c 0 _ uZ hc))<|oc g_as on) fun u2 HB2 _ K2=>?_
 simp only[sQ] at K2⊢
 go_upto_region 3 with fail
 refine Rp K2 HB2 [.no,.all 2 L0d] [] [(0,22,_),(1,23,_),(3,9,_)] [] [] [] (oc (g_bd zDq)<|oc g_mv<|oc (g_st 1 Zp)<|oc g_as on) fun u3 HB3 _ K3=>?_
 simp only[sQ] at K3⊢
 have c8_0:=((K3.cv 1) 0 _ rfl).1
 have c8_1:=((K3.cv 1) 1 _ rfl).1
 go_wp2
 refine bodyPost_ret (v:= .tuple #[DQ,iI c]) (by simp[results,Tryz.results10,go_sem,c8_0,c8_1]) rfl ⟨rfl,HB3⟩
theorem vdl_n(p q g h d:Int)(sa sb:Option Addr)(ca cb:Nat)(ss ts:List Int)(w:World)(hP:Hid (∀u,CC 34 #[GX p q g h,.slice sa ss.length ca,.slice sb ts.length cb] u (iI 0)))(hN:Hid (∀u,CC 35 #[iI d] u (.bool false))):
 CC 10 #[GX p q g h,iI d,.slice sa ss.length ca,.slice sb ts.length cb] w (.tuple #[DQ,iI 110]):=by
 go_enter Tryz.func10,Tryz.ntmps10
 go_upto_region 1 with fail
 obtain⟨v0,hC,HB0,K0⟩:=bx2 w (GE p q g h) 26 L0d 30
 rw[hC]
 clear hC
 refine Rn K0 HB0 (cG 0 15 [_,_,_,_] [(4,10,_)]) (oc (g_ld 0 Tryz.underlying26 Z0)<|oc g_mv<|oc g_mv<|oc (g_cl Zk hP.out)<|oc g_as on) fun u1 HB1 _ K1=>?_
 simp only[sQ] at K1⊢
 go_upto_region 2 with fail
 refine Rn K1 HB1 [(0,20,_),(1,21,_),(2,19,_)] (oc g_mv<|oc (g_bn (fun uZ=>Zw _ _ _ 0 0 _ uZ rfl))<|oc g_as on) fun u2 HB2 _ K2=>?_
 simp only[sQ] at K2⊢
 go_upto_region 4 with fail
 refine Rn K2 HB2 (cG 0 25 [_,_,_] [(3,24,_)]) (oc g_mv<|oc (g_cl Zj hN.out)<|oc (g_un Ue)<|oc g_as on) fun u3 HB3 _ K3=>?_
 simp only[sQ] at K3⊢
 go_upto_region 5 with fail
 refine Rp K3 HB3 [.no,.all 1 L0d] [] [(0,28,_),(2,9,_)] [] [] [] (oc (g_bd zDq)<|oc (g_st 1 Zp)<|oc g_as on) fun u4 HB4 _ K4=>?_
 simp only[sQ] at K4⊢
 have c8_0:=((K4.cv 1) 0 _ rfl).1
 have c8_1:=((K4.cv 1) 1 _ rfl).1
 go_wp2
 refine bodyPost_ret (v:= .tuple #[DQ,iI 110]) (by simp[results,Tryz.results10,go_sem,c8_0,c8_1]) rfl ⟨rfl,HB4⟩
theorem vdl_k(p q g h d:Int)(sa sb:Option Addr)(ca cb ga oa gb ob:Nat)(ss ts cs:List Int)(w:World)(hP:Hid (∀u,CC 34 #[GX p q g h,.slice sa ss.length ca,.slice sb ts.length cb] u (iI 0)))(hN:Hid (∀u,CC 35 #[iI d] u (.bool true)))(hixa:Hid (∀j,j<ss.length-> ∀W,(Instr.indexAt 27 (.slice sa ss.length ca) (iI j)).run Tryz.prog W= .ok (.pointer (some ⟨ga,oa+4*j,none⟩)) W))(hga:ss.length=0\/ga<w.heap.size)(hSa:Hid (SN w ga oa ss))(hna:Hid (∀k,k<ss.length->In (ss.getD k 0)))(hixb:Hid (∀j,j<ts.length-> ∀W,(Instr.indexAt 27 (.slice sb ts.length cb) (iI j)).run Tryz.prog W= .ok (.pointer (some ⟨gb,ob+4*j,none⟩)) W))(hgb:ts.length=0\/gb<w.heap.size)(hSb:Hid (SN w gb ob ts))(hnb:Hid (∀k,k<ts.length->In (ts.getD k 0)))(hst:Hid (ss.length=ts.length))(h1:1<=ss.length)(h6:ss.length<=6)(hcl:Hid (cs.length=ss.length))(hCm:Hid (∀k,k<ss.length-> ∀u,Bw w u->CC 36 #[GX p q g h,NV (ss.getD k 0),NV (ts.getD k 0)] u (.tuple #[NV (cs.getD k 0),iI 0]))):
 Calls Tryz.prog 10 #[GX p q g h,iI d,.slice sa ss.length ca,.slice sb ts.length cb] w fun e' w'=> ∃y,e'= .returned (.tuple #[DX d y,iI 0])/\PRw w.heap.size cs w' y/\Bw w w':=by
 go_enter Tryz.func10,Tryz.ntmps10
 go_upto_region 1 with fail
 obtain⟨v0,hC,HB0,K0⟩:=bx2 w (GE p q g h) 26 L0d 30
 rw[hC]
 clear hC
 refine Rn K0 HB0 (cG 0 15 [_,_,_,_] [(4,10,_)]) (oc (g_ld 0 Tryz.underlying26 Z0)<|oc g_mv<|oc g_mv<|oc (g_cl Zk hP.out)<|oc g_as on) fun u1 HB1 _ K1=>?_
 simp only[sQ] at K1⊢
 go_upto_region 2 with fail
 refine Rn K1 HB1 [(0,20,_),(1,21,_),(2,19,_)] (oc g_mv<|oc (g_bn (fun uZ=>Zw _ _ _ 0 0 _ uZ rfl))<|oc g_as on) fun u2 HB2 _ K2=>?_
 simp only[sQ] at K2⊢
 go_upto_region 4 with fail
 refine Rn K2 HB2 (cG 0 25 [_,_,_] [(3,24,_)]) (oc g_mv<|oc (g_cl Zj hN.out)<|oc (g_un Vj)<|oc g_as on) fun u3 HB3 _ K3=>?_
 simp only[sQ] at K3⊢
 have hw0:w.heap.size<=u3.heap.size:=HB3.size
 go_upto_region 6 with fail
 refine Rf K3 HB3 [] [] [(0,29,_),(1,30,_)] [] [] [⟨2,31,some 3,PRz u3.heap.size ss.length⟩,⟨3,11,none,PRz u3.heap.size ss.length⟩] [] (oc g_mv<|oc (g_ln Tryz.underlying27)<|oc (g_mS 0 (PRz u3.heap.size ss.length) ss.length (flN (List.replicate ss.length 0)) (mkNt _ (by omega)) (fun u h=>PRz.new u h))<|oc (g_sE 0 1 (PRz u3.heap.size ss.length)) on) fun u4 v4_2 hv4_2 v4_3 hv4_3 HB4 _ K4=>?_
 simp only[sQ] at K4⊢
 obtain⟨bo,rfl,o1,o2,o3⟩:=hv4_3 rfl
 have K4xo:=Bk.more3 K3 K4 o1 o2 o3 (by intro x hx;first | (simp at hx;done) | (simp at hx⊢;omega))
 simp only[aK] at K4xo
 have hbo:w.heap.size<=bo:=Nat.le_trans hw0 o1
 go_upto_region 7 with fail
 refine Rn K4xo HB4 (cG 0 32 [_,_,_] []) (oc g_mv<|oc (g_ln Tryz.underlying27)<|oc g_mv on) fun u5 HB5 _ K5=>?_
 simp only[sQ] at K5⊢
 go_wp2_with fail
 go_loopw [34] (fun s34 wr=> ∃(k:Nat),k<=ss.length/\s34=iI (k:Int)/\Bw w wr/\CV wr (w.heap.size) (GE p q g h)/\w.heap.size<wr.heap.size/\CV wr (w.heap.size+1) (L0d)/\w.heap.size+1<wr.heap.size/\CV wr bo (flN (rowN cs k))/\bo<wr.heap.size) (fun s34 _=>ss.length -(intOf s34).toNat)
 case atStart=>exact⟨0,by omega,rfl,HB5,(K5.cv 0),(K5.lt 0),(K5.cv 1),(K5.lt 1),by rw[rowN_0,hcl.out];exact(K5.cv 2),(K5.lt 2)⟩
 case round=>
  obtain⟨k,hk,rfl,HBr,C0,lC0,C1,lC1,C2,lC2⟩:=hrel
  have hnK:=K5.n
  simp at hnK
  by_cases hj:k<ss.length
  ·have hl:decide ((k:Int)<(ss.length:Int))=true:=by simp;omega
   have hj2:k<ts.length:=by have:=hst.out;omega
   have hkx:k<cs.length:=by rw[hcl.out];exact hj
   have hX:=hixa.out _ hj
   have hX:Hid _:=hX
   have hR:=hSa.out.at _ hj
   have hR:Hid _:=hR
   have hXb:=hixb.out _ hj2
   have hXb:Hid _:=hXb
   have hRb:=hSb.out.at _ hj2
   have hRb:Hid _:=hRb
   have ga':=hga.resolve_left (by omega)
   have gb':=hgb.resolve_left (by omega)
   have hM:=hCm.out k hj
   obtain⟨x,ex⟩: ∃x,ss.getD k 0=x:=⟨_,rfl⟩
   rw[ex] at hR hM
   clear ex
   obtain⟨y,ey⟩: ∃y,ts.getD k 0=y:=⟨_,rfl⟩
   rw[ey] at hRb hM
   clear ey
   have hXL:=V4 (vs:=cs) (k:=k) (by omega)
   have hNx:=Xy (vs:=cs) (k:=k) (by omega)
   rw[Xd (vs:=cs) (k:=k) (by omega)] at C2
   obtain⟨X,eX⟩: ∃X,flN (List.take k cs)=X:=⟨_,rfl⟩
   obtain⟨Z,eZ⟩: ∃Z,flN (List.replicate (List.length cs -(k+1)) 0)=Z:=⟨_,rfl⟩
   rw[eX] at hXL hNx C2
   rw[eZ] at hNx C2
   clear eX eZ
   obtain⟨c,ec⟩: ∃c,cs.getD k 0=c:=⟨_,rfl⟩
   rw[ec] at hM hNx
   clear ec hkx
   have hXL:Hid _:=hXL
   have hNx:Hid _:=hNx
   have hM:Hid _:=hM
   have K5_1:Bk w.heap.size wr [(false,w.heap.size,GE p q g h),(true,w.heap.size+1,L0d),(true,bo,X++LN 0++Z)]:=⟨.c lC0 C0<| .o lC1 (K5.lo 1) C1<| .o lC2 (by omega) C2<|trivial,by simp<;>omega⟩
   go_upto_region 8 with fail
   refine Rn K5_1 HBr [(0,35,_)] (oc (g_bn (fun uZ=>Z6 _ _ (k:Int) (ss.length:Int) _ uZ hl)) on) fun u6 HB6 sz6 K6=>?_
   simp only[sQ] at K6⊢
   go_upto_region 9 with fail
   refine Rn K6 HB6 [(0,36,_),(1,12,_)] (oc g_mv<|oc g_as on) fun u7 HB7 sz7 K7=>?_
   simp only[sQ] at K7⊢
   go_upto_region 10 with fail
   refine Rd K7 HB7 [] [(13,13,L0s,some (14,LN c))] (cG 0 38 [_,_,_,_,_,_,_,_,_,_] [(10,37,_),(11,48,_),(12,49,_),(15,14,_)]) [(14,13)] [] [] (oc (g_ld 0 Tryz.underlying26 Z0)<|oc g_mv<|oc g_mv<|oc (g_ix hX.out)<|oc (g_lf hR.out ga' uN iN)<|oc g_mv<|oc g_mv<|oc (g_ix hXb.out)<|oc (g_lf hRb.out gb' uN iN)<|oc (g_cb ent_V4 hM.out)<|oc g_mv<|oc g_ex<|oc g_ex<|oc (g_al 0 aN)<|oc (g_sn 0 iN)<|oc g_as on) fun u8 b8_13 HB8 _ K8=>?_
   simp only[sQ] at K8⊢
   go_upto_region 11 with fail
   refine Rn K8 HB8 [(0,50,_),(1,51,_)] (oc g_mv<|oc (g_bn (fun uZ=>Zw _ _ _ 0 0 _ uZ rfl)) on) fun u9 HB9 _ K9=>?_
   simp only[sQ] at K9⊢
   go_upto_region 13 with fail
   refine Rp K9 HB9 [.no,.no,.all 4 (X++LN c++Z)] [] (cG 0 54 [_,_,_,_] []) [] [] [] (oc g_mv<|oc g_mv<|oc (g_ld 3 uN iN)<|oc (g_ix (ixZ _ _ _ k hj))<|oc (g_sm 2 (4*k) X (LN 0) Z (post:=LN c) (hxc:=hXL.out) iN) on) fun u10 HB10 _ K10=>?_
   simp only[sQ] at K10⊢
   go_upto_region 14 with fail
   refine Rp K10 HB10 [] [] [(0,58,_),(1,34,_)] [(1,0)] [(1,34)] [] (oc (g_bn (fun uZ=>Zm _ _ (k:Int) 1 ((k+1:Nat):Int) uZ (by omega) (by omega) (by omega)))<|oc g_mv on) fun u11 HB11 _ K11=>?_
   simp only[sQ] at K11⊢
   go_wp2
   refine⟨⟨k+1,by omega,rfl,HB11,(K11.cv 0),(K11.lt 0),(K11.cv 1),(K11.lt 1),by rw[hNx.out];exact(K11.cv 2),(K11.lt 2)⟩,?_⟩
   simp[intOf]<;>omega
  ·have hl:decide ((k:Int)<(ss.length:Int))=false:=by simp;omega
   have hkn:k=cs.length:=by rw[hcl.out];omega
   rw[hkn,Vw] at C2
   clear hkn
   have K5_1:Bk w.heap.size wr [(false,w.heap.size,GE p q g h),(true,w.heap.size+1,L0d),(true,bo,flN cs)]:=⟨.c lC0 C0<| .o lC1 (K5.lo 1) C1<| .o lC2 (by omega) C2<|trivial,by simp<;>omega⟩
   go_upto_region 8 with fail
   refine Rn K5_1 HBr [(0,35,_)] (oc (g_bn (fun uZ=>Z6 _ _ (k:Int) (ss.length:Int) _ uZ hl)) on) fun u6 HB6 sz6 K6=>?_
   simp only[sQ] at K6⊢
   go_upto_region 15 with fail
   refine Rp K6 HB6 [.no,.all 3 (DE d (.slice (some ⟨bo,0,none⟩) ss.length ss.length))] [] (cG 0 59 [_,_,_] [(4,9,_)]) [] [] [] (oc g_mv<|oc g_mv<|oc (g_bd (bdDq d _ _ _))<|oc (g_st 1 Zp)<|oc g_as on) fun u7 HB7 sz7 K7=>?_
   simp only[sQ] at K7⊢
   have c0:=((K7.cv 1) 0 _ rfl).1
   have c1:=((K7.cv 1) 1 _ rfl).1
   go_wp2
   exact bodyPost_ret (v:= .tuple #[DX d (.slice (some ⟨bo,0,none⟩) ss.length ss.length),iI 0]) (by simp[results,Tryz.results10,go_sem,c0,c1]) rfl ⟨_,rfl,⟨bo,by rw[hcl.out],hbo,(K7.lt 2),(K7.cv 2)⟩,HB7⟩
theorem vdl_m(p q g h d er:Int)(sa sb:Option Addr)(ca cb ga oa gb ob:Nat)(ss ts cs:List Int)(w:World)(he:(er !=0)=true)(hP:Hid (∀u,CC 34 #[GX p q g h,.slice sa ss.length ca,.slice sb ts.length cb] u (iI 0)))(hN:Hid (∀u,CC 35 #[iI d] u (.bool true)))(hixa:Hid (∀j,j<ss.length-> ∀W,(Instr.indexAt 27 (.slice sa ss.length ca) (iI j)).run Tryz.prog W= .ok (.pointer (some ⟨ga,oa+4*j,none⟩)) W))(hga:ss.length=0\/ga<w.heap.size)(hSa:Hid (SN w ga oa ss))(hna:Hid (∀k,k<ss.length->In (ss.getD k 0)))(hixb:Hid (∀j,j<ts.length-> ∀W,(Instr.indexAt 27 (.slice sb ts.length cb) (iI j)).run Tryz.prog W= .ok (.pointer (some ⟨gb,ob+4*j,none⟩)) W))(hgb:ts.length=0\/gb<w.heap.size)(hSb:Hid (SN w gb ob ts))(hnb:Hid (∀k,k<ts.length->In (ts.getD k 0)))(hst:Hid (ss.length=ts.length))(h1:1<=ss.length)(h6:ss.length<=6)(hcl:Hid (cs.length=ss.length))(hCm:Hid (∀k,k<ss.length-> ∀u,Bw w u->CC 36 #[GX p q g h,NV (ss.getD k 0),NV (ts.getD k 0)] u (.tuple #[NV (cs.getD k 0),iI er]))):
 CC 10 #[GX p q g h,iI d,.slice sa ss.length ca,.slice sb ts.length cb] w (.tuple #[DQ,iI er]):=by
 go_enter Tryz.func10,Tryz.ntmps10
 go_upto_region 1 with fail
 obtain⟨v0,hC,HB0,K0⟩:=bx2 w (GE p q g h) 26 L0d 30
 rw[hC]
 clear hC
 refine Rn K0 HB0 (cG 0 15 [_,_,_,_] [(4,10,_)]) (oc (g_ld 0 Tryz.underlying26 Z0)<|oc g_mv<|oc g_mv<|oc (g_cl Zk hP.out)<|oc g_as on) fun u1 HB1 _ K1=>?_
 simp only[sQ] at K1⊢
 go_upto_region 2 with fail
 refine Rn K1 HB1 [(0,20,_),(1,21,_),(2,19,_)] (oc g_mv<|oc (g_bn (fun uZ=>Zw _ _ _ 0 0 _ uZ rfl))<|oc g_as on) fun u2 HB2 _ K2=>?_
 simp only[sQ] at K2⊢
 go_upto_region 4 with fail
 refine Rn K2 HB2 (cG 0 25 [_,_,_] [(3,24,_)]) (oc g_mv<|oc (g_cl Zj hN.out)<|oc (g_un Vj)<|oc g_as on) fun u3 HB3 _ K3=>?_
 simp only[sQ] at K3⊢
 have hw0:w.heap.size<=u3.heap.size:=HB3.size
 go_upto_region 6 with fail
 refine Rf K3 HB3 [] [] [(0,29,_),(1,30,_)] [] [] [⟨2,31,some 3,PRz u3.heap.size ss.length⟩,⟨3,11,none,PRz u3.heap.size ss.length⟩] [] (oc g_mv<|oc (g_ln Tryz.underlying27)<|oc (g_mS 0 (PRz u3.heap.size ss.length) ss.length (flN (List.replicate ss.length 0)) (mkNt _ (by omega)) (fun u h=>PRz.new u h))<|oc (g_sE 0 1 (PRz u3.heap.size ss.length)) on) fun u4 v4_2 hv4_2 v4_3 hv4_3 HB4 _ K4=>?_
 simp only[sQ] at K4⊢
 obtain⟨bo,rfl,o1,o2,o3⟩:=hv4_3 rfl
 have K4xo:=Bk.more3 K3 K4 o1 o2 o3 (by intro x hx;first | (simp at hx;done) | (simp at hx⊢;omega))
 simp only[aK] at K4xo
 have hbo:w.heap.size<=bo:=Nat.le_trans hw0 o1
 go_upto_region 7 with fail
 refine Rn K4xo HB4 (cG 0 32 [_,_,_] []) (oc g_mv<|oc (g_ln Tryz.underlying27)<|oc g_mv on) fun u5 HB5 _ K5=>?_
 simp only[sQ] at K5⊢
 go_wp2_with fail
 go_loopw [34] (fun s34 wr=> ∃(k:Nat),k<=ss.length/\s34=iI (k:Int)/\Bw w wr/\CV wr (w.heap.size) (GE p q g h)/\w.heap.size<wr.heap.size/\CV wr (w.heap.size+1) (L0d)/\w.heap.size+1<wr.heap.size/\CV wr bo (flN (rowN cs k))/\bo<wr.heap.size/\k=0) (fun s34 _=>ss.length -(intOf s34).toNat)
 case atStart=>exact⟨0,by omega,rfl,HB5,(K5.cv 0),(K5.lt 0),(K5.cv 1),(K5.lt 1),by rw[rowN_0,hcl.out];exact(K5.cv 2),(K5.lt 2),rfl⟩
 case round=>
  obtain⟨k,hk,rfl,HBr,C0,lC0,C1,lC1,C2,lC2,k0⟩:=hrel
  have hnK:=K5.n
  simp at hnK
  by_cases hj:k<ss.length
  ·have hl:decide ((k:Int)<(ss.length:Int))=true:=by simp;omega
   have hj2:k<ts.length:=by have:=hst.out;omega
   have hkx:k<cs.length:=by rw[hcl.out];exact hj
   have hX:=hixa.out _ hj
   have hX:Hid _:=hX
   have hR:=hSa.out.at _ hj
   have hR:Hid _:=hR
   have hXb:=hixb.out _ hj2
   have hXb:Hid _:=hXb
   have hRb:=hSb.out.at _ hj2
   have hRb:Hid _:=hRb
   have ga':=hga.resolve_left (by omega)
   have gb':=hgb.resolve_left (by omega)
   have hM:=hCm.out k hj
   obtain⟨x,ex⟩: ∃x,ss.getD k 0=x:=⟨_,rfl⟩
   rw[ex] at hR hM
   clear ex
   obtain⟨y,ey⟩: ∃y,ts.getD k 0=y:=⟨_,rfl⟩
   rw[ey] at hRb hM
   clear ey
   obtain⟨c,ec⟩: ∃c,cs.getD k 0=c:=⟨_,rfl⟩
   rw[ec] at hM
   clear ec hkx
   have hM:Hid _:=hM
   have K5_1:Bk w.heap.size wr [(false,w.heap.size,GE p q g h),(true,w.heap.size+1,L0d),(true,bo,flN (rowN cs k))]:=⟨.c lC0 C0<| .o lC1 (K5.lo 1) C1<| .o lC2 (by omega) C2<|trivial,by simp<;>omega⟩
   go_upto_region 8 with fail
   refine Rn K5_1 HBr [(0,35,_)] (oc (g_bn (fun uZ=>Z6 _ _ (k:Int) (ss.length:Int) _ uZ hl)) on) fun u6 HB6 _ K6=>?_
   simp only[sQ] at K6⊢
   go_upto_region 9 with fail
   refine Rn K6 HB6 [(0,36,_),(1,12,_)] (oc g_mv<|oc g_as on) fun u7 HB7 _ K7=>?_
   simp only[sQ] at K7⊢
   go_upto_region 10 with fail
   refine Rd K7 HB7 [] [(13,13,L0s,some (14,LN c))] (cG 0 38 [_,_,_,_,_,_,_,_,_,_] [(10,37,_),(11,48,_),(12,49,_),(15,14,_)]) [(14,13)] [] [] (oc (g_ld 0 Tryz.underlying26 Z0)<|oc g_mv<|oc g_mv<|oc (g_ix hX.out)<|oc (g_lf hR.out ga' uN iN)<|oc g_mv<|oc g_mv<|oc (g_ix hXb.out)<|oc (g_lf hRb.out gb' uN iN)<|oc (g_cb ent_V4 hM.out)<|oc g_mv<|oc g_ex<|oc g_ex<|oc (g_al 0 aN)<|oc (g_sn 0 iN)<|oc g_as on) fun u8 b8_13 HB8 _ K8=>?_
   simp only[sQ] at K8⊢
   go_upto_region 11 with fail
   refine Rn K8 HB8 [(0,50,_),(1,51,_)] (oc g_mv<|oc (g_bn (fun uZ=>Zw _ _ _ er 0 _ uZ he)) on) fun u9 HB9 _ K9=>?_
   simp only[sQ] at K9⊢
   go_upto_region 12 with fail
   refine Rp K9 HB9 [.no,.all 2 L0d] [] [(0,52,_),(1,53,_),(3,9,_)] [] [] [] (oc (g_bd zDq)<|oc g_mv<|oc (g_st 1 Zp)<|oc g_as on) fun u10 HB10 _ K10=>?_
   simp only[sQ] at K10⊢
   have c8_0:=((K10.cv 1) 0 _ rfl).1
   have c8_1:=((K10.cv 1) 1 _ rfl).1
   go_wp2
   refine bodyPost_ret (v:= .tuple #[DQ,iI er]) (by simp[results,Tryz.results10,go_sem,c8_0,c8_1]) rfl ⟨rfl,HB10⟩
  ·exact absurd k0 (by omega)
theorem NL_nil(u:World):NL u (.slice none 0 0) []:=⟨none,0,0,0,rfl,Nat.le_refl _,fun _=>rfl,.inl rfl,.inl rfl,SN.empty rfl⟩
theorem vDeal(p q g h d:Int)(ss ts:List Int)(v v2:Value)(w:World)(hG:GT w)(hp:In p)(hq:In q)(hg:In g)(hh:In h)(hv:NL w v ss)(hv2:NL w v2 ts)(hs: ∀z∈ss,In z)(ht: ∀z∈ts,In z):Calls Tryz.prog 10 #[GX p q g h,iI d,v,v2] w fun e u=> ∃y,e= .returned (.tuple #[DX (dlD p q g h d ss ts) y,iI (dlE p q g h d ss ts)])/\NL u y (dlC p q g h d ss ts)/\Bw w u:=by
 obtain⟨sa,ga,oa,ca,rfl,a2,a3,a4,a5,a6⟩:=hv
 obtain⟨sb,gb,ob,cb,rfl,b2,b3,b4,b5,b6⟩:=hv2
 have hP:=fun u=>vPolys p q g h sa sb ss.length ts.length ca cb u hp hq
 have hN:=fun u=>vNode d u
 have no: ∀c:Int,c≠0->dlE p q g h d ss ts=c-> ∀(e:Ending) (u:World),(e= .returned (.tuple #[DQ,iI c])/\Bw w u)-> ∃y,e= .returned (.tuple #[DX (dlD p q g h d ss ts) y,iI (dlE p q g h d ss ts)])/\NL u y (dlC p q g h d ss ts)/\Bw w u:=fun c hc h1 e u h2=>by
  rw[dlD,dlC,h1,if_neg hc,if_neg hc]
  exact⟨_,h2.1,NL_nil u,h2.2⟩
 unfold plE at hP
 by_cases c1:gOk p q
 ·simp only[if_pos c1] at hP
  by_cases c2:shB ss.length ts.length=true
  ·simp only[if_pos c2] at hP
   have hb2:=shB_iff.1 c2
   by_cases c3:ndB d=true
   ·rw[show decide (1<=d/\d<=16)=true from c3] at hN
    have hC:=fun k (hk:k<ss.length) u (hB:Bw w u)=>cComG p q g h (ss.getD k 0) (ts.getD k 0) u (hG.below hB) hp hq hg hh (Yc hs k hk) (Yc ht k (by omega))
    have hcs: ∀k,k<ss.length->coX p q g h (ss.getD k 0) (ts.getD k 0)=(cmS p q g h ss ts).getD k 0:=fun k hk=>by rw[cmS,Xg hk]
    by_cases c4:(isB p q g&&isB p q h)=true
    ·have e0:dlE p q g h d ss ts=0:=by simp[dlE,c1,c2,c3,c4]
     have e1:coE p q g h=0:=by rw[coE,if_pos c4]
     refine(vdl_k p q g h d sa sb ca cb ga oa gb ob ss ts (cmS p q g h ss ts) w hP hN (NL.ix (u:=w) a4) a5 a6 (Yc hs) (NL.ix (u:=w) b4) b5 b6 (Yc ht) hb2.1 hb2.2.1 hb2.2.2 (Ul _ _ _ _ _ _) (fun k hk u hB=>by have:=hC k hk u hB;rw[e1,hcs k hk] at this;exact this)).mono fun e u ⟨y,h1,h2,h3⟩=>?_
     refine⟨y,?_,?_,h3⟩
     ·rw[dlD,e0,if_pos rfl];exact h1
     ·rw[dlC,e0,if_pos rfl];exact h2.nl
    ·have e0:dlE p q g h d ss ts=90:=by simp only[dlE,c1,c2,c3,if_true,Bool.and_true,Bool.true_and];rw[if_neg c4]
     have e1:coE p q g h=90:=by rw[coE,if_neg c4]
     exact(vdl_m p q g h d 90 sa sb ca cb ga oa gb ob ss ts (cmS p q g h ss ts) w (by decide) hP hN (NL.ix (u:=w) a4) a5 a6 (Yc hs) (NL.ix (u:=w) b4) b5 b6 (Yc ht) hb2.1 hb2.2.1 hb2.2.2 (Ul _ _ _ _ _ _) (fun k hk u hB=>by have:=hC k hk u hB;rw[e1,hcs k hk] at this;exact this)).mono fun e u h2=>no 90 (by decide) e0 e u h2
   ·rw[Bool.not_eq_true] at c3
    rw[show decide (1<=d/\d<=16)=false from c3] at hN
    exact(vdl_n p q g h d sa sb ca cb ss ts w hP hN).mono fun e u h2=>no 110 (by decide) (by simp[dlE,c1,c3]) e u h2
  ·simp only[if_neg c2] at hP
   exact(vdl_c p q g h d 110 sa sb ca cb ss ts w (by decide) hP).mono fun e u h2=>no 110 (by decide) (by simp[dlE,c1,c2]) e u h2
 ·simp only[if_neg c1] at hP
  exact(vdl_c p q g h d 90 sa sb ca cb ss ts w (by decide) hP).mono fun e u h2=>no 90 (by decide) (by simp[dlE,c1]) e u h2
theorem vat_c(p q g h d nd c:Int)(sl:Option Addr)(cap:Nat)(ns:List Int)(w:World)(hc:(c !=0)=true)(hK:Hid (∀u,Bw w u->CC 19 #[GX p q g h,DX d (.slice sl ns.length cap)] u (iI c))):
 CC 17 #[GX p q g h,DX d (.slice sl ns.length cap),iI nd] w (.tuple #[A4 0 0 0 0,iI c]):=by
 go_enter Tryz.func17,Tryz.ntmps17
 go_upto_region 1 with fail
 obtain⟨v0,hC,HB0,K0⟩:=bx3 w (GE p q g h) 26 (DE d (.slice sl ns.length cap)) 30 L0s 24
 rw[hC]
 clear hC
 refine Rn K0 HB0 (cG 0 13 [_,_,_] [(3,8,_)]) (oc (g_ld 0 Tryz.underlying26 Z0)<|oc (g_ld 1 Tryz.underlying30 Zp)<|oc (g_cb Wd hK.out)<|oc g_as on) fun u1 HB1 _ K1=>?_
 simp only[sQ] at K1⊢
 go_upto_region 2 with fail
 refine Rn K1 HB1 [(0,17,_),(1,18,_),(2,16,_)] (oc g_mv<|oc (g_bn (fun uZ=>Zw _ _ _ c 0 _ uZ hc))<|oc g_as on) fun u2 HB2 _ K2=>?_
 simp only[sQ] at K2⊢
 go_upto_region 3 with fail
 refine Rp K2 HB2 [.no,.no,.all 2 ([iU (0),iU (0),iU (0),iU (0)])] [] [(0,19,_),(1,20,_),(3,7,_)] [] [] [] (oc (g_bd zN)<|oc g_mv<|oc (g_st 2 iN)<|oc g_as on) fun u3 HB3 _ K3=>?_
 simp only[sQ] at K3⊢
 have c6:=(K3.cv 2).n4
 go_wp2
 refine bodyPost_ret (v:= .tuple #[A4 0 0 0 0,iI c]) (by simp[results,Tryz.results17,go_sem,c6]) rfl ⟨rfl,HB3⟩
theorem vat_n(p q g h d nd:Int)(sl:Option Addr)(cap:Nat)(ns:List Int)(w:World)(hK:Hid (∀u,Bw w u->CC 19 #[GX p q g h,DX d (.slice sl ns.length cap)] u (iI 0)))(hN:Hid (∀u,CC 35 #[iI nd] u (.bool false))):
 CC 17 #[GX p q g h,DX d (.slice sl ns.length cap),iI nd] w (.tuple #[A4 0 0 0 0,iI 2]):=by
 go_enter Tryz.func17,Tryz.ntmps17
 go_upto_region 1 with fail
 obtain⟨v0,hC,HB0,K0⟩:=bx3 w (GE p q g h) 26 (DE d (.slice sl ns.length cap)) 30 L0s 24
 rw[hC]
 clear hC
 refine Rn K0 HB0 (cG 0 13 [_,_,_] [(3,8,_)]) (oc (g_ld 0 Tryz.underlying26 Z0)<|oc (g_ld 1 Tryz.underlying30 Zp)<|oc (g_cb Wd hK.out)<|oc g_as on) fun u1 HB1 _ K1=>?_
 simp only[sQ] at K1⊢
 go_upto_region 2 with fail
 refine Rn K1 HB1 [(0,17,_),(1,18,_),(2,16,_)] (oc g_mv<|oc (g_bn (fun uZ=>Zw _ _ _ 0 0 _ uZ rfl))<|oc g_as on) fun u2 HB2 _ K2=>?_
 simp only[sQ] at K2⊢
 go_upto_region 4 with fail
 refine Rn K2 HB2 (cG 0 22 [_,_,_] [(3,21,_)]) (oc g_mv<|oc (g_cl Zj hN.out)<|oc (g_un Ue)<|oc g_as on) fun u3 HB3 _ K3=>?_
 simp only[sQ] at K3⊢
 go_upto_region 5 with fail
 refine Rp K3 HB3 [.no,.no,.all 1 ([iU (0),iU (0),iU (0),iU (0)])] [] [(0,25,_),(2,7,_)] [] [] [] (oc (g_bd zN)<|oc (g_st 2 iN)<|oc g_as on) fun u4 HB4 _ K4=>?_
 simp only[sQ] at K4⊢
 have c6:=(K4.cv 2).n4
 go_wp2
 refine bodyPost_ret (v:= .tuple #[A4 0 0 0 0,iI 2]) (by simp[results,Tryz.results17,go_sem,c6]) rfl ⟨rfl,HB4⟩
theorem vat_k(p q g h d nd r:Int)(sl:Option Addr)(gb go cap:Nat)(ns rs:List Int)(w:World)(hK:Hid (∀u,Bw w u->CC 19 #[GX p q g h,DX d (.slice sl ns.length cap)] u (iI 0)))(hN:Hid (∀u,CC 35 #[iI nd] u (.bool true)))(hix:Hid (∀j,j<ns.length-> ∀W,(Instr.indexAt 27 (.slice sl ns.length cap) (iI j)).run Tryz.prog W= .ok (.pointer (some ⟨gb,go+4*j,none⟩)) W))(hg:ns.length=0\/gb<w.heap.size)(hS:Hid (SN w gb go ns))(hn:Hid (∀k,k<ns.length->In (ns.getD k 0)))(hns:ns.length<=1000)(h6:ns.length<=6)(hrl:Hid (rs.length=ns.length))(hbd:Hid (∀k,k<=6->0<=nd^k/\nd^k<=16777216))(hEx:Hid (∀k,k<ns.length-> ∀u,Bw w u->CC 46 #[GX p q g h,NV (ns.getD k 0),NV (nd^k)] u (.tuple #[NV (rs.getD k 0),iI 0])))(hMu:Hid (∀(u:World) b,Bw w u->b<u.heap.size->CV u b (flN rs)->CC 47 #[GX p q g h,.slice (some ⟨b,0,none⟩) ns.length ns.length] u (.tuple #[NV r,iI 0]))):
 CC 17 #[GX p q g h,DX d (.slice sl ns.length cap),iI nd] w (.tuple #[NV r,iI 0]):=by
 go_enter Tryz.func17,Tryz.ntmps17
 go_upto_region 1 with fail
 obtain⟨v0,hC,HB0,K0⟩:=bx3 w (GE p q g h) 26 (DE d (.slice sl ns.length cap)) 30 L0s 24
 rw[hC]
 clear hC
 refine Rn K0 HB0 (cG 0 13 [_,_,_] [(3,8,_)]) (oc (g_ld 0 Tryz.underlying26 Z0)<|oc (g_ld 1 Tryz.underlying30 Zp)<|oc (g_cb Wd hK.out)<|oc g_as on) fun u1 HB1 _ K1=>?_
 simp only[sQ] at K1⊢
 go_upto_region 2 with fail
 refine Rn K1 HB1 [(0,17,_),(1,18,_),(2,16,_)] (oc g_mv<|oc (g_bn (fun uZ=>Zw _ _ _ 0 0 _ uZ rfl))<|oc g_as on) fun u2 HB2 _ K2=>?_
 simp only[sQ] at K2⊢
 go_upto_region 4 with fail
 refine Rn K2 HB2 (cG 0 22 [_,_,_] [(3,21,_)]) (oc g_mv<|oc (g_cl Zj hN.out)<|oc (g_un Vj)<|oc g_as on) fun u3 HB3 _ K3=>?_
 simp only[sQ] at K3⊢
 have hw0:w.heap.size<=u3.heap.size:=HB3.size
 go_upto_region 6 with fail
 refine Rf K3 HB3 [] [] (cG 0 26 [_,_,_] []) [] [] [⟨3,29,some 4,PRz u3.heap.size ns.length⟩,⟨4,9,none,PRz u3.heap.size ns.length⟩] [] (oc (g_fd (fdD1 _))<|oc (g_lc 1 1 lSN)<|oc (g_ln Tryz.underlying27)<|oc (g_mS 0 (PRz u3.heap.size ns.length) ns.length (flN (List.replicate ns.length 0)) (mkNt _ (by omega)) (fun u h=>PRz.new u h))<|oc (g_sE 0 1 (PRz u3.heap.size ns.length)) on) fun u4 v4_3 hv4_3 v4_4 hv4_4 HB4 _ K4=>?_
 simp only[sQ] at K4⊢
 obtain⟨bo,rfl,o1,o2,o3⟩:=hv4_4 rfl
 have K4xo:=Bk.more3 K3 K4 o1 o2 o3 (by intro x hx;first | (simp at hx;done) | (simp at hx⊢;omega))
 simp only[aK] at K4xo
 have hbo:w.heap.size<=bo:=Nat.le_trans hw0 o1
 go_upto_region 7 with fail
 refine Rn K4xo HB4 [(0,10,_)] (oc g_as on) fun u5 HB5 _ K5=>?_
 simp only[sQ] at K5⊢
 go_upto_region 8 with fail
 refine Rn K5 HB5 (cG 0 30 [_,_,_,_] []) (oc (g_fd (fdD1 _))<|oc (g_lc 1 1 lSN)<|oc (g_ln Tryz.underlying27)<|oc g_mv on) fun u6 HB6 _ K6=>?_
 simp only[sQ] at K6⊢
 go_wp2_with fail
 go_loopw [33,10] (fun s33 s10 wr=> ∃(k:Nat),k<=ns.length/\s33=iI (k:Int)/\s10=iI (nd^k)/\Bw w wr/\CV wr (w.heap.size) (GE p q g h)/\w.heap.size<wr.heap.size/\CV wr (w.heap.size+1) (DE d (.slice sl ns.length cap))/\w.heap.size+1<wr.heap.size/\CV wr (w.heap.size+1+1) (L0s)/\w.heap.size+1+1<wr.heap.size/\CV wr bo (flN (rowN rs k))/\bo<wr.heap.size) (fun s33 _ _=>ns.length -(intOf s33).toNat)
 case atStart=>exact⟨0,by omega,rfl,by rw[Int.pow_zero],HB6,(K6.cv 0),(K6.lt 0),(K6.cv 1),(K6.lt 1),(K6.cv 2),(K6.lt 2),by rw[rowN_0,hrl.out];exact(K6.cv 3),(K6.lt 3)⟩
 case round=>
  obtain⟨k,hk,rfl,rfl,HBr,C0,lC0,C1,lC1,C2,lC2,C3,lC3⟩:=hrel
  have hnK:=K6.n
  simp at hnK
  by_cases hj:k<ns.length
  ·have hl:decide ((k:Int)<(ns.length:Int))=true:=by simp;omega
   have hkx:k<rs.length:=by rw[hrl.out];exact hj
   have hX:=hix.out _ hj
   have hX:Hid _:=hX
   have hR:=hS.out.at _ hj
   have hR:Hid _:=hR
   have hg':=hg.resolve_left (by omega)
   have hE:=hEx.out k hj
   have hb0:=hbd.out k (by omega)
   have hb1:=hbd.out (k+1) (by omega)
   have hs:Hid (nd^k*nd=nd^(k+1)):=(Int.pow_succ nd k).symm
   obtain⟨z,ez⟩: ∃z,nd^(k+1)=z:=⟨_,rfl⟩
   have ez':Hid (nd^(k+1)=z):=ez
   rw[ez] at hb1 hs
   clear ez
   obtain⟨e,ee⟩: ∃e,nd^k=e:=⟨_,rfl⟩
   rw[ee] at hb0 hs hE
   obtain⟨x,ex⟩: ∃x,ns.getD k 0=x:=⟨_,rfl⟩
   rw[ex] at hR hE
   clear ex
   simp only[ee]
   have hXL:=V4 (vs:=rs) (k:=k) (by omega)
   have hNx:=Xy (vs:=rs) (k:=k) (by omega)
   rw[Xd (vs:=rs) (k:=k) (by omega)] at C3
   obtain⟨X,eX⟩: ∃X,flN (List.take k rs)=X:=⟨_,rfl⟩
   obtain⟨Z,eZ⟩: ∃Z,flN (List.replicate (List.length rs -(k+1)) 0)=Z:=⟨_,rfl⟩
   rw[eX] at hXL hNx C3
   rw[eZ] at hNx C3
   clear eX eZ
   obtain⟨y,ey⟩: ∃y,rs.getD k 0=y:=⟨_,rfl⟩
   rw[ey] at hE hNx
   clear ey hkx
   have hXL:Hid _:=hXL
   have hNx:Hid _:=hNx
   have hE:Hid _:=hE
   have K6_1:Bk w.heap.size wr [(false,w.heap.size,GE p q g h),(false,w.heap.size+1,DE d (.slice sl ns.length cap)),(true,w.heap.size+1+1,L0s),(true,bo,X++LN 0++Z)]:=⟨.c lC0 C0<| .c lC1 C1<| .o lC2 (K6.lo 2) C2<| .o lC3 (by omega) C3<|trivial,by simp<;>omega⟩
   go_upto_region 9 with fail
   refine Rn K6_1 HBr [(0,34,_)] (oc (g_bn (fun uZ=>Z6 _ _ (k:Int) (ns.length:Int) _ uZ hl)) on) fun u7 HB7 sz7 K7=>?_
   simp only[sQ] at K7⊢
   go_upto_region 10 with fail
   refine Rp K7 HB7 [] [(3,12,L0s,some (5,LN x))] (cG 0 35 [_,_,_] [(4,11,_)]) [(5,3)] [] [] (oc g_mv<|oc (g_ix hX.out)<|oc (g_lf hR.out hg' uN iN)<|oc (g_al 0 aN)<|oc g_as<|oc (g_sn 0 iN) on) fun u8 b8_3 HB8 sz8 K8=>?_
   simp only[sQ] at K8⊢
   go_upto_region 11 with fail
   refine Rd K8 HB8 [.no,.no,.no,.all 11 (X++LN y++Z)] [] (cG 0 39 [_,_,_,_,_,_,_] [(7,38,_),(8,46,_),(9,47,_),(10,48,_)]) [] [] [] (oc g_mv<|oc g_mv<|oc (g_ld 0 Tryz.underlying26 Z0)<|oc (g_ld 4 uN iN)<|oc g_mv<|oc (g_cl Yx (fun uZ=>vNumber e uZ hb0.1 (by omega)))<|oc (g_cb ent_V5 hE.out)<|oc g_mv<|oc g_ex<|oc g_ex<|oc (g_ix (ixZ _ _ _ k hj))<|oc (g_sm 3 (4*k) X (LN 0) Z (post:=LN y) (hxc:=hXL.out) iN) on) fun u9 HB9 _ K9=>?_
   simp only[sQ] at K9⊢
   go_upto_region 12 with fail
   refine Rp K9 HB9 [] [] (cG 0 49 [_,_,_] [(3,10,_)]) [(3,0)] [(3,10)] [] (oc g_mv<|oc g_mv<|oc (g_bn (fun uZ=>mul_i _ _ e nd z uZ hs.out (by omega) (by omega)))<|oc g_as on) fun u10 HB10 _ K10=>?_
   simp only[sQ] at K10⊢
   go_upto_region 13 with fail
   refine Rp K10 HB10 [] [] [(0,52,_),(1,33,_)] [(1,0)] [(1,33)] [] (oc (g_bn (fun uZ=>Zm _ _ (k:Int) 1 ((k+1:Nat):Int) uZ (by omega) (by omega) (by omega)))<|oc g_mv on) fun u11 HB11 _ K11=>?_
   simp only[sQ] at K11⊢
   go_wp2
   refine⟨⟨k+1,by omega,rfl,by rw[ez'.out],HB11,(K11.cv 0),(K11.lt 0),(K11.cv 1),(K11.lt 1),(K11.cv 2),(K11.lt 2),by rw[hNx.out];exact(K11.cv 3),(K11.lt 3)⟩,?_⟩
   simp[intOf]<;>omega
  ·have hl:decide ((k:Int)<(ns.length:Int))=false:=by simp;omega
   have hkn:k=rs.length:=by rw[hrl.out];omega
   rw[hkn,Vw] at C3
   clear hkn
   have K6_1:Bk w.heap.size wr [(false,w.heap.size,GE p q g h),(false,w.heap.size+1,DE d (.slice sl ns.length cap)),(true,w.heap.size+1+1,L0s),(true,bo,flN rs)]:=⟨.c lC0 C0<| .c lC1 C1<| .o lC2 (K6.lo 2) C2<| .o lC3 (by omega) C3<|trivial,by simp<;>omega⟩
   go_upto_region 9 with fail
   refine Rn K6_1 HBr [(0,34,_)] (oc (g_bn (fun uZ=>Z6 _ _ (k:Int) (ns.length:Int) _ uZ hl)) on) fun u7 HB7 sz7 K7=>?_
   simp only[sQ] at K7⊢
   go_upto_region 14 with fail
   refine Rp K7 HB7 [.no,.no,.all 5 (LN r)] [] (cG 0 53 [_,_,_,_,_] [(6,7,_)]) [] [] [] (oc (g_ld 0 Tryz.underlying26 Z0)<|oc g_mv<|oc (g_cK ent_V2 (fun fZ uZ kZ sZ bZ=>hMu.out uZ bo bZ (kZ.lb sZ 3) (kZ.cv 3)))<|oc g_ex<|oc g_ex<|oc (g_st 2 iN)<|oc g_as on) fun u8 HB8 sz8 K8=>?_
   simp only[sQ] at K8⊢
   have c6:=(K8.cv 2).n4
   go_wp2
   refine bodyPost_ret (v:= .tuple #[NV r,iI 0]) (by simp[results,Tryz.results17,go_sem,c6]) rfl ⟨rfl,HB8⟩
theorem pwN_is{q nd:Int}(hq:2<=q): ∀k,pwN q nd k=nd^k%q
 | 0=>by rw[pwN,Int.pow_zero];exact(Int.emod_eq_of_lt (by omega) (by omega)).symm
 | k+1=>by rw[pwN,pwN_is hq k,Int.pow_succ,Int.mul_emod,Int.emod_emod,<-Int.mul_emod]
theorem nd_pow{nd:Int}(h1:1<=nd)(h2:nd<=16)(k:Nat)(hk:k<=6):0<=nd^k/\nd^k<=16777216:=by
 have: ∀k:Nat,1<=nd^k/\nd^k<=16^k:=fun k=>by
  induction k with
  | zero=>simp
  | succ k ih=>
   rw[Int.pow_succ,Int.pow_succ]
   refine⟨?_,Int.mul_le_mul ih.2 h2 (by omega) (by omega)⟩
   have:=Int.mul_le_mul ih.1 h1 (by omega) (by omega)
   omega
 have:=this k
 match k,hk with
 | 0,_=>omega
 | 1,_=>omega
 | 2,_=>omega
 | 3,_=>omega
 | 4,_=>omega
 | 5,_=>omega
 | 6,_=>omega
def raS(p q nd:Int)(ns:List Int):List Int:=tab ns.length fun k=>ns.getD k 0^(nd^k%q).toNat%p
theorem Uc(p q nd:Int)(ns:List Int):(raS p q nd ns).length=ns.length:=W6 _ _
theorem raS_gat{p q nd:Int}{ns:List Int}(hp:2<=p)(hq:2<=q): ∀k,k<=ns.length->gat (fun a b=>(a*b)%p) (1%p) (raS p q nd ns) k=atO p q nd ns k
 | 0,_=>by rw[gat,atO];exact Int.emod_eq_of_lt (by omega) (by omega)
 | k+1,h=>by
  rw[gat,atO,raS_gat hp hq k (by omega),pwN_is hq]
  simp only[raS]
  rw[Xg (by omega)]
theorem raS_all{p q nd:Int}{ns:List Int}(hg:gOk p q)(h:ns.all (isB p q)=true):mlB p q (raS p q nd ns)=true:=by
 unfold mlB
 rw[decide_eq_true hg,Bool.true_and]
 refine all_get.2 fun k hk=>?_
 rw[Uc] at hk
 rw[raS,Xg hk]
 exact decide_eq_true ⟨hg,(Ug (all_get.1 h k hk)).2.pow hg _⟩
theorem vAt(p q g h d nd:Int)(ns:List Int)(v:Value)(w:World)(hG:GT w)(hp:In p)(hq:In q)(hv:NL w v ns)(hns: ∀z∈ns,In z)(hl:ns.length<=7):CC 17 #[GX p q g h,DX d v,iI nd] w (.tuple #[NV (atX p q d nd ns),iI (atE p q d nd ns)]):=by
 have a':=hv
 obtain⟨sl,gb,go,cap,rfl,h2,h3,h4,h5,h6⟩:=hv
 have hK:=fun u (hB:Bw w u)=>vCheck p q g h d ns _ u (hG.below hB) hp hq (a'.up hB) hns (by omega)
 have hN:=fun u=>vNode nd u
 by_cases c:dcE p q d ns=0
 ·rw[c] at hK
  obtain⟨c1,c2,c3,c4,c5⟩:=dcE_0 c
  have hq3:=c1.q3
  have hp7:=c1.2
  by_cases c6:ndB nd=true
  ·rw[show decide (1<=nd/\nd<=16)=true from c6] at hN
   have hb:=ndB_iff.1 c6
   have e0:atE p q d nd ns=0:=by simp[atE,c,c6]
   rw[atX,if_pos e0,e0,<-raS_gat (nd:=nd) (ns:=ns) (by omega) (show (2:Int)<=q by omega) _ (Nat.le_refl _)]
   refine vat_k p q g h d nd _ sl gb go cap ns (raS p q nd ns) w hK hN (NL.ix (u:=w) h4) h5 h6 (Yc hns) (by omega) c4 (Uc _ _ _ _) (nd_pow hb.1 hb.2) (fun k hk u hB=>?_) (fun u b hB hl2 hc=>?_)
   ·have hk2:=all_get.1 c5 k hk
    have hE:=cExpG p q g h (ns.getD k 0) (nd^k) u (hG.below hB) hp hq (Yc hns k hk) (by have:=nd_pow hb.1 hb.2 k (by omega);exact⟨by omega,by omega⟩)
    rw[exPX,exPE,hk2,if_pos rfl,if_pos rfl] at hE
    rw[raS,Xg hk]
    exact hE
   ·have hi: ∀k,k<(raS p q nd ns).length->In ((raS p q nd ns).getD k 0):=fun k hk=>by
     rw[Uc] at hk;rw[raS,Xg hk];exact Zi hp (by omega)
    have hM:=cMulG p q g h (raS p q nd ns) (.slice (some ⟨b,0,none⟩) ns.length ns.length) u (hG.below hB) (by rw[Uc];omega) hp hq hi ((PRw.nl (lo:=0) ⟨b,by rw[Uc],Nat.zero_le _,hl2,hc⟩))
    rw[mlX,mlE,raS_all c1 c5,if_pos rfl,if_pos rfl,Uc] at hM
    exact hM
  ·rw[Bool.not_eq_true] at c6
   rw[show decide (1<=nd/\nd<=16)=false from c6] at hN
   have e0:atE p q d nd ns=2:=by simp[atE,c,c6]
   rw[atX,e0,if_neg (by omega),NV_0]
   exact vat_n p q g h d nd sl cap ns w hK hN
 ·have e0:atE p q d nd ns=dcE p q d ns:=by simp[atE,c]
  rw[atX,e0,if_neg c,NV_0]
  exact vat_c p q g h d nd _ sl cap ns w (by simp[c]) hK
theorem vver(p q g h d nd s t a b c ev re:Int)(sl:Option Addr)(cap n:Nat)(w:World)(hR:Hid (re=if ev !=0 then ev else if c !=0 then c else if decide (b=a) then 0 else 100))(ia:In a)(ib:In b)(hA:Hid (∀u,Bw w u->CC 17 #[GX p q g h,DX d (.slice sl n cap),iI nd] u (.tuple #[NV a,iI ev])))(hM:Hid (∀u,Bw w u->CC 36 #[GX p q g h,NV s,NV t] u (.tuple #[NV b,iI c]))):
 CC 21 #[GX p q g h,DX d (.slice sl n cap),SX nd s t] w (iI re):=by
 go_enter Tryz.func21,Tryz.ntmps21
 go_upto_region 1 with fail
 obtain⟨v0,hC,HB0,K0⟩:=bx3 w (GE p q g h) 26 (DE d (.slice sl n cap)) 30 (SE nd s t) 35
 rw[hC]
 clear hC
 refine Rp K0 HB0 [] [(8,7,L0s,some (9,LN a))] (cG 0 12 [_,_,_,_,_] [(5,11,_),(6,17,_),(7,18,_),(10,8,_)]) [(9,8)] [] [] (oc (g_ld 0 Tryz.underlying26 Z0)<|oc (g_ld 1 Tryz.underlying30 Zp)<|oc (g_fd (fdS0 _))<|oc (g_lc 2 0 lI)<|oc (g_cb ent_V7 hA.out)<|oc g_mv<|oc g_ex<|oc g_ex<|oc (g_al 0 aN)<|oc (g_sn 0 iN)<|oc g_as on) fun u1 b1_8 HB1 _ K1=>?_
 simp only[sQ] at K1⊢
 cases he:(ev !=0)
 ·skip
  go_upto_region 2 with fail
  refine Rn K1 HB1 [(0,19,_),(1,20,_)] (oc g_mv<|oc (g_bn (fun uZ=>Zw _ _ _ ev 0 _ uZ he)) on) fun u2 HB2 sz2 K2=>?_
  simp only[sQ] at K2⊢
  go_upto_region 4 with fail
  refine Rp K2 HB2 [] [(9,9,L0s,some (10,LN b))] (cG 0 23 [_,_,_,_,_,_] [(6,22,_),(7,29,_),(8,30,_),(11,10,_)]) [(10,9)] [] [] (oc (g_ld 0 Tryz.underlying26 Z0)<|oc (g_fd (fdS1 _))<|oc (g_lo 2 1 uN iN)<|oc (g_fd (fdS2 _))<|oc (g_lo 2 5 uN iN)<|oc (g_cb ent_V4 hM.out)<|oc g_mv<|oc g_ex<|oc g_ex<|oc (g_al 0 aN)<|oc (g_sn 0 iN)<|oc g_as on) fun u3 b3_9 HB3 sz3 K3=>?_
  simp only[sQ] at K3⊢
  cases hc:(c !=0)
  ·skip
   go_upto_region 5 with fail
   refine Rn K3 HB3 [(0,32,_),(1,33,_),(2,31,_)] (oc g_mv<|oc (g_bn (fun uZ=>Zw _ _ _ c 0 _ uZ hc))<|oc g_as on) fun u4 HB4 sz4 K4=>?_
   simp only[sQ] at K4⊢
   cases hx:decide (b=a)
   ·skip
    go_upto_region 7 with fail
    refine Rn K4 HB4 (cG 0 36 [_,_,_] [(3,35,_)]) (oc (g_ld 4 uN iN)<|oc (g_ld 3 uN iN)<|oc (g_bn (fun uZ=>Vx _ _ ib ia true (by rw[hx];rfl) uZ))<|oc g_as on) fun u5 HB5 sz5 K5=>?_
    simp only[sQ] at K5⊢
    go_upto_region 8 with fail
    refine Rn K5 HB5 [(0,6,_)] (oc g_as on) fun u6 HB6 sz6 K6=>?_
    simp only[sQ] at K6⊢
    go_wp2
    refine bodyPost_ret (v:=iI 100) (by simp[results,Tryz.results21,go_sem,]) rfl ⟨by rw[hR.out,he,hc,hx];rfl,HB6⟩
   ·skip
    go_upto_region 7 with fail
    refine Rn K4 HB4 (cG 0 36 [_,_,_] [(3,35,_)]) (oc (g_ld 4 uN iN)<|oc (g_ld 3 uN iN)<|oc (g_bn (fun uZ=>Vx _ _ ib ia false (by rw[hx];rfl) uZ))<|oc g_as on) fun u5 HB5 sz5 K5=>?_
    simp only[sQ] at K5⊢
    go_upto_region 9 with fail
    refine Rn K5 HB5 [(0,6,_)] (oc g_as on) fun u6 HB6 sz6 K6=>?_
    simp only[sQ] at K6⊢
    go_wp2
    refine bodyPost_ret (v:=iI 0) (by simp[results,Tryz.results21,go_sem,]) rfl ⟨by rw[hR.out,he,hc,hx];rfl,HB6⟩
  ·skip
   go_upto_region 5 with fail
   refine Rn K3 HB3 [(0,32,_),(1,33,_),(2,31,_)] (oc g_mv<|oc (g_bn (fun uZ=>Zw _ _ _ c 0 _ uZ hc))<|oc g_as on) fun u4 HB4 sz4 K4=>?_
   simp only[sQ] at K4⊢
   go_upto_region 6 with fail
   refine Rn K4 HB4 [(0,34,_),(1,6,_)] (oc g_mv<|oc g_as on) fun u5 HB5 sz5 K5=>?_
   simp only[sQ] at K5⊢
   go_wp2
   refine bodyPost_ret (v:=iI c) (by simp[results,Tryz.results21,go_sem,]) rfl ⟨by rw[hR.out,he,hc];rfl,HB5⟩
 ·skip
  go_upto_region 2 with fail
  refine Rn K1 HB1 [(0,19,_),(1,20,_)] (oc g_mv<|oc (g_bn (fun uZ=>Zw _ _ _ ev 0 _ uZ he)) on) fun u2 HB2 sz2 K2=>?_
  simp only[sQ] at K2⊢
  go_upto_region 3 with fail
  refine Rn K2 HB2 [(0,21,_),(1,6,_)] (oc g_mv<|oc g_as on) fun u3 HB3 sz3 K3=>?_
  simp only[sQ] at K3⊢
  go_wp2
  refine bodyPost_ret (v:=iI ev) (by simp[results,Tryz.results21,go_sem,]) rfl ⟨by rw[hR.out,he];rfl,HB3⟩
theorem coX_In{p q g h s t:Int}(hp:In p):In (coX p q g h s t):=by
 unfold coX;split
 ·have c2:isB p q g=true:=by rename_i h1;simp only[Bool.and_eq_true] at h1;exact h1.1
  exact Zi hp (by have:=(Ug c2).1.2;omega)
 ·exact In_0
theorem atX_In'{p q d nd:Int}{ns:List Int}(hp:In p)(c:atE p q d nd ns=0):In (atX p q d nd ns):=by
 unfold atX;rw[if_pos c]
 have c3:dcE p q d ns=0:=by
  unfold atE at c
  by_cases h1:dcE p q d ns=0
  ·exact h1
  ·rw[if_neg h1] at c;exact c
 exact atO_In hp (by have:=(dcE_0 c3).1.2;omega) _
theorem vVerify(p q g h d nd s t:Int)(ns:List Int)(v:Value)(w:World)(hG:GT w)(hp:In p)(hq:In q)(hg:In g)(hh:In h)(hs:In s)(ht:In t)(hv:NL w v ns)(hns: ∀z∈ns,In z)(hl:ns.length<=7):CC 21 #[GX p q g h,DX d v,SX nd s t] w (iI (veE p q g h d nd s t ns)):=by
 have a':=hv
 obtain⟨sl,gb,go,cap,rfl,_⟩:=hv
 have hA:=fun u (hB:Bw w u)=>vAt p q g h d nd ns _ u (hG.below hB) hp hq (a'.up hB) hns hl
 have hM:=fun u (hB:Bw w u)=>cComG p q g h s t u (hG.below hB) hp hq hg hh hs ht
 have ic:=coX_In (q:=q) (g:=g) (h:=h) (s:=s) (t:=t) hp
 have ia:In (atX p q d nd ns):=by
  by_cases c:atE p q d nd ns=0
  ·exact atX_In' hp c
  ·rw[atX,if_neg c];exact In_0
 refine vver p q g h d nd s t _ _ _ _ _ sl cap _ w ?_ ia ic hA hM
 show _=_
 unfold veE
 by_cases c:atE p q d nd ns=0
 ·by_cases c1:coE p q g h=0
  ·simp[c,c1]
  ·have e9:coE p q g h=90:=by unfold coE at c1⊢;split at c1<;>simp_all
   simp[c,e9]
 ·simp[c]
theorem ent_N1:EnT 28:=fun _ _=>by kernel_rfl
theorem ent_N2:EnT 12:=fun _ _=>by kernel_rfl
theorem ent_N3:EnT 21:=fun _ _=>by kernel_rfl
theorem ent_N4:EnT 33:=fun _ _=>by kernel_rfl
theorem In_s{n:Int}(h0:0<=n:=by decide)(h1:n<1000:=by decide):In n:=⟨h0,by omega⟩
theorem w_in2{a b:Int}(ha:In a)(hb:In b): ∀z∈[a,b],In z:=fun z hz=>by
 simp at hz;rcases hz with rfl | rfl<;>assumption
theorem lt_NL{u:World}{v:Value}{ns:List Int}(h:NL u v ns): ∃sl cap,v= .slice sl ns.length cap:=by
 obtain⟨sl,_,_,cap,e,_⟩:=h
 exact⟨sl,cap,e⟩
theorem works11(w:World)(hV:VOK w):
 CC 15 #[] w (.bool true):=by
 go_enter Tryz.func15,Tryz.ntmps15
 go_upto_region 3 with(go_at_call 33;first | (refine(Xr 3 w (by omega) (by omega)).mono ?_;rintro e ua ⟨rfl,hBa⟩) | (refine(Xr 2 ua (by omega) (by omega)).mono ?_;rintro e ub ⟨rfl,hBb⟩) | (refine(Xr 5 (ub.alloc (.cells (PtE 3 2:List Value).toArray 24)) (by omega) (by omega)).mono ?_;rintro e uc ⟨rfl,hBc⟩) | (refine(Xr 7 uc (by omega) (by omega)).mono ?_;rintro e ud ⟨rfl,hBd⟩))
 generalize hC:ud.alloc (.cells (PtE 5 7:List Value).toArray 24)=v0 at *
 have hB1:Below (ub.alloc (.cells (PtE 3 2:List Value).toArray 24)).heap.size (ub.alloc (.cells (PtE 3 2:List Value).toArray 24)) v0:=by rw[<-hC];exact Z1 (Zg hBc hBd) _
 have hB0:Bw w v0:=Zg (Z1 (Zg hBa hBb) _) hB1
 have fa_0:NL v0 (.slice (some ⟨ub.heap.size,0,none⟩) 2 2) [3,2]:=NL.up (inN2 3 2 ub) hB1
 have fb_0:NL v0 (.slice (some ⟨ud.heap.size,0,none⟩) 2 2) [5,7]:=by rw[<-hC];exact inN2 5 7 ud
 have HB0:Bw v0 v0:=Below.refl _ _
 clear hC hB1
 have K0_1:=Bk.nil (v0.heap.size) v0
 go_upto_region 3 with fail
 refine Rp K0_1 HB0 [] [(7,4,L0h,some (8,SE (2) (7) (19)))] (cG 0 21 [_,_,_,_] [(4,20,_),(5,25,_),(6,26,_),(9,5,_)]) [(8,7)] [] [] (oc (g_cl ent_N1 cThe)<|oc g_mv<|oc g_mv<|oc (g_cb ent_N2 (fun uZ bZ=>by have h:=hV.share uZ (Zg hB0 bZ) P0 Q0 4 H0 2 [3,2] [5,7] _ _ In_P0' In_Q0' In_n4 In_H0 (by omega) (fa_0.up bZ) (fb_0.up bZ) (w_in2 In_s In_s) (w_in2 In_s In_s) (by decide) (by decide);rw[w_sv,w_sh] at h;exact h))<|oc g_mv<|oc g_ex<|oc g_ex<|oc (g_al 0 X7)<|oc (g_sn 0 Zb)<|oc g_as on) fun u1 b1_7 HB1 _ K1=>?_
 simp only[sQ] at K1⊢
 have hT1:Bw w u1:=Zg hB0 HB1
 have fa_1:NL u1 (.slice (some ⟨ub.heap.size,0,none⟩) 2 2) [3,2]:=fa_0.up HB1
 have fb_1:NL u1 (.slice (some ⟨ud.heap.size,0,none⟩) 2 2) [5,7]:=fb_0.up HB1
 have HBz1:Bw u1 u1:=Below.refl _ _
 have K1_2:Bk u1.heap.size u1 [(false,b1_7,SE (2) (7) (19))]:=⟨.c (K1.lt 0) (K1.cv 0)<|trivial,by simp⟩
 go_upto_region 4 with fail
 have K4:CV u1 b1_7 (SE 2 7 19):=(K1_2.cv 0)
 have l4:=(K1_2.lt 0)
 have hTu:=hT1
 have K4:Hid _:=K4
 go_cut [6,7] (fun s6 s7 wx=> ∃b y,s6= .pointer (some ⟨b,0,none⟩)/\s7=iI 0/\Bw u1 wx/\u1.heap.size<=b/\b<wx.heap.size/\CV wx b (DE 1 y)/\NL wx y (cmS P0 Q0 4 H0 [3,2] [5,7]))
 case first=>
  go_wp2_with (first
   | (go_at_call 28;refine(cThe u1).mono ?_;rintro e u5 ⟨rfl,hB5⟩)
   | (go_at_call 10;refine(hV.deal u5 (Zg hTu hB5) P0 Q0 4 H0 1 [3,2] [5,7] _ _ In_P0' In_Q0' In_n4 In_H0 (by omega) (fa_1.up hB5) (fb_1.up hB5) (w_in2 In_s In_s) (w_in2 In_s In_s) (by decide) (by decide)).mono ?_;rw[dlD,dlC,dl_0 (by decide) (by decide),if_pos rfl,if_pos rfl];rintro e u6 ⟨y,rfl,hy,hB6⟩;obtain⟨sy,cy,ey⟩:=lt_NL hy;subst ey;have hy:Hid _:=hy))
  go_meet
  exact⟨u6.heap.size,_,rfl,rfl,Z1 (Zg hB5 hB6) _,Nat.le_trans hB5.size hB6.size,by simp,CV.new u6 _ _,NL.up hy.out (Z1 (Z5 u6) _)⟩
 case rest=>
  obtain⟨b6,y,rfl,rfl,hBw,hlo6,l6,K6,ny_0⟩:=hcut
  obtain⟨sy,cy,ey⟩:=lt_NL ny_0
  subst ey
  have K4:=CV.below K4.out hBw l4
  have l4:=Nat.lt_of_lt_of_le l4 hBw.size
  have hT6:Bw w wc:=Zg hTu hBw
  have h46:b1_7≠b6:=by omega
  have fa_6:=fa_1.up hBw
  have fb_6:=fb_1.up hBw
  have HB6:Bw wc wc:=Below.refl _ _
  have K1_3:Bk wc.heap.size wc [(false,b1_7,SE (2) (7) (19)),(false,b6,DE (1) (.slice sy (cmS P0 Q0 4 H0 [3,2] [5,7]).length cy))]:=⟨.c l4 K4<| .c l6 K6<|trivial,by simp<;>omega⟩
  go_upto_region 5 with fail
  refine Rm K1_3 HB6 (cG 0 34 [_,_,_,_] [(4,8,_)]) (oc (g_cl ent_N1 cThe)<|oc (g_ld 1 Tryz.underlying30 Zp)<|oc (g_ld 0 Tryz.underlying35 Zb)<|oc (g_cb ent_N3 (fun uZ bZ=>by have h:=hV.verify uZ (Zg hT6 bZ) P0 Q0 4 H0 1 2 7 19 (cmS P0 Q0 4 H0 [3,2] [5,7]) _ In_P0' In_Q0' In_n4 In_H0 (by omega) (by omega) In_s In_s (ny_0.up bZ) (cm_In In_P0' is4 isH0) (by rw[Ul];decide);rw[w_v7] at h;exact h))<|oc g_as on) fun u2 HB2 _ K2=>?_
  simp only[sQ] at K2⊢
  go_upto_region 6 with fail
  refine Rp K2 HB2 [] [(1,9,L0h,some (2,SE (2) (7) (19)))] [(0,38,_)] [(2,1)] [] [] (oc (g_ld 0 Tryz.underlying35 Zb)<|oc (g_al 0 X7)<|oc (g_sn 0 Zb) on) fun u3 b3_1 HB3 _ K3=>?_
  simp only[sQ] at K3⊢
  go_upto_region 7 with fail
  refine Rp K3 HB3 [.no,.no,.all 3 (SE (2) (8) (19))] [] (cG 0 39 [_,_,_] []) [] [] [] (oc g_mv<|oc (g_cv (first:=[]) ent_N4 (fun fZ uZ kZ sZ=>Xr 8 uZ (by omega) (by omega)))<|oc (g_fd (fdS1 _))<|oc (g_sm 2 1 ([iI 2]) (LN 7) (LN 19) (post:=LN 8) iN) on) fun u4 HB4 _ K4=>?_
  simp only[sQ] at K4⊢
  go_upto_region 8 with fail
  refine Rm K4 HB4 (cG 0 42 [_,_,_,_,_,_,_,_,_,_,_,_,_,_,_,_,_,_,_,_,_,_,_,_,_,_,_,_,_,_,_] [(31,0,_)]) (oc (g_fd (fdS1 _))<|oc (g_lo 0 1 uN iN)<|oc g_mv<|oc (g_cv (first:=[]) ent_N4 (fun fZ uZ kZ sZ=>Xr 7 uZ (by omega) (by omega)))<|oc (g_bn (fun uZ=>eql_n _ _ (In_s:In 7) (In_s:In 7) true (by decide) uZ))<|oc g_mv<|oc (g_fd (fdS2 _))<|oc (g_lo 0 5 uN iN)<|oc g_mv<|oc (g_cv (first:=[]) ent_N4 (fun fZ uZ kZ sZ=>Xr 19 uZ (by omega) (by omega)))<|oc (g_bn (fun uZ=>eql_n _ _ (In_s:In 19) (In_s:In 19) true (by decide) uZ))<|oc g_pk<|oc g_mv<|oc g_mv<|oc (g_bn (fun uZ=>T4 _ _ _ 0 0 _ uZ rfl))<|oc g_pk<|oc g_mv<|oc g_mv<|oc (g_bn (fun uZ=>T4 _ _ _ 0 0 _ uZ rfl))<|oc g_pk<|oc g_mv<|oc g_mv<|oc (g_bn (fun uZ=>T4 _ _ _ 0 0 _ uZ rfl))<|oc g_pk<|oc g_mv<|oc (g_cl ent_N1 cThe)<|oc (g_ld 1 Tryz.underlying30 Zp)<|oc (g_ld 2 Tryz.underlying35 Zb)<|oc (g_cb ent_N3 (fun uZ bZ=>by have h:=hV.verify uZ (Zg hT6 bZ) P0 Q0 4 H0 1 2 8 19 (cmS P0 Q0 4 H0 [3,2] [5,7]) _ In_P0' In_Q0' In_n4 In_H0 (by omega) (by omega) In_s In_s (ny_0.up bZ) (cm_In In_P0' is4 isH0) (by rw[Ul];decide);rw[w_v8] at h;exact h))<|oc (g_bn (fun uZ=>T4 _ _ _ 100 100 _ uZ rfl))<|oc g_pk<|oc g_as on) fun u5 HB5 _ K5=>?_
  simp only[sQ] at K5⊢
  go_wp2
  exact bodyPost_ret (v:= .bool true) (by simp[results,Tryz.results15,go_sem]) rfl ⟨rfl,Zg hT6 HB5⟩
end
section
def UN(q a:Int):Prop:= ∃b,q∣b*a -1
theorem UN.one(q:Int):UN q 1:=⟨1,⟨0,by simp⟩⟩
theorem UN.mul{q a b:Int}(ha:UN q a)(hb:UN q b):UN q (a*b):=by
 obtain⟨x,k,hx⟩:=ha
 obtain⟨y,m,hy⟩:=hb
 exact⟨x*y,k*(y*b)+m,by grind⟩
theorem UN.mod{q a:Int}(h:UN q a):UN q (a%q):=by
 obtain⟨x,k,hx⟩:=h
 have e:=Int.emod_add_mul_ediv a q
 exact⟨x,k -x*(a/q),by grind⟩
theorem UN.neg{q a:Int}(h:UN q a):UN q (-a):=by
 obtain⟨x,k,hx⟩:=h
 exact⟨-x,k,by grind⟩
theorem UN.inv{q a:Int}(hq:0<q)(h:UN q a): ∃v,IsInv (a%q) q v:=by
 obtain⟨x,k,hx⟩:=h
 have e:=Int.emod_add_mul_ediv a q
 have e2:=Int.emod_add_mul_ediv x q
 refine⟨x%q,Int.emod_nonneg _ (by omega),Int.emod_lt_of_pos _ hq,⟨k -(x/q)*a -(x%q)*(a/q),?_⟩⟩
 generalize a%q=r at *
 generalize a/q=s at *
 generalize x%q=u at *
 generalize x/q=v at *
 grind
theorem ds_un{q:Int}{xs:List Int}{i:Nat}(h: ∀j,j<xs.length->j≠i->UN q (xs.getD i 0 -xs.getD j 0)): ∀j,j<=xs.length->UN q (dsN q xs i j)
 | 0,_=>UN.one q
 | j+1,hj=>by
  rw[dsN];split
  ·exact ds_un h j (by omega)
  ·next e=>exact((ds_un h j (by omega)).mul (h j (by omega) e).mod).mod
theorem list_of2{p:Nat->Int->Prop}: ∀n,(∀i,i<n-> ∃z,p i z)-> ∃ns:List Int,ns.length=n/\ ∀i,i<n->p i (ns.getD i 0)
 | 0,_=>⟨[],rfl,fun i hi=>by omega⟩
 | n+1,h=>by
  obtain⟨ns,hl,hp⟩:=list_of2 n (fun i hi=>h i (by omega))
  obtain⟨z,hz⟩:=h n (by omega)
  refine⟨ns++[z],by simp[hl],fun i hi=>?_⟩
  by_cases e:i=n
  ·subst e
   have:(ns++[z]).getD i 0=z:=by rw[<-hl];simp
   rw[this];exact hz
  ·have:(ns++[z]).getD i 0=ns.getD i 0:=by simp[List.getElem?_append_left (show i<ns.length by omega)]
   rw[this];exact hp i (by omega)
theorem invs_ex{q:Int}(hq:0<q){xs:List Int}(h: ∀i j,i<xs.length->j<xs.length->j≠i->UN q (xs.getD i 0 -xs.getD j 0)): ∃vs,Invs q xs vs:=by
 obtain⟨vs,hl,hv⟩:=list_of2 (p:=fun i z=>IsInv (dsN q xs i xs.length%q) q z) xs.length (fun i hi=>(ds_un (fun j hj hne=>h i j hi hj hne) xs.length (Nat.le_refl _)).inv hq)
 exact⟨vs,hl,hv⟩
abbrev OQ:Int:=581039633
theorem OQ_small: ∀d:Fin 64,d.val≠0->gI OQ (d.val:Int)=1:=by decide+kernel
theorem un_small{d:Int}(h0:d≠0)(h1: -64<d)(h2:d<64):UN OQ d:=by
 have key: ∀e:Int,0<e->e<64->UN OQ e:=fun e he h=>by
  have hg:=OQ_small ⟨e.toNat,by omega⟩ (by show e.toNat≠0;omega)
  have he2:((e.toNat:Nat):Int)=e:=Int.toNat_of_nonneg (by omega)
  rw[show (((⟨e.toNat,by omega⟩:Fin 64).val:Nat):Int)=e from he2] at hg
  obtain⟨x,hx⟩:=IsInv.ex (m:=OQ) (a:=e) (by omega) (by unfold OQ;omega) hg
  exact⟨x,hx.2.2⟩
 by_cases hp:0<d
 ·exact key d hp h2
 ·have:=(key (-d) (by omega) (by omega)).neg
  rwa [Int.neg_neg] at this
def Apart(xs:List Int):Prop:=xs.Nodup/\ ∀x∈xs,1<=x/\x<64
theorem Apart.invs{xs:List Int}(h:Apart xs): ∃vs,Invs OQ xs vs:=by
 refine invs_ex (by decide) fun i j hi hj hne=>?_
 have ei:xs.getD i 0=xs[i]:=by simp[List.getElem?_eq_getElem hi]
 have ej:xs.getD j 0=xs[j]:=by simp[List.getElem?_eq_getElem hj]
 rw[ei,ej]
 have hi2:=h.2 _ (List.getElem_mem hi)
 have hj2:=h.2 _ (List.getElem_mem hj)
 have hn:xs[i]≠xs[j]:=by
  have hp:=List.pairwise_iff_getElem.1 h.1
  rcases Nat.lt_or_gt_of_ne hne with hlt | hlt
  ·exact fun e=>hp j i hj hi hlt e.symm
  ·exact hp i j hi hj hlt
 exact un_small (by omega) (by omega) (by omega)
end
section
open Go.RowKit
def flS:List (Int×Int×Int)->List Value
 | []=>[]
 | x::l=>SE x.1 x.2.1 x.2.2++flS l
theorem flS_len: ∀l,(flS l).length=9*l.length
 | []=>rfl
 | x::l=>by rw[flS,List.length_append,flS_len l,List.length_cons];show 9+9*l.length=9*(l.length+1);omega
def ShL(u:World)(v:Value)(l:List (Int×Int×Int)):Prop:= ∃sl gb go cap,v= .slice sl l.length cap/\l.length<=cap/\(sl=none->cap=0)/\(l=[]\/sl=some ⟨gb,go,none⟩)/\(l.length=0\/gb<u.heap.size)/\ ∀j v,(flS l)[j]?=some v->u.cell? ⟨gb,go+j,none⟩=some v
theorem ShL.up{w u:World}{v:Value}{l:List (Int×Int×Int)}(h:ShL w v l)(hB:Bw w u):ShL u v l:=by
 obtain⟨sl,gb,go,cap,h1,h2,h3,h4,h5,h6⟩:=h
 refine⟨sl,gb,go,cap,h1,h2,h3,h4,h5.imp id fun e=>Nat.lt_of_lt_of_le e hB.size,fun j v hj=>?_⟩
 rcases h5 with h5 | h5
 ·rw[List.eq_nil_of_length_eq_zero h5] at hj;simp[flS] at hj
 ·exact(hB.cell (p:=⟨gb,go+j,none⟩) h5).trans (h6 j v hj)
theorem sh_row{u:World}{b m c:Nat}{l:List (Int×Int×Int)}{zs:List Value}(hb:b<u.heap.size)(h:CV u b (flS l++zs))(hm:l.length=m)(hc:m<=c):ShL u (.slice (some ⟨b,0,none⟩) m c) l:=by
 subst hm
 refine⟨_,b,0,c,rfl,hc,(by simp),.inr rfl,.inr hb,fun j v hj=>?_⟩
 rw[Nat.zero_add]
 exact(h j v (by rw[List.getElem?_append_left (List.getElem?_eq_some_iff.1 hj).1];exact hj)).1
theorem infoSh:(Tryz.prog.info? 35).map (fun i=>(i.zero,i.size,i.bytes))=some (some SZ,9,72):=by kernel_rfl
def opS(l:List (Int×Int×Int)):List (Int×Int):=l.map fun x=>(x.1,x.2.1)
def opT(l:List (Int×Int×Int)):List (Int×Int):=l.map fun x=>(x.1,x.2.2)
structure VOP(w:World):Prop where
 opn: ∀u,Bw w u-> ∀(p q g h:Int) (l:List (Int×Int×Int)) (v:Value) (vs:List Int),gOk p q->In p->In q->In g->In h->ShL u v l->1<=l.length->l.length<=16->(∀x∈l,(1<=x.1/\x.1<=16)/\In x.2.1/\In x.2.2)->Invs q (l.map (·.1)) vs->CC 25 #[GX p q g h,v] u (.tuple #[NV (smN q (fac q 0 (l.map (·.1)) vs) (opS l) l.length),NV (smN q (fac q 0 (l.map (·.1)) vs) (opT l) l.length),iI 0])
 nought: ∀u,Bw w u-> ∀(d:Int) (ns:List Int) (v:Value),NL u v ns->(∀z∈ns,In z)->ns.length<=7->CC 23 #[DX d v] u (.bool (noB ns))
theorem VOP.up{w u:World}(h:VOP w)(hB:Bw w u):VOP u:=⟨fun v hv=>h.opn v (Zg hB hv),fun v hv=>h.nought v (Zg hB hv)⟩
theorem Xz:EnT 53:=fun _ _=>by kernel_rfl
theorem flt_sn: ∀(ps:List (Int×Int)) (x y:Int),flN (flt (ps++[(x,y)]))=flN (flt ps)++(LN x++LN y)
 | [],x,y=>by simp[flt,flN]
 | p::l,x,y=>by simp[flt,flN,flt_sn l x y]
theorem pl_rw{u:World}{b m c:Nat}{ps:List (Int×Int)}{zs:List Value}(hb:b<u.heap.size)(h:CV u b (flN (flt ps)++zs))(hm:ps.length=m)(hc:m<=c):PtL u (.slice (some ⟨b,0,none⟩) m c) ps:=by
 subst hm
 refine⟨_,b,0,c,rfl,hc,(by simp),.inr rfl,.inr hb,fun j v hj=>?_⟩
 rw[Nat.zero_add]
 exact(h j v (by rw[List.getElem?_append_left (List.getElem?_eq_some_iff.1 hj).1];exact hj)).1
theorem ixSh(g o n cap j:Nat)(h:j<n)(w:World):(Instr.indexAt 48 (.slice (some ⟨g,o,none⟩) n cap) (iI j)).run Tryz.prog w= .ok (.pointer (some ⟨g,o+9*j,none⟩)) w:=by
 have hj:(j:Int)<n:=by omega
 go_simp
 all_goals first | omega | (simp[Addr.add];omega) | simp[Addr.add,Nat.mul_comm]
theorem flS_at: ∀(l:List (Int×Int×Int)) (j:Nat),j<l.length->flS l=flS (l.take j)++SE (l.getD j (0,0,0)).1 (l.getD j (0,0,0)).2.1 (l.getD j (0,0,0)).2.2++flS (l.drop (j+1))
 | [],j,h=>by simp at h
 | x::l,0,h=>by simp[flS]
 | x::l,j+1,h=>by
  have:=flS_at l j (by simpa using h)
  simp only[List.take_succ_cons,List.drop_succ_cons,List.getD_cons_succ,flS,List.append_assoc] at this⊢
  rw[this]
theorem sh_pt{w:World}{g o:Nat}{l:List (Int×Int×Int)}(h: ∀j v,(flS l)[j]?=some v->w.cell? ⟨g,o+j,none⟩=some v)(j:Nat)(hj:j<l.length):w.rangeAt g (o+9*j) (SE (l.getD j (0,0,0)).1 (l.getD j (0,0,0)).2.1 (l.getD j (0,0,0)).2.2):=fun c v hc=>by
 have:=h (9*j+c) v (by rw[flS_at l j hj];exact mid_at (by rw[flS_len,List.length_take];omega) c v hc)
 rwa [<-Nat.add_assoc] at this
def ndsB(l:List (Int×Int×Int)):Bool:=l.all fun x=>ndB x.1
theorem nds_get{l:List (Int×Int×Int)}:ndsB l=true↔ ∀k,k<l.length->ndB (l.getD k (0,0,0)).1=true:=by
 unfold ndsB
 rw[List.all_eq_true]
 constructor
 ·exact fun h k hk=>h _ (by simp[List.getElem?_eq_getElem hk])
 ·intro h x hx
  obtain⟨k,hk,rfl⟩:=List.mem_iff_getElem.1 hx
  have:=h k hk
  simpa [List.getElem?_eq_getElem hk] using this
theorem vhave_core(r:Bool)(sl:Option Addr)(gb go cap:Nat)(l:List (Int×Int×Int))(w:World)(hix:Hid (∀j,j<l.length-> ∀W,(Instr.indexAt 48 (.slice sl l.length cap) (iI j)).run Tryz.prog W= .ok (.pointer (some ⟨gb,go+9*j,none⟩)) W))(hg:l.length=0\/gb<w.heap.size)(hS:Hid (∀j,j<l.length->w.rangeAt gb (go+9*j) (SE (l.getD j (0,0,0)).1 (l.getD j (0,0,0)).2.1 (l.getD j (0,0,0)).2.2)))(hl0:l.length<=1000)(hyes:Hid ((∀k,k<l.length->ndB (l.getD k (0,0,0)).1=true)->r=true))(hno:Hid (∀k,k<l.length->ndB (l.getD k (0,0,0)).1=false->r=false)):
 CC 53 #[.slice sl l.length cap] w (.bool r):=by
 go_enter Tryz.func53,Tryz.ntmps53
 have HB0:Bw w w:=Below.refl _ _
 have K0_1:=Bk.nil (w.heap.size) w
 go_upto_region 1 with fail
 refine Rn K0_1 HB0 (cG 0 5 [_,_,_] []) (oc g_mv<|oc (g_ln Tryz.underlying48)<|oc g_mv on) fun u1 HB1 _ K1=>?_
 simp only[sQ] at K1⊢
 go_wp2_with fail
 go_loopw [7] (fun s7 wr=> ∃(k:Nat),k<=l.length/\s7=iI (k:Int)/\Bw w wr/\Hid (∀j,j<k->ndB (l.getD j (0,0,0)).1=true)) (fun s7 _=>l.length -(intOf s7).toNat)
 case atStart=>exact⟨0,by omega,rfl,HB1,(fun j h=>by omega)⟩
 case round=>
  obtain⟨k,hk,rfl,HBr,hall⟩:=hrel
  by_cases hj:k<l.length
  ·have hl:decide ((k:Int)<(l.length:Int))=true:=by simp;omega
   have hX:=hix.out _ hj
   have hX:Hid _:=hX
   have hR:=hS.out _ hj
   have hR:Hid _:=hR
   have hg':=hg.resolve_left (by omega)
   have hr1:=hno.out k hj
   have hr0:Hid (ndB (l.getD k (0,0,0)).1=true-> ∀j,j<k+1->ndB (l.getD j (0,0,0)).1=true):=fun e j hjk=>by
    by_cases ej:j=k
    ·subst ej;exact e
    ·exact hall.out j (by omega)
   have hN:Hid (∀u,CC 35 #[iI (l.getD k (0,0,0)).1] u (.bool (ndB (l.getD k (0,0,0)).1))):=fun u=>vNode _ u
   obtain⟨n,en⟩: ∃n,(l.getD k (0,0,0)).1=n:=⟨_,rfl⟩
   obtain⟨s,es⟩: ∃n,(l.getD k (0,0,0)).2.1=n:=⟨_,rfl⟩
   obtain⟨t,et⟩: ∃n,(l.getD k (0,0,0)).2.2=n:=⟨_,rfl⟩
   rw[en,es,et] at hR
   rw[en] at hr1 hr0 hN
   clear en es et
   by_cases hb:ndB n=true
   ·rw[hb] at hN
    have K1_2:=Bk.nil (w.heap.size) wr
    go_upto_region 2 with fail
    refine Rn K1_2 HBr [(0,8,_)] (oc (g_bn (fun uZ=>Z6 _ _ (k:Int) (l.length:Int) _ uZ hl)) on) fun u2 HB2 sz2 K2=>?_
    simp only[sQ] at K2⊢
    go_upto_region 3 with fail
    refine Rp K2 HB2 [] [(2,4,L0h,some (3,SE n s t))] [(0,9,_),(1,10,_)] [(3,2)] [] [] (oc (g_ix hX.out)<|oc (g_lf hR.out hg' Tryz.underlying35 Zb)<|oc (g_al 0 X7)<|oc (g_sn 0 Zb) on) fun u3 b3_2 HB3 sz3 K3=>?_
    simp only[sQ] at K3⊢
    go_upto_region 4 with fail
    refine Rn K3 HB3 (cG 0 11 [_,_,_,_] []) (oc (g_fd (fdS0 _))<|oc (g_lc 0 0 lI)<|oc (g_cl Zj hN.out)<|oc (g_un Vj) on) fun u4 HB4 sz4 K4=>?_
    simp only[sQ] at K4⊢
    go_upto_region 6 with fail
    refine Rp K4 HB4 [] [] [(0,15,_),(1,7,_)] [(1,0)] [(1,7)] [] (oc (g_bn (fun uZ=>Zm _ _ (k:Int) 1 ((k+1:Nat):Int) uZ (by omega) (by omega) (by omega)))<|oc g_mv on) fun u5 HB5 sz5 K5=>?_
    simp only[sQ] at K5⊢
    go_wp2
    refine⟨⟨k+1,by omega,rfl,HB5,hr0.out hb⟩,?_⟩
    simp[intOf]<;>omega
   ·rw[Bool.not_eq_true] at hb
    rw[hb] at hN
    have K1_2:=Bk.nil (w.heap.size) wr
    go_upto_region 2 with fail
    refine Rn K1_2 HBr [(0,8,_)] (oc (g_bn (fun uZ=>Z6 _ _ (k:Int) (l.length:Int) _ uZ hl)) on) fun u2 HB2 sz2 K2=>?_
    simp only[sQ] at K2⊢
    go_upto_region 3 with fail
    refine Rp K2 HB2 [] [(2,4,L0h,some (3,SE n s t))] [(0,9,_),(1,10,_)] [(3,2)] [] [] (oc (g_ix hX.out)<|oc (g_lf hR.out hg' Tryz.underlying35 Zb)<|oc (g_al 0 X7)<|oc (g_sn 0 Zb) on) fun u3 b3_2 HB3 sz3 K3=>?_
    simp only[sQ] at K3⊢
    go_upto_region 4 with fail
    refine Rn K3 HB3 (cG 0 11 [_,_,_,_] []) (oc (g_fd (fdS0 _))<|oc (g_lc 0 0 lI)<|oc (g_cl Zj hN.out)<|oc (g_un Ue) on) fun u4 HB4 sz4 K4=>?_
    simp only[sQ] at K4⊢
    go_upto_region 5 with fail
    refine Rn K4 HB4 [(0,2,_)] (oc g_as on) fun u5 HB5 sz5 K5=>?_
    simp only[sQ] at K5⊢
    go_wp2
    obtain rfl:=hr1 hb
    exact bodyPost_ret (v:= .bool false) (by simp[results,Tryz.results53,go_sem]) rfl ⟨rfl,HB5⟩
  ·have hl:decide ((k:Int)<(l.length:Int))=false:=by simp;omega
   have hk0:=hyes.out fun j hj2=>hall.out j (by omega)
   have K1_2:=Bk.nil (w.heap.size) wr
   go_upto_region 2 with fail
   refine Rn K1_2 HBr [(0,8,_)] (oc (g_bn (fun uZ=>Z6 _ _ (k:Int) (l.length:Int) _ uZ hl)) on) fun u2 HB2 sz2 K2=>?_
   simp only[sQ] at K2⊢
   go_upto_region 7 with fail
   refine Rn K2 HB2 [(0,2,_)] (oc g_as on) fun u3 HB3 sz3 K3=>?_
   simp only[sQ] at K3⊢
   go_wp2
   subst hk0
   exact bodyPost_ret (v:= .bool true) (by simp[results,Tryz.results53,go_sem]) rfl ⟨rfl,HB3⟩
theorem sh_ix{l:List (Int×Int×Int)}{sl:Option Addr}{gb go cap:Nat}(h:l=[]\/sl=some ⟨gb,go,none⟩): ∀j,j<l.length-> ∀W,(Instr.indexAt 48 (.slice sl l.length cap) (iI j)).run Tryz.prog W= .ok (.pointer (some ⟨gb,go+9*j,none⟩)) W:=fun j hj W=>by
 have e:=h.resolve_left (fun e=>by subst e;simp at hj)
 subst e
 exact ixSh gb go l.length cap j hj W
theorem vHave(l:List (Int×Int×Int))(v:Value)(w:World)(hv:ShL w v l)(hl:l.length<=1000):CC 53 #[v] w (.bool (ndsB l)):=by
 obtain⟨sl,gb,go,cap,rfl,h2,h3,h4,h5,h6⟩:=hv
 refine vhave_core _ sl gb go cap l w (sh_ix h4) h5 (sh_pt h6) hl (fun h=>nds_get.2 h) (fun k hk h=>?_)
 rw[Bool.eq_false_iff]
 intro e
 rw[nds_get.1 e k hk] at h
 cases h
theorem bsP1(x y:Int)(w:World):(Instr.buildSlice 73 1 #[(0,PtX x y)]).run Tryz.prog w= .ok (.slice (some ⟨w.heap.size,0,none⟩) 1 1) (w.alloc (.cells (LN x++LN y:List Value).toArray 102)):=by kernel_rfl
theorem CV.grow{u u2:World}{r:Option Nat}{c:Nat}{l:List Value}(h:CV u c l)(hg:u.grownBy u2 r)(hc:c<u.heap.size)(hne:some c≠r):CV u2 c l:=fun j v hj=>by
 have e:=hg.block c hc hne
 rw[World.cell?_of_block (a:=⟨c,j,none⟩) e,World.frozen?_of_block (a:=⟨c,j,none⟩) e]
 exact h j v hj
def QP(lo m:Nat)(ps:List (Int×Int))(b:Nat)(u:World)(v:Value):Prop:=ps.length=m/\((m=0/\v= .slice none 0 0)\/(0<m/\lo<=b/\ ∃co zs,v= .slice (some ⟨b,0,none⟩) m co/\b<u.heap.size/\m<=co/\zs.length=8*(co -m)/\CV u b (flN (flt ps)++zs)))
theorem QP.stab{lo m b:Nat}{ps:List (Int×Int)}{u u2:World}{v:Value}(h:QP lo m ps b u v)(hB:Bw u u2):QP lo m ps b u2 v:=by
 obtain⟨h1,h3⟩:=h
 refine⟨h1,h3.imp id ?_⟩
 rintro⟨h0,h2,co,zs,e,g1,g2,g3,g4⟩
 exact⟨h0,h2,co,zs,e,Nat.lt_of_lt_of_le g1 hB.size,g2,g3,g4.below hB g1⟩
theorem QP.grow{lo m c:Nat}{r:Option Nat}{ps:List (Int×Int)}{u u2:World}{v:Value}(h:QP lo m ps c u v)(hg:u.grownBy u2 r)(hne:0<m->some c≠r):QP lo m ps c u2 v:=by
 obtain⟨h1,h3⟩:=h
 refine⟨h1,h3.imp id ?_⟩
 rintro⟨h0,h2,co,zs,e,g1,g2,g3,g4⟩
 exact⟨h0,h2,co,zs,e,Nat.lt_of_lt_of_le g1 hg.size,g2,g3,g4.grow hg g1 (hne h0)⟩
theorem QP.lt{lo m c:Nat}{ps:List (Int×Int)}{u:World}{v:Value}(h:QP lo m ps c u v)(h0:0<m):lo<=c/\c<u.heap.size:=by
 rcases h.2 with⟨h1,_⟩ | ⟨_,h2,_,_,_,h3,_⟩
 ·omega
 ·exact⟨h2,h3⟩
theorem QP.pl{lo m c:Nat}{ps:List (Int×Int)}{u:World}{v:Value}(h:QP lo m ps c u v):PtL u v ps:=by
 obtain⟨h1,h3⟩:=h
 rcases h3 with⟨h0,rfl⟩ | ⟨h0,h2,co,zs,rfl,g1,g2,g3,g4⟩
 ·obtain rfl:ps=[]:=List.eq_nil_of_length_eq_zero (by omega)
  exact⟨none,0,0,0,rfl,Nat.le_refl _,fun _=>rfl,.inl rfl,.inl rfl,SN.empty rfl⟩
 ·subst h1
  exact⟨_,c,0,co,rfl,g2,(by simp),.inr rfl,.inr g1,fun j v hj=>by
   rw[Nat.zero_add]
   exact(g4 j v (by rw[List.getElem?_append_left (List.getElem?_eq_some_iff.1 hj).1];exact hj)).1⟩
abbrev UP(x y:Int)(u:World):World:=u.alloc (.cells (LN x++LN y:List Value).toArray 102)
theorem app_q{u:World}{lo m b:Nat}{ps:List (Int×Int)}{v:Value}{x y:Int}{ty:TypeId}(h:QP lo m ps b u v)(hlo:lo<=u.heap.size)(hl:m<=1000000):
 ∃v' u' b',(Builtin.append_ #[73,73] ty #[v,.slice (some ⟨u.heap.size,0,none⟩) 1 1]).run Tryz.prog (UP x y u)= .ok v' u'/\(UP x y u).grownBy u' (if m=0 then none else some b)/\QP lo (m+1) (ps++[(x,y)]) b' u' v'/\((0<m/\b'=b)\/u.heap.size<b'):=by
 obtain⟨ti,hti,htm⟩:=Option.map_eq_some_iff.1 infoPt
 simp only[Prod.mk.injEq] at htm
 obtain⟨hzv,hsz,hby⟩:=htm
 have hss:(UP x y u).heap.size=u.heap.size+1:=by simp[UP]
 have hnew: ∀j v,(LN x++LN y)[j]?=some v->(UP x y u).cell? ⟨u.heap.size,j,none⟩=some v:=fun j v hj=>(CV.new u (LN x++LN y) 102 j v hj).1
 obtain⟨h1,h3⟩:=h
 rcases h3 with⟨rfl,rfl⟩ | ⟨h0,h2,co,zs,rfl,g1,g2,g3,g4⟩
 ·obtain rfl:ps=[]:=List.eq_nil_of_length_eq_zero h1
  obtain⟨v',w',hr,hB,b',cap,zs,rfl,k1,k2,k3,k4,k5⟩:=Wq (P:=Tryz.prog) (UP x y u) (ty:=ty) Tryz.underlying73 hti hzv (by rw[hsz];rfl) (lo:=(UP x y u).heap.size) (n:=0) (xs:=[]) (news:=LN x++LN y) (v:= .slice none 0 0) ⟨by simp,.inl ⟨rfl,rfl⟩⟩ (ad:=⟨u.heap.size,0,none⟩) (c:=1) (by rw[hsz];rfl) (fun j v hj=>by rw[Addr.add0];exact hnew j v hj) (Nat.le_refl _) (by rw[hby];omega) (by omega)
  rw[hsz] at k4
  refine⟨_,w',b',hr,Vs hB,⟨by simp,.inr ⟨by omega,by omega,cap,zs,rfl,k2,k3,by rw[k4];omega,?_⟩⟩,.inr (by omega)⟩
  rw[flt_sn];exact k5
 ·have hc2:CV (UP x y u) b (flN (flt ps)++zs):=g4.below (Z1 (Z5 u) _) g1
  obtain⟨v',u',hr,hg,b',cap,zs',rfl,k1,k2,k3,k4,k5⟩:=Vh (P:=Tryz.prog) (UP x y u) (ty:=ty) Tryz.underlying73 hti hzv (by rw[hsz];rfl) (base:=(UP x y u).heap.size) (n:=m) (cap:=co) (m:=1) (news:=LN x++LN y) (y:= .slice (some ⟨u.heap.size,0,none⟩) 1 1) hc2 (by omega) (by rw[hsz,Wb,Vl];omega) (by rw[hsz];omega) g2 (Nat.le_refl _) ⟨_,1,rfl,.inr ⟨_,rfl,fun j v hj=>by rw[Addr.add0];exact hnew j v hj⟩⟩ (by rw[hsz];rfl) (fun v hv=>by simp at hv;rcases hv with h | h | h | h | h | h | h | h<;>(subst h;rfl)) (by rw[hby];omega) (by omega)
  rw[hsz] at k4
  rw[if_neg (by omega)]
  refine⟨_,u',b',hr,hg,⟨by simp[h1],.inr ⟨by omega,by rcases k1 with e | e<;>omega,cap,zs',rfl,k2,k3,by rw[k4];omega,?_⟩⟩,k1.imp (fun e=>⟨h0,e⟩) (fun e=>by omega)⟩
  rw[flt_sn];exact k5
theorem vpoints_core(sl:Option Addr)(gb go cap:Nat)(l:List (Int×Int×Int))(w:World)(hix:Hid (∀j,j<l.length-> ∀W,(Instr.indexAt 48 (.slice sl l.length cap) (iI j)).run Tryz.prog W= .ok (.pointer (some ⟨gb,go+9*j,none⟩)) W))(hg:l.length=0\/gb<w.heap.size)(hS:Hid (∀j,j<l.length->w.rangeAt gb (go+9*j) (SE (l.getD j (0,0,0)).1 (l.getD j (0,0,0)).2.1 (l.getD j (0,0,0)).2.2)))(hl0:l.length<=1000)(hnds:Hid (∀k,k<l.length->0<=(l.getD k (0,0,0)).1/\(l.getD k (0,0,0)).1<=16)):
 Calls Tryz.prog 54 #[.slice sl l.length cap] w fun e' w'=> ∃v2 v3 b2 b3,e'= .returned (.tuple #[v2,v3])/\QP w.heap.size l.length (opS l) b2 w' v2/\QP w.heap.size l.length (opT l) b3 w' v3/\(0<l.length->b2≠b3)/\Bw w w':=by
 have hb1:=bsP1
 go_enter Tryz.func54,Tryz.ntmps54
 go_wp2_with fail
 go_loopw [9,2,3] (fun s9 s2 s3 wr=> ∃(i b2 b3:Nat) (v2 v3:Value),i<=l.length/\s9=iI (i:Int)/\v2=s2/\v3=s3/\Hid (QP w.heap.size i ((opS l).take i) b2 wr v2)/\Hid (QP w.heap.size i ((opT l).take i) b3 wr v3)/\(0<i->b2≠b3)/\Bw w wr) (fun s9 _ _ _=>l.length -(intOf s9).toNat)
 case atStart=>exact⟨0,0,0,_,_,by omega,rfl,rfl,rfl,⟨by simp,.inl ⟨rfl,rfl⟩⟩,⟨by simp,.inl ⟨rfl,rfl⟩⟩,by omega,Below.refl _ _⟩
 case round=>
  obtain⟨i,b2,b3,y2,y3,hi,rfl,rfl,rfl,Q2,Q3,hne,HBr⟩:=hrel
  obtain⟨wo,rfl⟩: ∃x,x=wr:=⟨_,rfl⟩
  have HBw:Bw wo wo:=Below.refl _ _
  by_cases hj:i<l.length
  ·have hl:decide ((i:Int)<(l.length:Int))=true:=by simp;omega
   have hX:=hix.out _ hj
   have hX:Hid _:=hX
   have hg':=hg.resolve_left (by omega)
   have hR0:=hS.out _ hj
   have hR:Hid (wo.rangeAt gb (go+9*i) (SE (l.getD i (0,0,0)).1 (l.getD i (0,0,0)).2.1 (l.getD i (0,0,0)).2.2)):=fun c v hc=>(HBr.cell (p:=⟨gb,go+9*i+c,none⟩) hg').trans (hR0 c v hc)
   have hgo:=Nat.lt_of_lt_of_le hg' HBr.size
   have hnd:=hnds.out i hj
   have t2:Hid ((opS l).take (i+1)=(opS l).take i++[((l.getD i (0,0,0)).1,(l.getD i (0,0,0)).2.1)]):=by
    show (opS l).take (i+1)=_
    rw[List.take_add_one];simp[opS,List.getElem?_eq_getElem hj]
   have t3:Hid ((opT l).take (i+1)=(opT l).take i++[((l.getD i (0,0,0)).1,(l.getD i (0,0,0)).2.2)]):=by
    show (opT l).take (i+1)=_
    rw[List.take_add_one];simp[opT,List.getElem?_eq_getElem hj]
   obtain⟨n,en⟩: ∃n,(l.getD i (0,0,0)).1=n:=⟨_,rfl⟩
   obtain⟨s,es⟩: ∃n,(l.getD i (0,0,0)).2.1=n:=⟨_,rfl⟩
   obtain⟨t,et⟩: ∃n,(l.getD i (0,0,0)).2.2=n:=⟨_,rfl⟩
   rw[en,es,et] at hR
   rw[en] at hnd t2 t3
   rw[es] at t2
   rw[et] at t3
   clear en es et hR0
   have K0_1:=Bk.nil (wo.heap.size) wo
   go_upto_region 2 with fail
   refine Rn K0_1 HBw [(0,10,_)] (oc (g_bn (fun uZ=>Z6 _ _ (i:Int) (l.length:Int) _ uZ hl)) on) fun u1 HB1 sz1 K1=>?_
   simp only[sQ] at K1⊢
   go_upto_region 3 with fail
   refine Rp K1 HB1 [] [(2,5,L0h,some (3,SE n s t))] [(0,11,_),(1,12,_)] [(3,2)] [] [] (oc (g_ix hX.out)<|oc (g_lf hR.out hgo Tryz.underlying35 Zb)<|oc (g_al 0 X7)<|oc (g_sn 0 Zb) on) fun u2 b2_2 HB2 sz2 K2=>?_
   simp only[sQ] at K2⊢
   go_upto_region 4 with fail
   refine Rp K2 HB2 [] [(3,6,L0s,some (4,LN n))] (cG 0 13 [_,_,_] []) [(4,3)] [] [] (oc (g_fd (fdS0 _))<|oc (g_lc 0 0 lI)<|oc (g_cl Yx (fun uZ=>vNumber n uZ (by omega) (by omega)))<|oc (g_al 0 aN)<|oc (g_sn 0 iN) on) fun u3 b3_3 HB3 sz3 K3=>?_
   simp only[sQ] at K3⊢
   have HBu:=HB3
   have hq2:0<i->b2<wo.heap.size:=fun h=>(Q2.out.lt h).2
   have hq3:0<i->b3<wo.heap.size:=fun h=>(Q3.out.lt h).2
   have q2l:0<i->w.heap.size<=b2:=fun h=>(Q2.out.lt h).1
   have q3l:0<i->w.heap.size<=b3:=fun h=>(Q3.out.lt h).1
   obtain⟨b5,eb5⟩: ∃x,x=b2_2:=⟨_,rfl⟩
   obtain⟨b6,eb6⟩: ∃x,x=b3_3:=⟨_,rfl⟩
   have K5:CV u3 b5 (SE n s t):=by rw[eb5];exact(K3.cv 0)
   have K6:CV u3 b6 (LN n):=by rw[eb6];exact(K3.cv 1)
   have L5:b5<u3.heap.size:=by rw[eb5];exact(K3.lt 0)
   have L6:b6<u3.heap.size:=by rw[eb6];exact(K3.lt 1)
   have N5:wo.heap.size<=b5:=by rw[eb5];exact(K3.lo 0)
   have N6:wo.heap.size<=b6:=by rw[eb6];exact(K3.lo 1)
   rw[<-eb5,<-eb6]
   clear eb5 eb6
   have hsb:=HBu.size
   have hsr:=HBr.size
   replace Q2:=Q2.out.stab HBu
   replace Q3:=Q3.out.stab HBu
   have hTu:Bw w u3:=Zg HBr HBu
   obtain⟨v2,uc,c2,r2,rg2,Q2',hc2⟩:=app_q (ty:=73) (x:=n) (y:=s) Q2 (by omega) (by omega)
   have sz1:(UP n s u3).heap.size=u3.heap.size+1:=by simp[UP]
   have sz2:=rg2.size
   have Q3a:=(Q3.stab (Z1 (Z5 u3) (.cells (LN n++LN s:List Value).toArray 102))).grow rg2 (fun h e=>by
    rw[if_neg (by omega)] at e;exact hne h (Option.some.inj e).symm)
   have K5c:CV uc b5 (SE n s t):=(K5.below (Z1 (Z5 u3) (.cells (LN n++LN s:List Value).toArray 102)) L5).grow rg2 (by show b5<(UP n s u3).heap.size;omega) (fun e=>by
    by_cases h:i=0
    ·rw[if_pos h] at e;cases e
    ·rw[if_neg h] at e;have:=Option.some.inj e;have:=hq2 (by omega);omega)
   have K6c:CV uc b6 (LN n):=(K6.below (Z1 (Z5 u3) (.cells (LN n++LN s:List Value).toArray 102)) L6).grow rg2 (by show b6<(UP n s u3).heap.size;omega) (fun e=>by
    by_cases h:i=0
    ·rw[if_pos h] at e;cases e
    ·rw[if_neg h] at e;have:=Option.some.inj e;have:=hq2 (by omega);omega)
   obtain⟨v3,ud,c3,r3,rg3,Q3',hc3⟩:=app_q (ty:=73) (x:=n) (y:=t) Q3a (by omega) (by omega)
   have sz3:(UP n t uc).heap.size=uc.heap.size+1:=by simp[UP]
   have _:=rg3.size
   have hcl:=(Q2'.lt (by omega)).2
   have Q2b:=(Q2'.stab (Z1 (Z5 uc) (.cells (LN n++LN t:List Value).toArray 102))).grow rg3 (fun _ e=>by
    by_cases h:i=0
    ·rw[if_pos h] at e;cases e
    ·rw[if_neg h] at e
     have e:=Option.some.inj e
     have:=hq3 (by omega)
     rcases hc2 with⟨_,h2⟩ | h2
     ·exact hne (by omega) (by omega)
     ·omega)
   have hBd:Bw w ud:=by
    have h1:Bw w (UP n s u3):=Z1 hTu _
    have h2:Bw w uc:=h1.grown rg2 h1.size (fun k e=>by
     by_cases h:i=0
     ·rw[if_pos h] at e;cases e
     ·rw[if_neg h] at e;cases e;exact q2l (by omega))
    have h3:Bw w (UP n t uc):=Z1 h2 _
    exact h3.grown rg3 h3.size (fun k e=>by
     by_cases h:i=0
     ·rw[if_pos h] at e;cases e
     ·rw[if_neg h] at e;cases e;exact q3l (by omega))
   have hne':c2≠c3:=by
    rcases hc3 with⟨h0,h3⟩ | h3
    ·have:=hq3 h0
     rcases hc2 with⟨_,h2⟩ | h2
     ·intro e;exact hne h0 (by omega)
     ·omega
    ·omega
   have x0:=(K6 0 _ rfl).1
   have x1:=(K6 1 _ rfl).1
   have x2:=(K6 2 _ rfl).1
   have x3:=(K6 3 _ rfl).1
   have s1:=(K5 1 _ rfl).1
   have s2:=(K5 2 _ rfl).1
   have s3:=(K5 3 _ rfl).1
   have s4:=(K5 4 _ rfl).1
   have z0:=(K6c 0 _ rfl).1
   have z1:=(K6c 1 _ rfl).1
   have z2:=(K6c 2 _ rfl).1
   have z3:=(K6c 3 _ rfl).1
   have t5:=(K5c 5 _ rfl).1
   have t6:=(K5c 6 _ rfl).1
   have t7:=(K5c 7 _ rfl).1
   have t8:=(K5c 8 _ rfl).1
   have Q2b:Hid _:=Q2b
   have Q3':Hid _:=Q3'
   have e1:IntKind.i64.wrap ((i:Int)+1)=((i+1:Nat):Int):=by rw[IntKind.wrap_i64];omega
   clear Q2 Q3 Q3a Q2' K5 K6 K5c K6c rg2 rg3
   go_wp2_with (first
    | (at_builtin;refine Zz rfl _ _ 73 rfl _ _ _ rfl rfl r2 ?_;clear r2)
    | (at_builtin;refine Zz rfl _ _ 73 rfl _ _ _ rfl rfl r3 ?_;clear r3))
   refine⟨⟨i+1,c2,c3,_,_,by omega,by simp,rfl,rfl,by rw[t2.out];exact Q2b,by rw[t3.out];exact Q3',fun _=>hne',hBd⟩,?_⟩
   simp[intOf];omega
  ·have hl: ¬((i:Int)<(l.length:Int)):=by omega
   have hio:i=l.length:=by omega
   go_wp2_with fail
   refine bodyPost_ret (v:= .tuple #[y2,y3]) (by simp[results,Tryz.results54,go_sem]) rfl ⟨y2,y3,rfl,b2,?_,b3,?_,fun h=>hne (by omega),HBr⟩
   ·have:=Q2.out;rwa [hio,List.take_of_length_le (by simp[opS])] at this
   ·have:=Q3.out;rwa [hio,List.take_of_length_le (by simp[opT])] at this
theorem vPoints(sl:Option Addr)(cap:Nat)(l:List (Int×Int×Int))(w:World)(hv:ShL w (.slice sl l.length cap) l)(hl:l.length<=1000)(h1:1<=l.length)(hn:ndsB l=true):Calls Tryz.prog 54 #[.slice sl l.length cap] w fun e u=> ∃c2 c3 o2 o3 z2 z3,e= .returned (.tuple #[.slice (some ⟨c2,0,none⟩) l.length o2,.slice (some ⟨c3,0,none⟩) l.length o3])/\w.heap.size<=c2/\w.heap.size<=c3/\c2≠c3/\c2<u.heap.size/\c3<u.heap.size/\l.length<=o2/\l.length<=o3/\CV u c2 (flN (flt (opS l))++z2)/\CV u c3 (flN (flt (opT l))++z3)/\Bw w u:=by
 obtain⟨sl',gb,go,cap',e,h2,h3,h4,h5,h6⟩:=hv
 cases e
 refine(vpoints_core sl gb go cap l w (sh_ix h4) h5 (sh_pt h6) hl fun k hk=>by have:=ndB_iff.1 (nds_get.1 hn k hk);omega).mono ?_
 rintro e u ⟨v2,v3,b2,b3,rfl,q2,q3,hne,hB⟩
 obtain⟨q21,⟨q22,_⟩ | ⟨q22,q23,co,zs,rfl,q24,q25,q26,q27⟩⟩:=q2
 ·omega
 obtain⟨q31,⟨q32,_⟩ | ⟨q32,q33,co',zs',rfl,q34,q35,q36,q37⟩⟩:=q3
 ·omega
 exact⟨b2,b3,co,co',zs,zs',rfl,q23,q33,hne h1,q24,q34,q25,q35,q27,q37,hB⟩
theorem vopn_c(p q g h:Int)(sl:Option Addr)(cap:Nat)(l:List (Int×Int×Int))(w:World)(hC:Hid (∀u,CC 50 #[GX p q g h] u (iI 90))):
 CC 25 #[GX p q g h,.slice sl l.length cap] w (.tuple #[A4 0 0 0 0,A4 0 0 0 0,iI 90]):=by
 go_enter Tryz.func25,Tryz.ntmps25
 go_upto_region 1 with fail
 obtain⟨v0,hC,HB0,K0⟩:=bx3 w (GE p q g h) 26 L0s 24 L0s 24
 rw[hC]
 clear hC
 refine Rn K0 HB0 (cG 0 14 [_,_,_] [(3,13,_)]) (oc (g_ld 0 Tryz.underlying26 Z0)<|oc (g_cl Ux hC.out)<|oc (g_bn (fun uZ=>Zw _ _ _ 90 0 _ uZ rfl))<|oc g_as on) fun u1 HB1 _ K1=>?_
 simp only[sQ] at K1⊢
 go_upto_region 4 with fail
 refine Rp K1 HB1 [.no,.all 2 ([iU (0),iU (0),iU (0),iU (0)]),.all 3 ([iU (0),iU (0),iU (0),iU (0)])] [] [(0,30,_),(1,31,_),(4,6,_)] [] [] [] (oc (g_bd zN)<|oc (g_bd zN)<|oc (g_st 1 iN)<|oc (g_st 2 iN)<|oc g_as on) fun u2 HB2 _ K2=>?_
 simp only[sQ] at K2⊢
 have c4:=(K2.cv 1).n4
 have c5:=(K2.cv 2).n4
 go_wp2
 refine bodyPost_ret (v:= .tuple #[A4 0 0 0 0,A4 0 0 0 0,iI 90]) (by simp[results,Tryz.results25,go_sem,c4,c5]) rfl ⟨rfl,HB2⟩
theorem vopn_0(p q g h:Int)(sl:Option Addr)(cap:Nat)(l:List (Int×Int×Int))(w:World)(h1:((l.length:Int)==0)=true)(hC:Hid (∀u,CC 50 #[GX p q g h] u (iI 0))):
 CC 25 #[GX p q g h,.slice sl l.length cap] w (.tuple #[A4 0 0 0 0,A4 0 0 0 0,iI 2]):=by
 go_enter Tryz.func25,Tryz.ntmps25
 go_upto_region 1 with fail
 obtain⟨v0,hC,HB0,K0⟩:=bx3 w (GE p q g h) 26 L0s 24 L0s 24
 rw[hC]
 clear hC
 refine Rn K0 HB0 (cG 0 14 [_,_,_] [(3,13,_)]) (oc (g_ld 0 Tryz.underlying26 Z0)<|oc (g_cl Ux hC.out)<|oc (g_bn (fun uZ=>Zw _ _ _ 0 0 _ uZ rfl))<|oc g_as on) fun u1 HB1 _ K1=>?_
 simp only[sQ] at K1⊢
 go_upto_region 2 with fail
 refine Rn K1 HB1 (cG 0 18 [_,_,_,_,undef,undef,undef,_] [(8,17,_)]) (oc g_mv<|oc (g_ln Tryz.underlying48)<|oc (g_bn (fun uZ=>T4 _ _ _ (l.length:Int) 0 _ uZ h1))<|oc g_mv<|oc g_sk<|oc g_sk<|oc g_sk<|oc g_pk<|oc g_as on) fun u2 HB2 _ K2=>?_
 simp only[sQ] at K2⊢
 go_upto_region 5 with fail
 refine Rp K2 HB2 [.no,.all 2 ([iU (0),iU (0),iU (0),iU (0)]),.all 3 ([iU (0),iU (0),iU (0),iU (0)])] [] [(0,32,_),(1,33,_),(4,6,_)] [] [] [] (oc (g_bd zN)<|oc (g_bd zN)<|oc (g_st 1 iN)<|oc (g_st 2 iN)<|oc g_as on) fun u3 HB3 _ K3=>?_
 simp only[sQ] at K3⊢
 have c4:=(K3.cv 1).n4
 have c5:=(K3.cv 2).n4
 go_wp2
 refine bodyPost_ret (v:= .tuple #[A4 0 0 0 0,A4 0 0 0 0,iI 2]) (by simp[results,Tryz.results25,go_sem,c4,c5]) rfl ⟨rfl,HB3⟩
theorem vopn_n(p q g h:Int)(sl:Option Addr)(cap:Nat)(l:List (Int×Int×Int))(w:World)(h1:((l.length:Int)==0)=false)(h2:decide (256<(l.length:Int))=false)(hC:Hid (∀u,CC 50 #[GX p q g h] u (iI 0)))(hH:Hid (∀u,Bw w u->CC 53 #[.slice sl l.length cap] u (.bool false))):
 CC 25 #[GX p q g h,.slice sl l.length cap] w (.tuple #[A4 0 0 0 0,A4 0 0 0 0,iI 2]):=by
 go_enter Tryz.func25,Tryz.ntmps25
 go_upto_region 1 with fail
 obtain⟨v0,hC,HB0,K0⟩:=bx3 w (GE p q g h) 26 L0s 24 L0s 24
 rw[hC]
 clear hC
 refine Rn K0 HB0 (cG 0 14 [_,_,_] [(3,13,_)]) (oc (g_ld 0 Tryz.underlying26 Z0)<|oc (g_cl Ux hC.out)<|oc (g_bn (fun uZ=>Zw _ _ _ 0 0 _ uZ rfl))<|oc g_as on) fun u1 HB1 _ K1=>?_
 simp only[sQ] at K1⊢
 go_upto_region 2 with fail
 refine Rn K1 HB1 (cG 0 18 [_,_,_,_,_,_,_,_] [(8,17,_)]) (oc g_mv<|oc (g_ln Tryz.underlying48)<|oc (g_bn (fun uZ=>T4 _ _ _ (l.length:Int) 0 _ uZ h1))<|oc g_mv<|oc g_mv<|oc (g_ln Tryz.underlying48)<|oc (g_bn (fun uZ=>gtr_i _ _ (l.length:Int) 256 _ uZ h2))<|oc g_pk<|oc g_as on) fun u2 HB2 _ K2=>?_
 simp only[sQ] at K2⊢
 go_upto_region 3 with fail
 refine Rn K2 HB2 (cG 0 27 [_,_,_] [(3,26,_)]) (oc g_mv<|oc (g_cb Xz hH.out)<|oc (g_un Ue)<|oc g_as on) fun u3 HB3 _ K3=>?_
 simp only[sQ] at K3⊢
 go_upto_region 5 with fail
 refine Rp K3 HB3 [.no,.all 2 ([iU (0),iU (0),iU (0),iU (0)]),.all 3 ([iU (0),iU (0),iU (0),iU (0)])] [] [(0,32,_),(1,33,_),(4,6,_)] [] [] [] (oc (g_bd zN)<|oc (g_bd zN)<|oc (g_st 1 iN)<|oc (g_st 2 iN)<|oc g_as on) fun u4 HB4 _ K4=>?_
 simp only[sQ] at K4⊢
 have c4:=(K4.cv 1).n4
 have c5:=(K4.cv 2).n4
 go_wp2
 refine bodyPost_ret (v:= .tuple #[A4 0 0 0 0,A4 0 0 0 0,iI 2]) (by simp[results,Tryz.results25,go_sem,c4,c5]) rfl ⟨rfl,HB4⟩
theorem vopn(p q g h a b er f ra rb:Int)(sl:Option Addr)(cap:Nat)(l:List (Int×Int×Int))(w:World)(h1:((l.length:Int)==0)=false)(h2:decide (256<(l.length:Int))=false)(hE1:Hid ((er !=0)=true->ra=0/\rb=0))(hE0:Hid ((er !=0)=false->ra=a/\rb=b/\er=0))(hC:Hid (∀u,CC 50 #[GX p q g h] u (iI 0)))(hH:Hid (∀u,Bw w u->CC 53 #[.slice sl l.length cap] u (.bool true)))(hP:Hid (∀u,Bw w u->Calls Tryz.prog 54 #[.slice sl l.length cap] u fun e u'=> ∃c2 c3 o2 o3 z2 z3,e= .returned (.tuple #[.slice (some ⟨c2,0,none⟩) l.length o2,.slice (some ⟨c3,0,none⟩) l.length o3])/\u.heap.size<=c2/\u.heap.size<=c3/\c2≠c3/\c2<u'.heap.size/\c3<u'.heap.size/\l.length<=o2/\l.length<=o3/\CV u' c2 (flN (flt (opS l))++z2)/\CV u' c3 (flN (flt (opT l))++z3)/\Bw u u'))(hC1:Hid (∀(u:World) (c o:Nat) z,Bw w u->c<u.heap.size->l.length<=o->CV u c (flN (flt (opS l))++z)->CC 55 #[NV q,A4 0 0 0 0,.slice (some ⟨c,0,none⟩) l.length o] u (.tuple #[NV a,iI er])))(hC2:Hid (∀(u:World) (c o:Nat) z,Bw w u->c<u.heap.size->l.length<=o->CV u c (flN (flt (opT l))++z)->CC 55 #[NV q,A4 0 0 0 0,.slice (some ⟨c,0,none⟩) l.length o] u (.tuple #[NV b,iI f]))):
 CC 25 #[GX p q g h,.slice sl l.length cap] w (.tuple #[NV ra,NV rb,iI er]):=by
 go_enter Tryz.func25,Tryz.ntmps25
 go_upto_region 1 with fail
 obtain⟨v0,hC,HB0,K0⟩:=bx3 w (GE p q g h) 26 L0s 24 L0s 24
 rw[hC]
 clear hC
 refine Rn K0 HB0 (cG 0 14 [_,_,_] [(3,13,_)]) (oc (g_ld 0 Tryz.underlying26 Z0)<|oc (g_cl Ux hC.out)<|oc (g_bn (fun uZ=>Zw _ _ _ 0 0 _ uZ rfl))<|oc g_as on) fun u1 HB1 _ K1=>?_
 simp only[sQ] at K1⊢
 go_upto_region 2 with fail
 refine Rn K1 HB1 (cG 0 18 [_,_,_,_,_,_,_,_] [(8,17,_)]) (oc g_mv<|oc (g_ln Tryz.underlying48)<|oc (g_bn (fun uZ=>T4 _ _ _ (l.length:Int) 0 _ uZ h1))<|oc g_mv<|oc g_mv<|oc (g_ln Tryz.underlying48)<|oc (g_bn (fun uZ=>gtr_i _ _ (l.length:Int) 256 _ uZ h2))<|oc g_pk<|oc g_as on) fun u2 HB2 _ K2=>?_
 simp only[sQ] at K2⊢
 go_upto_region 3 with fail
 refine Rn K2 HB2 (cG 0 27 [_,_,_] [(3,26,_)]) (oc g_mv<|oc (g_cb Xz hH.out)<|oc (g_un Vj)<|oc g_as on) fun u3 HB3 _ K3=>?_
 simp only[sQ] at K3⊢
 have hTu:=HB3
 have J0:CV u3 (w.heap.size) (GE p q g h):=(K3.cv 0)
 have J4:CV u3 (w.heap.size+1) L0s:=(K3.cv 1)
 have J5:CV u3 (w.heap.size+1+1) L0s:=(K3.cv 2)
 have j5:w.heap.size+1+1<u3.heap.size:=(K3.lt 2)
 go_upto_region 6 with fail
 go_cut [7,8] (fun s7 s8 wx=> ∃c2 c3 o2 o3 z2 z3,s7= .slice (some ⟨c2,0,none⟩) l.length o2/\s8= .slice (some ⟨c3,0,none⟩) l.length o3/\u3.heap.size<=c2/\u3.heap.size<=c3/\c2≠c3/\c2<wx.heap.size/\c3<wx.heap.size/\l.length<=o2/\l.length<=o3/\CV wx c2 (flN (flt (opS l))++z2)/\CV wx c3 (flN (flt (opT l))++z3)/\Bw u3 wx)
 case first=>
  go_wp2_with (go_at_call 54;refine(hP.out u3 hTu).mono ?_;rintro e ub ⟨c2,c3,o2,o3,z2,z3,rfl,g1,g2,g3,g4,g5,g6,g7,g8,g9,gB⟩;have g8:Hid _:=g8;have g9:Hid _:=g9)
  go_meet
  exact⟨c2,c3,o2,o3,z2,z3,rfl,rfl,g1,g2,g3,g4,g5,g6,g7,g8.out,g9.out,gB⟩
 case rest=>
  obtain⟨c2,c3,o2,o3,z2,z3,rfl,rfl,g1,g2,g3,g4,g5,g6,g7,g8,g9,gB⟩:=hcut
  have hTw:Bw w wc:=Zg hTu gB
  have R0:=CV.below J0 gB (by omega)
  have R4:=CV.below J4 gB (by omega)
  have R5:=CV.below J5 gB j5
  have gsz:=gB.size
  have i0:w.heap.size<wc.heap.size:=by omega
  have i4:w.heap.size+1<wc.heap.size:=by omega
  have i5:w.heap.size+1+1<wc.heap.size:=by omega
  clear J0 J4 J5
  have K3_1:Bk w.heap.size wc [(false,w.heap.size,GE p q g h),(true,w.heap.size+1,L0s),(true,w.heap.size+1+1,L0s),(false,c2,flN (flt (opS l))++z2),(false,c3,flN (flt (opT l))++z3)]:=⟨.c i0 R0<| .o i4 (by omega) R4<| .o i5 (by omega) R5<| .c g4 g8<| .c g5 g9<|trivial,by simp<;>omega⟩
  go_upto_region 7 with fail
  refine Rp K3_1 hTw [] [(8,9,L0s,some (9,LN a))] (cG 0 40 [_,_,_,_,_] [(5,39,_),(6,45,_),(7,46,_),(10,10,_)]) [(9,8)] [] [] (oc (g_fd (fdG1 _))<|oc (g_lo 0 4 uN iN)<|oc (g_bd zN)<|oc g_mv<|oc (g_cK ent_V6 (fun fZ uZ kZ sZ bZ=>hC1.out uZ c2 o2 z2 bZ (kZ.lb sZ 3) g6 (kZ.cv 3)))<|oc g_mv<|oc g_ex<|oc g_ex<|oc (g_al 0 aN)<|oc (g_sn 0 iN)<|oc g_as on) fun u4 b4_8 HB4 _ K4=>?_
  simp only[sQ] at K4⊢
  cases he:(er !=0)
  ·skip
   go_upto_region 8 with fail
   refine Rn K4 HB4 [(0,47,_),(1,48,_)] (oc g_mv<|oc (g_bn (fun uZ=>Zw _ _ _ er 0 _ uZ he)) on) fun u5 HB5 sz5 K5=>?_
   simp only[sQ] at K5⊢
   go_upto_region 10 with fail
   refine Rp K5 HB5 [] [(8,11,L0s,some (9,LN b))] (cG 0 53 [_,_,_,_,_] [(5,52,_),(6,58,_),(7,59,_),(10,12,_)]) [(9,8)] [] [] (oc (g_fd (fdG1 _))<|oc (g_lo 0 4 uN iN)<|oc (g_bd zN)<|oc g_mv<|oc (g_cK ent_V6 (fun fZ uZ kZ sZ bZ=>hC2.out uZ c3 o3 z3 bZ (kZ.lb sZ 4) g7 (kZ.cv 4)))<|oc g_mv<|oc g_ex<|oc g_ex<|oc (g_al 0 aN)<|oc (g_sn 0 iN)<|oc g_as on) fun u6 b6_8 HB6 sz6 K6=>?_
   simp only[sQ] at K6⊢
   go_upto_region 11 with fail
   refine Rd K6 HB6 [.no,.all 2 (LN a),.all 3 (LN b)] [] [(0,60,_),(1,61,_),(4,6,_)] [] [] [] (oc (g_ld 5 uN iN)<|oc (g_ld 6 uN iN)<|oc (g_st 1 iN)<|oc (g_st 2 iN)<|oc g_as on) fun u7 HB7 _ K7=>?_
   simp only[sQ] at K7⊢
   have c4:=(K7.cv 1).n4
   have c5:=(K7.cv 2).n4
   go_wp2
   refine bodyPost_ret (v:= .tuple #[NV a,NV b,iI 0]) (by simp[results,Tryz.results25,go_sem,c4,c5]) rfl ⟨by obtain⟨ea,eb,ee⟩:=hE0.out he;rw[ea,eb,ee],HB7⟩
  ·skip
   go_upto_region 8 with fail
   refine Rn K4 HB4 [(0,47,_),(1,48,_)] (oc g_mv<|oc (g_bn (fun uZ=>Zw _ _ _ er 0 _ uZ he)) on) fun u5 HB5 sz5 K5=>?_
   simp only[sQ] at K5⊢
   go_upto_region 9 with fail
   refine Rp K5 HB5 [.no,.all 3 ([iU (0),iU (0),iU (0),iU (0)]),.all 4 ([iU (0),iU (0),iU (0),iU (0)])] [] (cG 0 49 [_,_,_] [(5,6,_)]) [] [] [] (oc (g_bd zN)<|oc (g_bd zN)<|oc g_mv<|oc (g_st 1 iN)<|oc (g_st 2 iN)<|oc g_as on) fun u6 HB6 sz6 K6=>?_
   simp only[sQ] at K6⊢
   have c4:=(K6.cv 1).n4
   have c5:=(K6.cv 2).n4
   go_wp2
   refine bodyPost_ret (v:= .tuple #[A4 0 0 0 0,A4 0 0 0 0,iI er]) (by simp[results,Tryz.results25,go_sem,c4,c5]) rfl ⟨by obtain⟨ea,eb⟩:=hE1.out he;rw[ea,eb,NV_0],HB6⟩
def PDl(lo:Nat)(d:Int)(ns:List Int)(u:World)(v:Value):Prop:= ∃y,v=DX d y/\NL u y ns/\ ∃b c,y= .slice (some ⟨b,0,none⟩) ns.length c/\lo<=b
theorem PDl.stab{lo:Nat}{d:Int}{ns:List Int}{u u2:World}{x:Value}(hB:Bw u u2)(h:PDl lo d ns u x):PDl lo d ns u2 x:=by
 obtain⟨y,e,h,h2⟩:=h
 exact⟨y,e,NL.up h hB,h2⟩
end
end Go.Proofs.YtmoimodkopjeeaaGreatDoor
