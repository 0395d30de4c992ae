import Derived.Test.YtmoimodkopjeeaaGreatDoorAKY
namespace Go.Proofs.YtmoimodkopjeeaaGreatDoor
set_option linter.unusedVariables false
set_option linter.unusedSimpArgs false
set_option maxRecDepth 100000
set_option maxHeartbeats 4000000
section
open Go.RowKit
theorem ent_Z1:EnT 106:=fun _ _=>by kernel_rfl
theorem ent_Z2:EnT 105:=fun _ _=>by kernel_rfl
theorem ent_Z3:EnT 104:=fun _ _=>by kernel_rfl
theorem ent_Z4:EnT 77:=fun _ _=>by kernel_rfl
theorem ent_Z5:EnT 78:=fun _ _=>by kernel_rfl
theorem ent_Z6:EnT 68:=fun _ _=>by kernel_rfl
theorem ent_Z7:EnT 76:=fun _ _=>by kernel_rfl
theorem pToldN(n:Int)(D:Nat)(v:Value)(w:World)(hG:GP w)(hv:AV n w D v):CC 68 #[v] w (iI n):=by
 obtain⟨w1,ew1⟩: ∃x,w.alloc (.cells #[iI 0] 31)=x:=⟨_,rfl⟩
 have hB1:Bw w w1:=by rw[<-ew1];exact Z1 (Z5 w) _
 have hs1:w1.heap.size=w.heap.size+1:=by rw[<-ew1];simp
 have ht:w1.cell? ⟨w.heap.size,0,none⟩=some (iI 0):=by rw[<-ew1];simp
 have hf:w1.frozen? ⟨w.heap.size,0,none⟩=false:=by rw[<-ew1];simp
 have hA:=cAs n ⟨w.heap.size,0,none⟩ (iI 0) v D w1 (hG.below hB1) (hv.up hB1) ht hf (by simp[hs1])
 clear ht hf
 obtain⟨T,x,rfl⟩:=hv.some
 clear hv
 go_enter Tryz.func68,Tryz.ntmps68
 go_wp2_with (go_at_call 96;refine hA.mono ?_;clear hA;rintro e ua ⟨rfl,hca,hBa⟩)
 exact bodyPost_ret (v:=iI n) (by simp[results,Tryz.results68,go_sem]) rfl ⟨rfl,hB1.trans hBa⟩
abbrev BZ:Value:= .agg L0b.toArray
theorem zB(w:World):(Instr.build 105 [].toArray).run Tryz.prog w= .ok BZ w:=by kernel_rfl
def sXb:ByteArray:=⟨#[88,32]⟩
def sDb:ByteArray:=⟨#[105,116,115,32,100,105,115,116,97,110,99,101,32,102,114,111,109,32,116,104,101,32,111,116,104,101,114,115,32,104,97,115,32,110,111,32,105,110,118,101,114,115,101]⟩
def noI(x:Int):Value:= .iface 143 (.agg #[.string (sXb++tx x),.iface 143 (.agg #[.string sDb,.iface 31 (iI 100)])])
def NLq(ns:List Int)(u:World)(v:Value):Prop:=NL u v ns
theorem NLq.stab{ns:List Int}{u u2:World}{x:Value}(hB:Bw u u2)(h:NLq ns u x):NLq ns u2 x:=NL.up h hB
theorem first_bad{P:Nat->Prop}: ∀n,(∃i,i<n/\ ¬P i)-> ∃j,j<n/\ ¬P j/\ ∀k,k<j->P k
 | 0,h=>by obtain⟨i,hi,_⟩:=h;omega
 | n+1,h=>by
  by_cases c: ∃i,i<n/\ ¬P i
  ·obtain⟨j,h1,h2,h3⟩:=first_bad n c
   exact⟨j,by omega,h2,h3⟩
  ·obtain⟨i,hi,hP⟩:=h
   have e:i=n:=Nat.le_antisymm (by omega) (Nat.le_of_not_lt fun hlt=>c ⟨i,hlt,hP⟩)
   subst e
   exact⟨i,hi,hP,fun k hk=>Classical.byContradiction fun hn=>c ⟨k,hk,hn⟩⟩
theorem baseOf_no(q x0:Int)(sl:Option Addr)(gb go cap j0:Nat)(ns vs:List Int)(w:World)(hq:In q)(hq0:q≠0)(hj0:j0<ns.length)(hx0:Hid (ns.getD j0 0=x0))(hbad:Hid (¬gI q (dsN q ns j0 ns.length%q)=1))(hgd:Hid (∀i,i<j0->gI q (dsN q ns i ns.length%q)=1))(hvl:Hid (vs.length=ns.length))(hvs:Hid (∀i,i<ns.length->gI q (dsN q ns i ns.length%q)=1->IsInv (dsN q ns i ns.length%q) q (vs.getD i 0)))(hix:Hid (∀j,j<ns.length-> ∀W,(Instr.indexAt 27 (.slice sl ns.length cap) (iI j)).run Tryz.prog W= .ok (.pointer (some ⟨gb,go+4*j,none⟩)) W))(hg:ns.length=0\/gb<w.heap.size)(hS:Hid (SN w gb go ns))(hn:Hid (∀k,k<ns.length->In (ns.getD k 0)))(hns:ns.length<=1000):
 CC 77 #[NV q,.slice sl ns.length cap] w (.tuple #[BZ,noI x0]):=by
 have hmk:=mkNt ns.length hns
 go_enter Tryz.func77,Tryz.ntmps77
 go_wp2_with fail
 go_loopw [16] (fun s16 wr=> ∃(k:Nat),k<=j0/\s16=iI (k:Int)/\Bw w wr/\CV wr (w.heap.size) (LN q)/\w.heap.size<wr.heap.size/\CV wr (w.heap.size+1) (L0b)/\w.heap.size+1<wr.heap.size/\CV wr (w.heap.size+1+1) (flN (rowN vs k))/\w.heap.size+1+1<wr.heap.size) (fun s16 _=>j0 -(intOf s16).toNat)
 case atStart=>exact⟨0,by omega,rfl,Z1 (Z1 (Z1 (Z5 w) _) _) _,((CV.new w (LN q) 24).below (Z1 (Z5 (w.alloc (.cells (LN q:List Value).toArray 24))) _) (by simp)).below (Z1 (Z5 ((w.alloc (.cells (LN q:List Value).toArray 24)).alloc (.cells (L0b:List Value).toArray 105))) _) (by simp<;>omega),by (simp<;>omega),(CV.newAt (w.alloc (.cells (LN q:List Value).toArray 24)) L0b 105 _ (by simp)).below (Z1 (Z5 ((w.alloc (.cells (LN q:List Value).toArray 24)).alloc (.cells (L0b:List Value).toArray 105))) _) (by simp<;>omega),by (simp<;>omega),by rw[rowN_0,hvl.out];exact CV.newAt ((w.alloc (.cells (LN q:List Value).toArray 24)).alloc (.cells (L0b:List Value).toArray 105)) _ _ _ (by simp),by (simp<;>omega)⟩
 case round=>
  obtain⟨k,hk,rfl,HBr,C0,lC0,C1,lC1,C2,lC2⟩:=hrel
  have hj:k<ns.length:=by omega
  have hl:decide ((k:Int)<(ns.length:Int))=true:=by simp;omega
  have hX:=hix.out _ hj
  have hX:Hid _:=hX
  have hR:=hS.out.at _ hj
  have hR:Hid _:=hR
  have iz:In (dsN q ns k ns.length):=dsN_In hq hq0 _
  have hD:Hid (∀u,Bw w u->CC 106 #[NV q,iI (k:Int),.slice sl ns.length cap] u (NV (dsN q ns k ns.length))):=fun u bZ=>Va q k sl gb go cap ns u hq hq0 hj hix (hg.imp id (fun h=>Nat.lt_of_lt_of_le h bZ.size)) (hS.out.below2 bZ hg) hn hns
  by_cases hk0:k=j0
  ·obtain⟨x,ex⟩: ∃x,ns.getD k 0=x:=⟨_,rfl⟩
   rw[hk0] at ex
   have hex:=hx0.out
   rw[ex] at hex
   rw[hk0,ex] at hR
   rw[<-hk0] at hR
   clear ex
   have hbd:=hbad.out
   rw[<-hk0] at hbd
   have hI:Hid (∀u,CC 105 #[NV (dsN q ns k ns.length),NV q] u (.tuple #[NV 0,iI 20])):=fun u=>by
    have h:=mInverse_no (dsN q ns k ns.length) q u iz hq hq0 hbd
    rw[<-NV_0] at h;exact h
   obtain⟨z,ez⟩: ∃z,dsN q ns k ns.length=z:=⟨_,rfl⟩
   rw[ez] at iz hD hI
   clear ez hbd hk0
   have K0_1:Bk w.heap.size wr [(false,w.heap.size,LN q),(true,w.heap.size+1,L0b),(true,w.heap.size+1+1,flN (rowN vs k))]:=⟨.c lC0 C0<| .o lC1 (by omega) C1<| .o lC2 (by omega) C2<|trivial,by simp<;>omega⟩
   go_upto_region 3 with fail
   refine Rn K0_1 HBr [(0,17,_)] (oc (g_bn (fun uZ=>Z6 _ _ (k:Int) (ns.length:Int) _ uZ hl)) on) fun u1 HB1 sz1 K1=>?_
   simp only[sQ] at K1⊢
   go_upto_region 4 with fail
   refine Rp K1 HB1 [] [(3,8,L0s,some (5,LN x))] (cG 0 18 [_,_,_] [(4,7,_)]) [(5,3)] [] [] (oc g_mv<|oc (g_ix hX.out)<|oc (g_lf hR.out (hg.resolve_left (by omega)) uN iN)<|oc (g_al 0 aN)<|oc g_as<|oc (g_sn 0 iN) on) fun u2 b2_3 HB2 sz2 K2=>?_
   simp only[sQ] at K2⊢
   go_upto_region 5 with fail
   refine Rd K2 HB2 [] [(9,9,L0s,some (10,LN 0))] (cG 0 22 [_,_,_,_,_,_] [(6,21,_),(7,28,_),(8,29,_),(11,10,_)]) [(10,9)] [] [true,true,true,true,false] (oc (g_ld 0 uN iN)<|oc g_mv<|oc g_mv<|oc (g_cb ent_Z1 hD.out)<|oc (g_ld 0 uN iN)<|oc (g_cl ent_Z2 hI.out)<|oc g_mv<|oc g_ex<|oc g_ex<|oc (g_al 0 aN)<|oc (g_sn 0 iN)<|oc g_as on) fun u3 b3_9 HB3 sz3 K3=>?_
   simp only[sQ] at K3⊢
   go_upto_region 6 with fail
   refine Rn K3 HB3 [(0,30,_),(1,31,_)] (oc g_mv<|oc (g_bn (fun uZ=>Zw _ _ _ 20 0 _ uZ rfl)) on) fun u4 HB4 sz4 K4=>?_
   simp only[sQ] at K4⊢
   go_upto_region 7 with fail
   refine Rp K4 HB4 [.no,.all 9 L0b] [] (cG 0 32 [_,_,_,_,_,_,_,_,_] [(10,5,_)]) [] [] [true,true,true,false] (oc (g_bd zB)<|oc (g_ld 3 uN iN)<|oc (g_cl ent_Z3 (nText x))<|oc (g_bn (fun uZ=>add_st _ _ sXb (tx x) uZ (by decide) (Nat.le_trans (tx_sz x) (by decide))))<|oc (g_mi (miE 100))<|oc (g_bd (bdFl sDb _ _))<|oc (g_mi (miF sDb _ _))<|oc (g_bd (bdFl (sXb++tx x) _ _))<|oc (g_mi (miF (sXb++tx x) _ _))<|oc (g_st 1 Yw)<|oc g_as on) fun u5 HB5 sz5 K5=>?_
   simp only[sQ] at K5⊢
   have c0:=((K5.cv 1) 0 _ rfl).1
   have c1:=((K5.cv 1) 1 _ rfl).1
   have c2:=((K5.cv 1) 2 _ rfl).1
   have c3:=((K5.cv 1) 3 _ rfl).1
   have c4:=((K5.cv 1) 4 _ rfl).1
   have c5:=((K5.cv 1) 5 _ rfl).1
   go_wp2
   exact bodyPost_ret (v:= .tuple #[BZ,.iface 143 (.agg #[.string (sXb++tx x),.iface 143 (.agg #[.string sDb,.iface 31 (iI 100)])])]) (by simp[results,Tryz.results77,go_sem,c0,c1,c2,c3,c4,c5]) rfl ⟨by rw[<-hex];rfl,HB5⟩
  ·have hkx:k<vs.length:=by rw[hvl.out];exact hj
   have hgk:=hgd.out k (by omega)
   have hv:=hvs.out k hj hgk
   obtain⟨x,ex⟩: ∃x,ns.getD k 0=x:=⟨_,rfl⟩
   rw[ex] at hR
   clear ex
   obtain⟨z,ez⟩: ∃z,dsN q ns k ns.length=z:=⟨_,rfl⟩
   rw[ez] at iz hv hgk hD
   clear ez
   have hXL:=V4 (vs:=vs) (k:=k) (by omega)
   have hNx:=Xy (vs:=vs) (k:=k) (by omega)
   rw[Xd (vs:=vs) (k:=k) (by omega)] at C2
   obtain⟨X,eX⟩: ∃X,flN (List.take k vs)=X:=⟨_,rfl⟩
   obtain⟨Z,eZ⟩: ∃Z,flN (List.replicate (List.length vs -(k+1)) 0)=Z:=⟨_,rfl⟩
   rw[eX] at hXL hNx C2
   rw[eZ] at hNx C2
   clear eX eZ
   obtain⟨y,ey⟩: ∃y,vs.getD k 0=y:=⟨_,rfl⟩
   rw[ey] at hv hNx
   clear ey hkx
   have hXL:Hid _:=hXL
   have hNx:Hid _:=hNx
   have K0_1:Bk w.heap.size wr [(false,w.heap.size,LN q),(true,w.heap.size+1,L0b),(true,w.heap.size+1+1,X++LN 0++Z)]:=⟨.c lC0 C0<| .o lC1 (by omega) C1<| .o lC2 (by omega) C2<|trivial,by simp<;>omega⟩
   go_upto_region 3 with fail
   refine Rn K0_1 HBr [(0,17,_)] (oc (g_bn (fun uZ=>Z6 _ _ (k:Int) (ns.length:Int) _ uZ hl)) on) fun u1 HB1 sz1 K1=>?_
   simp only[sQ] at K1⊢
   go_upto_region 4 with fail
   refine Rp K1 HB1 [] [(3,8,L0s,some (5,LN x))] (cG 0 18 [_,_,_] [(4,7,_)]) [(5,3)] [] [true,true,true,false] (oc g_mv<|oc (g_ix hX.out)<|oc (g_lf hR.out (hg.resolve_left (by omega)) uN iN)<|oc (g_al 0 aN)<|oc g_as<|oc (g_sn 0 iN) on) fun u2 b2_3 HB2 sz2 K2=>?_
   simp only[sQ] at K2⊢
   go_upto_region 5 with fail
   refine Rd K2 HB2 [] [(9,9,L0s,some (10,LN y))] (cG 0 22 [_,_,_,_,_,_] [(6,21,_),(7,28,_),(8,29,_),(11,10,_)]) [(10,9)] [] [] (oc (g_ld 0 uN iN)<|oc g_mv<|oc g_mv<|oc (g_cb ent_Z1 hD.out)<|oc (g_ld 0 uN iN)<|oc (g_cl ent_Z2 (fun uZ=>mInverse z q y uZ iz hq hq0 hgk hv))<|oc g_mv<|oc g_ex<|oc g_ex<|oc (g_al 0 aN)<|oc (g_sn 0 iN)<|oc g_as on) fun u3 b3_9 HB3 sz3 K3=>?_
   simp only[sQ] at K3⊢
   go_upto_region 6 with fail
   refine Rn K3 HB3 [(0,30,_),(1,31,_)] (oc g_mv<|oc (g_bn (fun uZ=>Zw _ _ _ 0 0 _ uZ rfl)) on) fun u4 HB4 sz4 K4=>?_
   simp only[sQ] at K4⊢
   go_upto_region 8 with fail
   refine Rp K4 HB4 [.no,.no,.all 4 (X++LN y++Z)] [] (cG 0 41 [_,_,_,_] []) [] [] [true,true,true,false] (oc g_mv<|oc g_mv<|oc (g_ld 3 uN iN)<|oc (g_ix (ixZ _ _ _ k hj))<|oc (g_sm 2 (4*k) X (LN 0) Z (post:=LN y) (hxc:=hXL.out) iN) on) fun u5 HB5 sz5 K5=>?_
   simp only[sQ] at K5⊢
   go_upto_region 9 with fail
   refine Rp K5 HB5 [] [] [(0,45,_),(1,16,_)] [(1,0)] [(1,16)] [] (oc (g_bn (fun uZ=>Zm _ _ (k:Int) 1 ((k+1:Nat):Int) uZ (by omega) (by omega) (by omega)))<|oc g_mv on) fun u6 HB6 _ K6=>?_
   simp only[sQ] at K6⊢
   go_wp2
   refine⟨⟨k+1,by omega,rfl,HB6,(K6.cv 0),(K6.lt 0),(K6.cv 1),(K6.lt 1),by rw[hNx.out];exact(K6.cv 2),(K6.lt 2)⟩,?_⟩
   simp[intOf]<;>omega
theorem combine_no(q t:Int)(sl:Option Addr)(n cap:Nat)(xs:List Int)(ET:TypeId)(ex:Value)(w:World)(hP:Hid (∀u,Bw w u->CC 76 #[NV q,iI (n:Int)] u (.nilIface)))(hA:Hid (∀u,Bw w u->Calls Tryz.prog 78 #[.slice sl n cap] u fun e u'=> ∃y,e= .returned y/\NLq xs u' y/\Bw u u'))(hO:Hid (∀u y,Bw w u->NLq xs u y->CC 77 #[NV q,y] u (.tuple #[BZ,.iface ET ex])))(hT:Hid (∀u,Bw w u->CC 68 #[.iface ET ex] u (iI 100))):
 CC 55 #[NV q,NV t,.slice sl n cap] w (.tuple #[A4 0 0 0 0,iI 100]):=by
 go_enter Tryz.func55,Tryz.ntmps55
 go_upto_region 1 with fail
 obtain⟨v0,hC,HB0,K0⟩:=bx3 w (LN q) 24 (LN t) 24 L0s 24
 rw[hC]
 clear hC
 refine Rn K0 HB0 (cG 0 11 [_,_,_,_] [(4,8,_)]) (oc (g_ld 0 uN iN)<|oc g_mv<|oc (g_ln Tryz.underlying73)<|oc (g_cb ent_Z7 hP.out)<|oc g_as on) fun u1 HB1 _ K1=>?_
 simp only[sQ] at K1⊢
 go_upto_region 2 with fail
 refine Rn K1 HB1 [(0,15,_),(1,16,_)] (oc g_mv<|oc (g_bn (neq_no _ _)) on) fun u2 HB2 _ K2=>?_
 simp only[sQ] at K2⊢
 go_upto_region 4 with fail
 refine Re K2 HB2 [] [(7,9,L0b,some (8,L0b))] [(0,21,_),(1,22,_),(3,24,_),(4,20,_),(5,25,_),(6,26,_),(9,10,_)] [(8,7)] [] [⟨2,23,some 3,NLq xs⟩] [] (oc (g_ld 0 uN iN)<|oc g_mv<|oc (g_cE 0 (NLq xs) ent_Z5 (fun u hB hs=>hA.out u hB))<|oc (g_c2 0 (NLq xs) ent_Z4 (fun uZ yZ bZ hZ=>hO.out uZ yZ bZ hZ))<|oc g_mv<|oc g_ex<|oc g_ex<|oc (g_al 0 al_poly_base)<|oc (g_sn 0 Yw)<|oc g_as on) fun u3 b3_7 v3_2 hv3_2 HB3 _ K3=>?_
 simp only[sQ] at K3⊢
 go_upto_region 5 with fail
 refine Rn K3 HB3 [(0,27,_),(1,28,_)] (oc g_mv<|oc (g_bn (neq_er _ _ _ _)) on) fun u4 HB4 _ K4=>?_
 simp only[sQ] at K4⊢
 go_upto_region 6 with fail
 refine Rp K4 HB4 [.no,.no,.all 3 ([iU (0),iU (0),iU (0),iU (0)])] [] (cG 0 29 [_,_,_] [(4,7,_)]) [] [] [] (oc (g_bd zN)<|oc g_mv<|oc (g_cb ent_Z6 hT.out)<|oc (g_st 2 iN)<|oc g_as on) fun u5 HB5 _ K5=>?_
 simp only[sQ] at K5⊢
 have c6:=(K5.cv 2).n4
 go_wp2
 refine bodyPost_ret (v:= .tuple #[A4 0 0 0 0,iI 100]) (by simp[results,Tryz.results55,go_sem,c6]) rfl ⟨rfl,HB5⟩
def faE(q:Int)(ns:List Int):Int:=if ns.length=0 then 2 else if alG q ns then 0 else 100
theorem alG_iff{q:Int}{ns:List Int}:alG q ns=true↔ ∀i,i<ns.length->gI q (dsN q ns i ns.length%q)=1:=decide_eq_true_iff
def GdV(q:Int)(ns vs:List Int):Prop:=vs.length=ns.length/\ ∀i,i<ns.length->gI q (dsN q ns i ns.length%q)=1->IsInv (dsN q ns i ns.length%q) q (vs.getD i 0)
theorem GdV.invs{q:Int}{ns vs:List Int}(h:GdV q ns vs)(ha:alG q ns=true):Invs q ns vs:=⟨h.1,fun i hi=>h.2 i hi (alG_iff.1 ha i hi)⟩
theorem frS_len(q t:Int)(ns vs:List Int):(frS q t ns vs).length=ns.length:=W6 _ _
theorem xFac(q t:Int)(ns vs:List Int)(v:Value)(w:World)(hq:In q)(hq2:2<=q)(ht:In t)(hv:NL w v ns)(hns: ∀z∈ns,In z)(hl:ns.length<=256)(hg:GdV q ns vs):Calls Tryz.prog 80 #[NV q,NV t,v] w fun e u=> ∃y,e= .returned (.tuple #[y,iI (faE q ns)])/\FRw w.heap.size (faE q ns) (frS q t ns vs) u y/\Bw w u:=by
 obtain⟨sl,gb,go,cap,rfl,h2,h3,h4,h5,h6⟩:=hv
 have hR:=fun u=>xRight q u hq
 rw[decide_eq_true hq2] at hR
 have hM:=fun u=>xMany ns.length u hl
 unfold faE
 by_cases c:ns.length=0
 ·rw[if_pos c]
  rw[decide_eq_false (by omega)] at hM
  exact(xfac_n q t sl cap ns w hR hM).mono fun e u h=>⟨_,h.1,⟨⟨_,_,_,rfl⟩,fun e=>absurd e (by decide)⟩,h.2⟩
 ·rw[if_neg c]
  rw[decide_eq_true (by omega)] at hM
  refine xfac_core q t _ sl gb go cap ns vs (frS q t ns vs) w hq (by omega) ht hR hM (NL.ix (u:=w) h4) h5 h6 (Yc hns) (by omega) (frS_len _ _ _ _) (fun i hi=>by rw[frS,Xg hi]) hg.2 (fun i hi hb=>?_) (fun h=>?_)
  ·rw[if_neg (fun e=>hb (alG_iff.1 e i hi))]
  ·rw[if_pos (alG_iff.2 h)]
def cbX(q t:Int)(vs:List Int)(ps:List (Int×Int)):Int:=if faE q (ps.map Prod.fst)=0 then smN q (fac q t (ps.map Prod.fst) vs) ps ps.length else 0
theorem ixR'{ps:List (Int×Int)}{sl:Option Addr}{gb go cap:Nat}(h:ps=[]\/sl=some ⟨gb,go,none⟩): ∀j,j<ps.length-> ∀W,(Instr.indexAt 77 (.slice sl ps.length cap) (iI j)).run Tryz.prog W= .ok (.pointer (some ⟨gb,go+8*j,none⟩)) W:=fun j hj W=>by
 have e:=h.resolve_left (fun e=>by subst e;simp at hj)
 subst e
 exact ixR gb go ps.length cap j hj W
theorem getP{ps:List (Int×Int)}{k:Nat}(h:k<ps.length):ps.getD k (0,0)∈ps:=by simp[List.getElem?_eq_getElem h]
theorem xCmb(q t:Int)(vs:List Int)(ps:List (Int×Int))(v:Value)(w:World)(hq:In q)(hq2:2<=q)(ht:In t)(hv:PtL w v ps)(hps: ∀p∈ps,In p.1/\In p.2)(hl:ps.length<=256)(hg:GdV q (ps.map Prod.fst) vs):CC 56 #[NV q,NV t,v] w (.tuple #[NV (cbX q t vs ps),iI (faE q (ps.map Prod.fst))]):=by
 obtain⟨sl,gb,go,cap,rfl,h2,h3,h4,h5,h6⟩:=hv
 have hxl:(ps.map Prod.fst).length=ps.length:=by simp
 have hxs: ∀z∈ps.map Prod.fst,In z:=fun z hz=>by
  obtain⟨p,hp,rfl⟩:=List.mem_map.1 hz
  exact(hps p hp).1
 have hF:=fun u v (_:Bw w u) (hv:NL u v (ps.map Prod.fst))=>xFac q t _ vs v u hq hq2 ht hv hxs (by omega) hg
 have hget: ∀i,i<ps.length->(ps.map Prod.fst).getD i 0=(ps.getD i (0,0)).1:=fun i hi=>by simp[List.getElem?_map,List.getElem?_eq_getElem hi]
 have hfe:frS q t (ps.map Prod.fst) vs=fac q t (ps.map Prod.fst) vs:=frS_fac (by omega) hg.1
 rw[hfe] at hF
 have hfl:(fac q t (ps.map Prod.fst) vs).length=ps.length:=by rw[fac_len,hxl]
 exact xcmb q t _ _ sl gb go cap ps (ps.map Prod.fst) (fac q t (ps.map Prod.fst) vs) w (fun e=>if_neg (by simpa using e)) (fun e=>if_pos (by simpa using e)) hfl (fun k hk=>by rw[hfl] at hk;have:=fac_rng (q:=q) (by omega) (t:=t) (xs:=ps.map Prod.fst) (vs:=vs) (i:=k) (by omega);exact⟨this.1,by have:=hq.2;omega⟩) (fun k hk=>(hps _ (getP hk)).2) hq (by omega) (ixR' h4) h5 h6 (by omega) hxl hget hF
theorem cCmb(q t:Int)(vs:List Int)(ps:List (Int×Int))(v:Value)(w:World)(hG:GP w)(hq:In q)(hq2:2<=q)(ht:In t)(hv:PtL w v ps)(hps: ∀p∈ps,In p.1/\In p.2)(h1:1<=ps.length)(hl:ps.length<=256)(hg:GdV q (ps.map Prod.fst) vs):CC 55 #[NV q,NV t,v] w (.tuple #[NV (cbX q t vs ps),iI (faE q (ps.map Prod.fst))]):=by
 have hxl:(ps.map Prod.fst).length=ps.length:=by simp
 have hxs: ∀z∈ps.map Prod.fst,In z:=fun z hz=>by
  obtain⟨p,hp,rfl⟩:=List.mem_map.1 hz
  exact(hps p hp).1
 have hfe:faE q (ps.map Prod.fst)=if alG q (ps.map Prod.fst) then 0 else 100:=by unfold faE;rw[if_neg (by omega)]
 by_cases c:alG q (ps.map Prod.fst)=true
 ·rw[cbX,hfe,if_pos c,if_pos rfl]
  exact cCombine q t vs ps v w hG hq hq2 ht hv hps h1 hl (hg.invs c)
 ·rw[cbX,hfe,if_neg c,if_neg (by decide),NV_0]
  have hv':=hv
  obtain⟨sl,gb,go,cap,rfl,_⟩:=hv
  obtain⟨j0,hj0,hbad,hgd⟩:=first_bad (P:=fun i=>gI q (dsN q (ps.map Prod.fst) i (ps.map Prod.fst).length%q)=1) (ps.map Prod.fst).length (Classical.byContradiction fun hn=>c (alG_iff.2 fun i hi=>Classical.byContradiction fun h=>hn ⟨i,hi,h⟩))
  refine combine_no q t sl _ cap (ps.map Prod.fst) 143 (.agg #[.string (sXb++tx ((ps.map Prod.fst).getD j0 0)),.iface 143 (.agg #[.string sDb,.iface 31 (iI 100)])]) w (cPtsOf hG hq hq2 hl h1) (fun u hB=>?_) (fun u y hB hy=>?_) (fun u hB=>pToldN 100 2 _ u (hG.below hB) ?_)
  ·obtain⟨sl',gb',go',cap',e,h2,h3,h4,h5,h6⟩:=hv'.up hB
   cases e
   exact(allX_core sl gb' go' cap ps (ps.map Prod.fst) u hxl (fun k hk=>by simp[List.getElem?_map,List.getElem?_eq_getElem hk]) (PtL.ix h4) h5 h6 (by omega)).mono fun e u ⟨y,h1,h2,h3⟩=>⟨y,h1,h2.nl,h3⟩
  ·obtain⟨sx,gx,ox,cx,rfl,k2,k3,k4,k5,k6⟩:=(show NL u y (ps.map Prod.fst) from hy)
   exact baseOf_no q _ sx gx ox cx j0 (ps.map Prod.fst) vs u hq (by omega) hj0 rfl hbad hgd hg.1 hg.2 (NL.ix (u:=u) k4) k5 k6 (Yc hxs) (by omega)
  ·exact .flt 1 _ _ (.flt 0 _ _ (.leaf 0))
def oE(p q:Int)(l:List (Int×Int×Int)):Int:=if gOk p q then (if ndsB l then faE q (l.map (·.1)) else 2) else 90
def oX(p q:Int)(vs:List Int)(l:List (Int×Int×Int))(ps:List (Int×Int)):Int:=if oE p q l=0 then cbX q 0 vs ps else 0
theorem nd_In{l:List (Int×Int×Int)}(hn:ndsB l=true)(hl: ∀x∈l,In x.2.1/\In x.2.2): ∀x∈l,(1<=x.1/\x.1<=16)/\In x.2.1/\In x.2.2:=fun x hx=>⟨ndB_iff.1 (List.all_eq_true.1 hn x hx),hl x hx⟩
theorem vOpen(p q g h:Int)(vs:List Int)(l:List (Int×Int×Int))(v:Value)(w:World)(hG:GP w)(hp:In p)(hq:In q)(hv:ShL w v l)(hl: ∀x∈l,In x.2.1/\In x.2.2)(hn:l.length<=16)(hg:GdV q (l.map (·.1)) vs):CC 25 #[GX p q g h,v] w (.tuple #[NV (oX p q vs l (opS l)),NV (oX p q vs l (opT l)),iI (oE p q l)]):=by
 have a':=hv
 obtain⟨sl,gb,go,cap,rfl,_⟩:=hv
 have hC:=fun u=>cCheckG p q g h u hp hq
 unfold oX
 by_cases c1:gOk p q
 ·simp only[chE,if_pos c1] at hC
  have hq3:=c1.q3
  have e1:oE p q l=if ndsB l then faE q (l.map (·.1)) else 2:=by rw[oE,if_pos c1]
  by_cases c2:l.length=0
  ·have e0:oE p q l=2:=by
    rw[e1];unfold faE;rw[List.length_map,if_pos c2];split<;>rfl
   rw[e0,if_neg (by decide),if_neg (by decide),NV_0]
   exact vopn_0 p q g h sl cap l w (by rw[beq_iff_eq];omega) hC
  ·have hH:=fun u (hB:Bw w u)=>vHave l _ u (a'.up hB) (by omega)
   by_cases c3:ndsB l=true
   ·rw[c3] at hH
    rw[c3,if_pos rfl] at e1
    have hin:=op_In (nd_In c3 hl)
    have k1:=fun u (c o:Nat) z (hB:Bw w u) (hc:c<u.heap.size) (ho:l.length<=o) (hcv:CV u c (flN (flt (opS l))++z))=>(by
     have h:=cCmb q 0 vs (opS l) _ u (hG.below hB) hq (by omega) In_0 (pl_rw hc hcv op_len.1 ho) hin.1 (by rw[op_len.1];omega) (by rw[op_len.1];omega) (by rw[op_fst.1];exact hg)
     rw[NV_0,op_fst.1] at h;exact h:CC 55 #[NV q,A4 0 0 0 0,.slice (some ⟨c,0,none⟩) l.length o] u (.tuple #[NV (cbX q 0 vs (opS l)),iI (faE q (l.map (·.1)))]))
    have k2:=fun u (c o:Nat) z (hB:Bw w u) (hc:c<u.heap.size) (ho:l.length<=o) (hcv:CV u c (flN (flt (opT l))++z))=>(by
     have h:=cCmb q 0 vs (opT l) _ u (hG.below hB) hq (by omega) In_0 (pl_rw hc hcv op_len.2 ho) hin.2 (by rw[op_len.2];omega) (by rw[op_len.2];omega) (by rw[op_fst.2];exact hg)
     rw[NV_0,op_fst.2] at h;exact h:CC 55 #[NV q,A4 0 0 0 0,.slice (some ⟨c,0,none⟩) l.length o] u (.tuple #[NV (cbX q 0 vs (opT l)),iI (faE q (l.map (·.1)))]))
    have hP:=fun u (hB:Bw w u)=>vPoints sl cap l u (a'.up hB) (by omega) (by omega) c3
    rw[e1]
    exact vopn p q g h _ _ _ _ _ _ sl cap l w (by rw[beq_eq_false_iff_ne];omega) (by simp;omega) (fun e=>(fun e: ¬faE q (l.map (·.1))=0=>⟨if_neg e,if_neg e⟩) (by simpa using e)) (fun e=>(fun e:faE q (l.map (·.1))=0=>⟨if_pos e,if_pos e,e⟩) (by simpa using e)) hC hH hP k1 k2
   ·rw[Bool.not_eq_true] at c3
    rw[c3] at hH e1
    have e0:oE p q l=2:=e1
    rw[e0,if_neg (by decide),if_neg (by decide),NV_0]
    exact vopn_n p q g h sl cap l w (by rw[beq_eq_false_iff_ne];omega) (by simp;omega) hC hH
 ·simp only[chE,if_neg c1] at hC
  have e0:oE p q l=90:=by rw[oE,if_neg c1]
  rw[e0,if_neg (by decide),if_neg (by decide),NV_0]
  exact vopn_c p q g h sl cap l w hC
theorem xOpen(p q g h:Int)(vs:List Int)(l:List (Int×Int×Int))(v:Value)(w:World)(hp:In p)(hq:In q)(hv:ShL w v l)(hl: ∀x∈l,In x.2.1/\In x.2.2)(hn:l.length<=16)(hg:GdV q (l.map (·.1)) vs):CC 26 #[GX p q g h,v] w (.tuple #[NV (oX p q vs l (opS l)),NV (oX p q vs l (opT l)),iI (oE p q l)]):=by
 obtain⟨sl,gb,go,cap,rfl,h2,h3,h4,h5,h6⟩:=hv
 have hC:=fun u=>xCheckG p q g h u hp hq
 unfold oX
 by_cases c1:gOk p q
 ·simp only[chE,if_pos c1] at hC
  have hq3:=c1.q3
  have e1:oE p q l=if ndsB l then faE q (l.map (·.1)) else 2:=by rw[oE,if_pos c1]
  refine xopn_k p q g h (cbX q 0 vs (opS l)) (cbX q 0 vs (opT l)) (faE q (l.map (·.1))) (faE q (l.map (·.1))) _ _ _ sl gb go cap l w hC (sh_ix h4) h5 (sh_pt h6) (by omega) (fun u c o z hB hc ho hcv hnd=>?_) (fun u c o z hB hc ho hcv hnd=>?_) (fun k hk hb=>?_) (fun hnd he=>?_) (fun hnd he=>?_)
  ·have hin:=op_In (nd_In (nds_get.2 hnd) hl)
   have h:=xCmb q 0 vs (opS l) _ u hq (by omega) In_0 (pl_rw hc hcv op_len.1 ho) hin.1 (by rw[op_len.1];omega) (by rw[op_fst.1];exact hg)
   rw[NV_0,op_fst.1] at h;exact h
  ·have hin:=op_In (nd_In (nds_get.2 hnd) hl)
   have h:=xCmb q 0 vs (opT l) _ u hq (by omega) In_0 (pl_rw hc hcv op_len.2 ho) hin.2 (by rw[op_len.2];omega) (by rw[op_fst.2];exact hg)
   rw[NV_0,op_fst.2] at h;exact h
  ·have c3:ndsB l=false:=by
    rw[Bool.eq_false_iff];intro e
    rw[nds_get.1 e k hk] at hb;cases hb
   have e0:oE p q l=2:=by rw[e1,c3];rfl
   rw[e0,if_neg (by decide),if_neg (by decide)];exact⟨rfl,rfl,rfl⟩
  ·rw[nds_get.2 hnd,if_pos rfl] at e1
   have he: ¬faE q (l.map (·.1))=0:=by simpa using he
   rw[e1,if_neg he,if_neg he];exact⟨rfl,rfl,rfl⟩
  ·rw[nds_get.2 hnd,if_pos rfl] at e1
   have he:faE q (l.map (·.1))=0:=by simpa using he
   rw[e1,he,if_pos rfl,if_pos rfl];exact⟨rfl,rfl,rfl⟩
 ·simp only[chE,if_neg c1] at hC
  have e0:oE p q l=90:=by rw[oE,if_neg c1]
  rw[e0,if_neg (by decide),if_neg (by decide),NV_0]
  exact xopn_c p q g h sl cap l w hC
theorem bsS0z(w:World):(Instr.buildSlice 48 0 #[]).run Tryz.prog w= .ok (.slice (some ⟨w.heap.size,0,none⟩) 0 0) (w.alloc (.cells #[] 35)):=by kernel_rfl
theorem slSh(sl:Option Addr)(n cap k:Nat)(h:k<=n)(hc:n<=cap)(hn:sl=none->cap=0)(w:World):(Instr.sliceAt 48 (.slice sl n cap) none (some (iI k)) none).run Tryz.prog w= .ok (.slice sl k cap) w:=by
 cases sl with
 | none=>
  have e0:=hn rfl
  have e1:n=0:=by omega
  have e2:k=0:=by omega
  subst e0 e1 e2
  show (Instr.sliceAt 48 (.slice none 0 0) none (some (iI 0)) none).run Tryz.prog w=_
  kernel_rfl
 | some a=>
  have h3:k<=cap:=by omega
  simp[Instr.sliceAt,Instr.slice,go_sem,Tryz.underlying48,h3]
def SLq(l:List (Int×Int×Int))(u:World)(v:Value):Prop:=ShL u v l
theorem SLq.stab{l:List (Int×Int×Int)}{u u2:World}{x:Value}(hB:Bw u u2)(h:SLq l u x):SLq l u2 x:=ShL.up h hB
theorem app_s0{u:World}{lo m c:Nat}{sl:Option Addr}{gb go:Nat}{l:List (Int×Int×Int)}{ty:TypeId}{vs:Value}(hlu:lo<=u.heap.size)(h:PZ lo u vs)(hm:l.length=m)(hl:m<=100000)(hs:m=0\/sl=some ⟨gb,go,none⟩)(hS: ∀j v,(flS l)[j]?=some v->u.cell? ⟨gb,go+j,none⟩=some v):
 ∃v u',(Builtin.append_ #[48,48] ty #[vs,.slice sl m c]).run Tryz.prog u= .ok v u'/\Bw u u'/\SLq l u' v:=by
 obtain⟨b,rfl,hlo,hb⟩:=h
 obtain⟨ti,hti,htm⟩:=Option.map_eq_some_iff.1 infoSh
 simp only[Prod.mk.injEq] at htm
 obtain⟨hzv,hsz,hby⟩:=htm
 obtain⟨v',u',hr,hB,hg⟩:=run_appF (P:=Tryz.prog) u (ty:=ty) Tryz.underlying48 hti hzv (by rw[hsz];rfl) (lo:=lo) (n:=0) (m:=m) (xs:=[]) (news:=flS l) (y:= .slice sl m c) (fun j v h=>by simp at h) hlo hlu hb (by rw[hsz];rfl) ⟨sl,c,rfl,hs.imp id fun e=>⟨_,e,fun j v hj=>by
  have e1:(⟨gb,go,none⟩:Addr).add j=⟨gb,go+j,none⟩:=by unfold Addr.add;split<;>simp_all
  rw[e1];exact hS j v hj⟩⟩ (by rw[hsz,flS_len];omega) (by rw[hby];omega) (by omega)
 rw[hsz,List.nil_append,Nat.zero_add] at hg
 obtain⟨b2,c2,zs,rfl,h1,h2,h3,h4,h5⟩:=hg
 exact⟨_,u',hr,hB,sh_row h2 h5 hm h3⟩
theorem ent_OL1:EnT 25:=fun _ _=>by kernel_rfl
theorem ent_OL2:EnT 26:=fun _ _=>by kernel_rfl
theorem ent_OL3:EnT 15:=fun _ _=>by kernel_rfl
theorem vssOpens_core(p q g h a b er:Int)(sl:Option Addr)(len cap k gb go:Nat)(l:List (Int×Int×Int))(w:World)(hV:VOK w)(hmin:min ((len:Nat):Int) 10=((k:Nat):Int))(hkl:k<=len)(hlc:len<=cap)(hsn:sl=none->cap=0)(hlk:l.length=k)(hk10:k<=10)(hsl:k=0\/sl=some ⟨gb,go,none⟩)(hgb:k=0\/gb<w.heap.size)(hcs:Hid (∀j v,(flS l)[j]?=some v->w.cell? ⟨gb,go+j,none⟩=some v))(ia:In a)(ib:In b)(hOp:Hid (∀u y,Bw w u->SLq l u y->CC 25 #[GX p q g h,y] u (.tuple #[NV a,NV b,iI er])))(hRf:Hid (∀u,Bw w u->CC 26 #[GX p q g h,.slice sl k cap] u (.tuple #[NV a,NV b,iI er]))):
 CC 5 #[GX p q g h,.slice sl len cap] w (.bool true):=by
 go_enter Tryz.func5,Tryz.ntmps5
 go_upto_region 1 with fail
 obtain⟨v0,hC,HB0,K0⟩:=bx1 w (GE p q g h) 26
 rw[hC]
 clear hC
 refine Rp K0 HB0 [] [] (cG 0 11 [_,_,_,_,_] [(5,1,_)]) [(5,0),(5,1)] [(5,1)] [] (oc g_mv<|oc g_mv<|oc (g_ln Tryz.underlying48)<|oc (g_mn hmin)<|oc (g_sl (slSh sl len cap k hkl hlc hsn))<|oc g_as on) fun u1 HB1 _ K1=>?_
 simp only[sQ] at K1⊢
 have hTu:=HB1
 go_upto_region 2 with fail
 refine Re K1 HB1 [] [(9,5,L0s,some (11,LN a)),(10,6,L0s,some (12,LN b))] [(0,17,_),(2,19,_),(4,21,_),(5,16,_),(6,22,_),(7,23,_),(8,24,_),(13,7,_)] [(11,9),(12,10)] [] [⟨1,18,some 3,PZ u1.heap.size⟩,⟨3,20,some 4,SLq l⟩] [] (oc (g_ld 0 Tryz.underlying26 Z0)<|oc (g_bs 0 (PZ u1.heap.size) bsS0z (fun u hu=>PZ.new hu))<|oc g_mv<|oc (g_a1 0 1 (PZ u1.heap.size) (SLq l) (fun u vs hB hs h=>app_s0 (lo:=u1.heap.size) hs h hlk (by omega) hsl (fun j v hj=>(hB.cell (p:=⟨gb,go+j,none⟩) (hgb.resolve_left (by intro e;rw[List.eq_nil_of_length_eq_zero (by omega:l.length=0)] at hj;simp[flS] at hj))).trans (hcs.out j v hj))))<|oc (g_c2 1 (SLq l) ent_OL1 (fun uZ yZ bZ hZ=>hOp.out uZ yZ bZ hZ))<|oc g_mv<|oc g_ex<|oc g_ex<|oc g_ex<|oc (g_al 0 aN)<|oc (g_al 1 aN)<|oc (g_sn 0 iN)<|oc (g_sn 1 iN)<|oc g_as on) fun u2 b2_9 b2_10 v2_1 hv2_1 v2_3 hv2_3 HB2 _ K2=>?_
 simp only[sQ] at K2⊢
 go_upto_region 3 with fail
 refine Rp K2 HB2 [] [(7,8,L0s,some (9,LN a)),(8,9,L0s,some (10,LN b))] (cG 0 26 [_,_,_] [(3,25,_),(4,29,_),(5,30,_),(6,31,_),(11,10,_)]) [(9,7),(10,8)] [] [] (oc (g_ld 0 Tryz.underlying26 Z0)<|oc g_mv<|oc (g_cb ent_OL2 hRf.out)<|oc g_mv<|oc g_ex<|oc g_ex<|oc g_ex<|oc (g_al 0 aN)<|oc (g_al 1 aN)<|oc (g_sn 0 iN)<|oc (g_sn 1 iN)<|oc g_as on) fun u3 b3_7 b3_8 HB3 _ K3=>?_
 simp only[sQ] at K3⊢
 go_upto_region 4 with fail
 refine Rn K3 HB3 (cG 0 32 [_,_,_,_,_,_,_,_,_,_,_,_,_,_,_,_] [(16,4,_)]) (oc (g_ld 1 uN iN)<|oc (g_ld 3 uN iN)<|oc (g_bn (fun uZ=>eql_n _ _ ia ia true (by simp) uZ))<|oc g_mv<|oc (g_ld 2 uN iN)<|oc (g_ld 4 uN iN)<|oc (g_bn (fun uZ=>eql_n _ _ ib ib true (by simp) uZ))<|oc g_pk<|oc g_mv<|oc g_mv<|oc g_mv<|oc (g_bn (fun uZ=>T4 _ _ _ er er _ uZ (beq_self_eq_true er)))<|oc g_pk<|oc g_mv<|oc (g_cb ent_OL3 (fun uZ bZ=>works11 uZ (hV.up bZ)))<|oc g_pk<|oc g_as on) fun u4 HB4 _ K4=>?_
 simp only[sQ] at K4⊢
 go_wp2
 refine bodyPost_ret (v:= .bool true) (by simp[results,Tryz.results5,go_sem,]) rfl ⟨rfl,HB4⟩
end
section
open Go.ChangeShapes Go.WideShapes Go.ChangeAt Go.RowKit
abbrev gS(l:List (Int×Int×Int))(i:Nat):Int×Int×Int:=l.getD i (0,0,0)
theorem list_ofS{p:Nat->Int×Int×Int->Prop}: ∀n,(∀i,i<n-> ∃z,p i z)-> ∃l:List (Int×Int×Int),l.length=n/\ ∀i,i<n->p i (gS l i)
 | 0,_=>⟨[],rfl,fun i hi=>by omega⟩
 | n+1,h=>by
  obtain⟨ns,hl,hp⟩:=list_ofS n (fun i hi=>h i (by omega))
  obtain⟨z,hz⟩:=h n (by omega)
  refine⟨ns++[z],by simp[hl],fun i hi=>?_⟩
  by_cases e:i=n
  ·subst e
   have:gS (ns++[z]) i=z:=by rw[<-hl];simp[gS]
   rw[this];exact hz
  ·have:gS (ns++[z]) i=gS ns i:=by simp[gS,List.getElem?_append_left (show i<ns.length by omega)]
   rw[this];exact hp i (by omega)
theorem flS_atg: ∀(l:List (Int×Int×Int)) (j:Nat) (v:Value),(flS l)[j]?=some v->j/9<l.length/\(SE (gS l (j/9)).1 (gS l (j/9)).2.1 (gS l (j/9)).2.2)[j%9]?=some v
 | [],j,v,h=>by simp[flS] at h
 | n::r,j,v,h=>by
  rw[flS] at h
  by_cases hj:j<9
  ·rw[List.getElem?_append_left (by show j<9;exact hj)] at h
   rw[show j/9=0 by omega,show j%9=j by omega]
   exact⟨by simp,by simpa [gS] using h⟩
  ·rw[List.getElem?_append_right (by show 9<=j;omega)] at h
   have h:(flS r)[j -9]?=some v:=h
   have:=flS_atg r (j -9) v h
   rw[show j/9=(j -9)/9+1 by omega,show j%9=(j -9)%9 by omega]
   exact⟨by simpa using this.1,by simpa [gS] using this.2⟩
theorem shareCells{H:Type}{enc:TypeId×Value->H}{W:World}{bs fuel:Nat}{sp:Nat->Bool}{held:Bool}{l:List Value}{x:DataW H×List MemPlace}(hf:DataW.trod enc Tryz.prog W bs sp held fuel 35 l=some x):
 ∃n s t,l=SE n s t/\(-9223372036854775808<=n/\n<9223372036854775808)/\In s/\In t:=by
 obtain⟨y0,y1,y2,m,_,hl,h0,h1,h2⟩:=Go.Deep.trod_struct3 Tryz.underlying35 hf
 rw[Tryz.cells35] at hl
 have h0:DataW.trod enc Tryz.prog W bs sp held m 3 ((l.drop 0).take (Tryz.prog.cellsOf 3))=some y0:=h0
 have h1:DataW.trod enc Tryz.prog W bs sp held m 24 ((l.drop 1).take (Tryz.prog.cellsOf 24))=some y1:=h1
 have h2:DataW.trod enc Tryz.prog W bs sp held m 24 ((l.drop 5).take (Tryz.prog.cellsOf 24))=some y2:=h2
 rw[cellsI] at h0
 rw[Tryz.cells24] at h1 h2
 match l,hl,h0,h1,h2 with
 | [c0,c1,c2,c3,c4,c5,c6,c7,c8],_,h0,h1,h2=>
  obtain⟨n,e0,_,w0⟩:=DataW.trod_int Tryz.underlying3 h0
  obtain⟨s,hs,es⟩:=trodN h1
  obtain⟨t,ht,et⟩:=trodN h2
  simp at e0
  refine⟨n,s,t,?_,int_of w0,hs,ht⟩
  have e:SE n s t=iI n::(LN s++LN t):=rfl
  rw[e,<-es,<-et,e0];rfl
theorem row_share{H:Type}{enc:TypeId×Value->H}{W:World}{bs fuel base:Nat}{sp:Nat->Bool}{held:Bool}{a:Addr}{cs:List Value}{x:DataW H×List MemPlace}(h1:W.cells? base a 9=some cs)(h:DataW.trod enc Tryz.prog W bs sp held fuel 35 cs=some x):
 ∃z:Int×Int×Int,(In z.2.1/\In z.2.2)/\ ∀c v,(SE z.1 z.2.1 z.2.2)[c]?=some v->W.cell? (a.add c)=some v:=by
 obtain⟨_,hl,hc⟩:=World.cells?_some h1
 obtain⟨n,s,t,rfl,_,hs,ht⟩:=shareCells h
 refine⟨(n,s,t),⟨hs,ht⟩,fun c v hv=>?_⟩
 have hlt:c<9:=(List.getElem?_eq_some_iff.1 hv).1
 rw[hc c hlt];exact hv
theorem open_shares(L:Nat){H:Type}{enc:TypeId×Value->H}{W:World}{base:Nat}{v0:Value}{x:DataW H}{p:List MemPlace}(hv:Value.okWide Tryz.prog W .any base 48 v0)(h:DataW.Trod enc Tryz.prog W 0 (fun _=>true) true 48 v0 x p):
 ∃sl len cap gb go,∃ns:List (Int×Int×Int),v0= .slice sl len cap/\(min len L)=ns.length/\len<=cap/\(sl=none->cap=0)/\(cap=0\/sl=some ⟨gb,go,none⟩)/\(ns.length=0\/gb<W.heap.size)/\(∀j v,(flS ns)[j]?=some v->W.cell? ⟨gb,go+j,none⟩=some v)/\ ∀z∈ns,In z.2.1/\In z.2.2:=by
 obtain⟨a0,len,cap,rfl⟩:=okWide_slice Tryz.underlying48 hv
 obtain⟨fuel,hf⟩:=h
 rcases Go.Deep.open_slice Tryz.underlying48 hf with⟨hcs,hx⟩ | ⟨ad,len',cap',m,n,D,Pl,hcs,hbs,hl,hm,hmm,hx,hall⟩
 ·simp[Value.cells] at hcs
  obtain⟨rfl,rfl,rfl⟩:=hcs
  exact⟨_,_,_,0,0,[],rfl,by simp,Nat.le_refl _,fun _=>rfl,.inl rfl,.inl rfl,(fun j v hj=>by simp[flS] at hj),fun z hz=>(by cases hz)⟩
 ·simp[Value.cells] at hcs
  obtain⟨rfl,rfl,rfl⟩:=hcs
  simp only[if_true] at hmm
  by_cases h0:cap=0
  ·subst h0
   have e:len=0:=by omega
   subst e
   exact⟨_,_,_,0,0,[],rfl,by simp,Nat.le_refl _,fun _=>rfl,.inl rfl,.inl rfl,(fun j v hj=>by simp[flS] at hj),fun z hz=>(by cases hz)⟩
  ·have hrow: ∀i,i<cap-> ∃z:Int×Int×Int,(In z.2.1/\In z.2.2)/\ ∀c v,(SE z.1 z.2.1 z.2.2)[c]?=some v->W.cell? ((ad.add (i*9)).add c)=some v:=fun i hi=>by
    obtain⟨cs,k1,k2⟩:=hall i (by rw[hmm];exact hi)
    rw[Tryz.cells35] at k1
    exact row_share k1 k2
   obtain⟨gb,go,spot⟩:=ad
   have hspot:spot=none:=by
    obtain⟨z,_,hz⟩:=hrow 0 (by omega)
    have:=hz 0 _ rfl
    simpa [Addr.add] using World.cell?_spot this
   subst hspot
   have hadd: ∀i c:Nat,((⟨gb,go,none⟩:Addr).add (i*9)).add c=⟨gb,go+(i*9+c),none⟩:=fun i c=>by unfold Addr.add;(repeat' split)<;>simp_all<;>omega
   obtain⟨ns,hnl,hnp⟩:=list_ofS (min len L) (fun i hi=>hrow i (by omega))
   have hblk:gb<W.heap.size:=by
    obtain⟨z,_,hz⟩:=hrow 0 (by omega)
    have:=hz 0 _ rfl
    rw[hadd] at this
    exact World.block_lt_of_cell? W _ this
   refine⟨_,_,_,gb,go,ns,rfl,hnl.symm,hl,fun e=>(by cases e),.inr rfl,.inr hblk,fun j v hj=>?_,fun z hz=>?_⟩
   ·obtain⟨k1,k2⟩:=flS_atg ns j v hj
    have:=(hnp (j/9) (by omega)).2 (j%9) v k2
    rwa [hadd,show j/9*9+j%9=j by omega] at this
   ·obtain⟨j,hj,rfl⟩:=List.mem_iff_getElem.1 hz
    have:=(hnp j (by omega)).1
    simpa [gS,List.getElem?_eq_getElem hj] using this
theorem oX_In{p q:Int}{vs:List Int}{l:List (Int×Int×Int)}{ps:List (Int×Int)}(hq:In q):In (oX p q vs l ps):=by
 unfold oX
 split
 ·rename_i c
  have hg:gOk p q:=by
   unfold oE at c
   split at c
   ·assumption
   ·cases c
  have:=hg.q3
  unfold cbX
  split
  ·exact smN_In hq (by omega) _
  ·exact In_0
 ·exact In_0
theorem vssOpens_any(p q g h:Int)(sl:Option Addr)(len cap gb go:Nat)(l:List (Int×Int×Int))(w:World)(hG:GP w)(hp:In p)(hq:In q)(hg:In g)(hh:In h)(n1:min len 10=l.length)(n2:len<=cap)(n3:sl=none->cap=0)(n4:cap=0\/sl=some ⟨gb,go,none⟩)(n5:l.length=0\/gb<w.heap.size)(n6: ∀j v,(flS l)[j]?=some v->w.cell? ⟨gb,go+j,none⟩=some v)(n7: ∀z∈l,In z.2.1/\In z.2.2):
 CC 5 #[GX p q g h,.slice sl len cap] w (.bool true):=by
 have hS:ShL w (.slice sl l.length cap) l:=⟨sl,gb,go,cap,rfl,by omega,n3,n4.imp (fun e=>List.eq_nil_of_length_eq_zero (by omega)) id,n5,n6⟩
 have hA: ∃vs,(∀u y,Bw w u->SLq l u y->CC 25 #[GX p q g h,y] u (.tuple #[NV (oX p q vs l (opS l)),NV (oX p q vs l (opT l)),iI (oE p q l)]))/\ ∀u,Bw w u->CC 26 #[GX p q g h,.slice sl l.length cap] u (.tuple #[NV (oX p q vs l (opS l)),NV (oX p q vs l (opT l)),iI (oE p q l)]):=by
  by_cases hq0:0<q
  ·obtain⟨vs,hv⟩:=gd_vs hq0 (l.map (·.1))
   exact⟨vs,fun u y hB hy=>vOpen p q g h vs l y u (hG.below hB) hp hq hy n7 (by omega) hv,fun u hB=>xOpen p q g h vs l _ u hp hq (hS.up hB) n7 (by omega) hv⟩
  ·have hng: ¬gOk p q:=fun e=>by have:=e.q3;omega
   have e0:oE p q l=90:=by rw[oE,if_neg hng]
   refine⟨[],fun u y hB hy=>?_,fun u hB=>?_⟩
   ·obtain⟨sl',_,_,cap',rfl,_⟩:=(show ShL u y l from hy)
    have hC:=fun u=>cCheckG p q g h u hp hq
    simp only[chE,if_neg hng] at hC
    simp only[oX,e0,if_neg (show ¬(90:Int)=0 by decide),NV_0]
    exact vopn_c p q g h sl' cap' l u hC
   ·have hC:=fun u=>xCheckG p q g h u hp hq
    simp only[chE,if_neg hng] at hC
    simp only[oX,e0,if_neg (show ¬(90:Int)=0 by decide),NV_0]
    exact xopn_c p q g h sl cap l u hC
 obtain⟨vs,hO,hR⟩:=hA
 exact vssOpens_core p q g h _ _ _ sl len cap l.length gb go l w (vOK hG) (by omega) (by omega) n2 n3 rfl (by omega) (n4.imp (fun e=>by omega) id) n5 n6 (oX_In hq) (oX_In hq) hO hR
end
end Go.Proofs.YtmoimodkopjeeaaGreatDoor
