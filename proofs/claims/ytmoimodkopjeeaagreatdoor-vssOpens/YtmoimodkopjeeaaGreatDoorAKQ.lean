import Derived.Test.YtmoimodkopjeeaaGreatDoorLC5
namespace Go.Proofs.YtmoimodkopjeeaaGreatDoor
set_option linter.unusedVariables false
set_option linter.unusedSimpArgs false
set_option maxRecDepth 100000
set_option maxHeartbeats 4000000
open Go.RowKit
theorem ent_V7:EnT 17:=fun _ _=>by kernel_rfl
abbrev DQ:Value:= .agg L0d.toArray
theorem zDq(w:World):(Instr.build 30 [].toArray).run Tryz.prog w= .ok DQ w:=by kernel_rfl
theorem bdDq(d:Int)(s:Option Addr)(n c:Nat)(w:World):(Instr.build 30 [(0,iI d),(1,.slice s n c)].toArray).run Tryz.prog w= .ok (DX d (.slice s n c)) w:=by kernel_rfl
theorem vdl_c(p q g h d c:Int)(sa sb:Option Addr)(ca cb:Nat)(ss ts:List Int)(w:World)(hc:(c !=0)=true)(hP:Hid (∀u,CC 34 #[GX p q g h,.slice sa ss.length ca,.slice sb ts.length cb] u (iI c))):
 CC 10 #[GX p q g h,iI d,.slice sa ss.length ca,.slice sb ts.length cb] w (.tuple #[DQ,iI c]):=by
 go_enter Tryz.func10,Tryz.ntmps10
 go_upto_region 1 with fail
 obtain⟨v0,hC,HB0,K0⟩:=bx2 w (GE p q g h) 26 L0d 30
 rw[hC]
 clear hC
 refine Rn K0 HB0 (cG 0 15 [_,_,_,_] [(4,10,_)]) (oc (g_ld 0 Tryz.underlying26 Z0)<|oc g_mv<|oc g_mv<|oc (g_cl Zk hP.out)<|oc g_as on) fun u1 HB1 _ K1=>?_
 simp only[sQ] at K1⊢
 go_upto_region 2 with fail
 refine Rn K1 HB1 [(0,20,_),(1,21,_),(2,19,_)] (oc g_mv<|oc (g_bn (fun uZ=>Zw _ _ _ c 0 _ uZ hc))<|oc g_as on) fun u2 HB2 _ K2=>?_
 simp only[sQ] at K2⊢
 go_upto_region 3 with fail
 refine Rp K2 HB2 [.no,.all 2 L0d] [] [(0,22,_),(1,23,_),(3,9,_)] [] [] [] (oc (g_bd zDq)<|oc g_mv<|oc (g_st 1 Zp)<|oc g_as on) fun u3 HB3 _ K3=>?_
 simp only[sQ] at K3⊢
 have c8_0:=((K3.cv 1) 0 _ rfl).1
 have c8_1:=((K3.cv 1) 1 _ rfl).1
 go_wp2
 refine bodyPost_ret (v:= .tuple #[DQ,iI c]) (by simp[results,Tryz.results10,go_sem,c8_0,c8_1]) rfl ⟨rfl,HB3⟩
theorem vdl_n(p q g h d:Int)(sa sb:Option Addr)(ca cb:Nat)(ss ts:List Int)(w:World)(hP:Hid (∀u,CC 34 #[GX p q g h,.slice sa ss.length ca,.slice sb ts.length cb] u (iI 0)))(hN:Hid (∀u,CC 35 #[iI d] u (.bool false))):
 CC 10 #[GX p q g h,iI d,.slice sa ss.length ca,.slice sb ts.length cb] w (.tuple #[DQ,iI 110]):=by
 go_enter Tryz.func10,Tryz.ntmps10
 go_upto_region 1 with fail
 obtain⟨v0,hC,HB0,K0⟩:=bx2 w (GE p q g h) 26 L0d 30
 rw[hC]
 clear hC
 refine Rn K0 HB0 (cG 0 15 [_,_,_,_] [(4,10,_)]) (oc (g_ld 0 Tryz.underlying26 Z0)<|oc g_mv<|oc g_mv<|oc (g_cl Zk hP.out)<|oc g_as on) fun u1 HB1 _ K1=>?_
 simp only[sQ] at K1⊢
 go_upto_region 2 with fail
 refine Rn K1 HB1 [(0,20,_),(1,21,_),(2,19,_)] (oc g_mv<|oc (g_bn (fun uZ=>Zw _ _ _ 0 0 _ uZ rfl))<|oc g_as on) fun u2 HB2 _ K2=>?_
 simp only[sQ] at K2⊢
 go_upto_region 4 with fail
 refine Rn K2 HB2 (cG 0 25 [_,_,_] [(3,24,_)]) (oc g_mv<|oc (g_cl Zj hN.out)<|oc (g_un Ue)<|oc g_as on) fun u3 HB3 _ K3=>?_
 simp only[sQ] at K3⊢
 go_upto_region 5 with fail
 refine Rp K3 HB3 [.no,.all 1 L0d] [] [(0,28,_),(2,9,_)] [] [] [] (oc (g_bd zDq)<|oc (g_st 1 Zp)<|oc g_as on) fun u4 HB4 _ K4=>?_
 simp only[sQ] at K4⊢
 have c8_0:=((K4.cv 1) 0 _ rfl).1
 have c8_1:=((K4.cv 1) 1 _ rfl).1
 go_wp2
 refine bodyPost_ret (v:= .tuple #[DQ,iI 110]) (by simp[results,Tryz.results10,go_sem,c8_0,c8_1]) rfl ⟨rfl,HB4⟩
theorem vdl_k(p q g h d:Int)(sa sb:Option Addr)(ca cb ga oa gb ob:Nat)(ss ts cs:List Int)(w:World)(hP:Hid (∀u,CC 34 #[GX p q g h,.slice sa ss.length ca,.slice sb ts.length cb] u (iI 0)))(hN:Hid (∀u,CC 35 #[iI d] u (.bool true)))(hixa:Hid (∀j,j<ss.length-> ∀W,(Instr.indexAt 27 (.slice sa ss.length ca) (iI j)).run Tryz.prog W= .ok (.pointer (some ⟨ga,oa+4*j,none⟩)) W))(hga:ss.length=0\/ga<w.heap.size)(hSa:Hid (SN w ga oa ss))(hna:Hid (∀k,k<ss.length->In (ss.getD k 0)))(hixb:Hid (∀j,j<ts.length-> ∀W,(Instr.indexAt 27 (.slice sb ts.length cb) (iI j)).run Tryz.prog W= .ok (.pointer (some ⟨gb,ob+4*j,none⟩)) W))(hgb:ts.length=0\/gb<w.heap.size)(hSb:Hid (SN w gb ob ts))(hnb:Hid (∀k,k<ts.length->In (ts.getD k 0)))(hst:Hid (ss.length=ts.length))(h1:1<=ss.length)(h6:ss.length<=6)(hcl:Hid (cs.length=ss.length))(hCm:Hid (∀k,k<ss.length-> ∀u,Bw w u->CC 36 #[GX p q g h,NV (ss.getD k 0),NV (ts.getD k 0)] u (.tuple #[NV (cs.getD k 0),iI 0]))):
 Calls Tryz.prog 10 #[GX p q g h,iI d,.slice sa ss.length ca,.slice sb ts.length cb] w fun e' w'=> ∃y,e'= .returned (.tuple #[DX d y,iI 0])/\PRw w.heap.size cs w' y/\Bw w w':=by
 go_enter Tryz.func10,Tryz.ntmps10
 go_upto_region 1 with fail
 obtain⟨v0,hC,HB0,K0⟩:=bx2 w (GE p q g h) 26 L0d 30
 rw[hC]
 clear hC
 refine Rn K0 HB0 (cG 0 15 [_,_,_,_] [(4,10,_)]) (oc (g_ld 0 Tryz.underlying26 Z0)<|oc g_mv<|oc g_mv<|oc (g_cl Zk hP.out)<|oc g_as on) fun u1 HB1 _ K1=>?_
 simp only[sQ] at K1⊢
 go_upto_region 2 with fail
 refine Rn K1 HB1 [(0,20,_),(1,21,_),(2,19,_)] (oc g_mv<|oc (g_bn (fun uZ=>Zw _ _ _ 0 0 _ uZ rfl))<|oc g_as on) fun u2 HB2 _ K2=>?_
 simp only[sQ] at K2⊢
 go_upto_region 4 with fail
 refine Rn K2 HB2 (cG 0 25 [_,_,_] [(3,24,_)]) (oc g_mv<|oc (g_cl Zj hN.out)<|oc (g_un Vj)<|oc g_as on) fun u3 HB3 _ K3=>?_
 simp only[sQ] at K3⊢
 have hw0:w.heap.size<=u3.heap.size:=HB3.size
 go_upto_region 6 with fail
 refine Rf K3 HB3 [] [] [(0,29,_),(1,30,_)] [] [] [⟨2,31,some 3,PRz u3.heap.size ss.length⟩,⟨3,11,none,PRz u3.heap.size ss.length⟩] [] (oc g_mv<|oc (g_ln Tryz.underlying27)<|oc (g_mS 0 (PRz u3.heap.size ss.length) ss.length (flN (List.replicate ss.length 0)) (mkNt _ (by omega)) (fun u h=>PRz.new u h))<|oc (g_sE 0 1 (PRz u3.heap.size ss.length)) on) fun u4 v4_2 hv4_2 v4_3 hv4_3 HB4 _ K4=>?_
 simp only[sQ] at K4⊢
 obtain⟨bo,rfl,o1,o2,o3⟩:=hv4_3 rfl
 have K4xo:=Bk.more3 K3 K4 o1 o2 o3 (by intro x hx;first | (simp at hx;done) | (simp at hx⊢;omega))
 simp only[aK] at K4xo
 have hbo:w.heap.size<=bo:=Nat.le_trans hw0 o1
 go_upto_region 7 with fail
 refine Rn K4xo HB4 (cG 0 32 [_,_,_] []) (oc g_mv<|oc (g_ln Tryz.underlying27)<|oc g_mv on) fun u5 HB5 _ K5=>?_
 simp only[sQ] at K5⊢
 go_wp2_with fail
 go_loopw [34] (fun s34 wr=> ∃(k:Nat),k<=ss.length/\s34=iI (k:Int)/\Bw w wr/\CV wr (w.heap.size) (GE p q g h)/\w.heap.size<wr.heap.size/\CV wr (w.heap.size+1) (L0d)/\w.heap.size+1<wr.heap.size/\CV wr bo (flN (rowN cs k))/\bo<wr.heap.size) (fun s34 _=>ss.length -(intOf s34).toNat)
 case atStart=>exact⟨0,by omega,rfl,HB5,(K5.cv 0),(K5.lt 0),(K5.cv 1),(K5.lt 1),by rw[rowN_0,hcl.out];exact(K5.cv 2),(K5.lt 2)⟩
 case round=>
  obtain⟨k,hk,rfl,HBr,C0,lC0,C1,lC1,C2,lC2⟩:=hrel
  have hnK:=K5.n
  simp at hnK
  by_cases hj:k<ss.length
  ·have hl:decide ((k:Int)<(ss.length:Int))=true:=by simp;omega
   have hj2:k<ts.length:=by have:=hst.out;omega
   have hkx:k<cs.length:=by rw[hcl.out];exact hj
   have hX:=hixa.out _ hj
   have hX:Hid _:=hX
   have hR:=hSa.out.at _ hj
   have hR:Hid _:=hR
   have hXb:=hixb.out _ hj2
   have hXb:Hid _:=hXb
   have hRb:=hSb.out.at _ hj2
   have hRb:Hid _:=hRb
   have ga':=hga.resolve_left (by omega)
   have gb':=hgb.resolve_left (by omega)
   have hM:=hCm.out k hj
   obtain⟨x,ex⟩: ∃x,ss.getD k 0=x:=⟨_,rfl⟩
   rw[ex] at hR hM
   clear ex
   obtain⟨y,ey⟩: ∃y,ts.getD k 0=y:=⟨_,rfl⟩
   rw[ey] at hRb hM
   clear ey
   have hXL:=V4 (vs:=cs) (k:=k) (by omega)
   have hNx:=Xy (vs:=cs) (k:=k) (by omega)
   rw[Xd (vs:=cs) (k:=k) (by omega)] at C2
   obtain⟨X,eX⟩: ∃X,flN (List.take k cs)=X:=⟨_,rfl⟩
   obtain⟨Z,eZ⟩: ∃Z,flN (List.replicate (List.length cs -(k+1)) 0)=Z:=⟨_,rfl⟩
   rw[eX] at hXL hNx C2
   rw[eZ] at hNx C2
   clear eX eZ
   obtain⟨c,ec⟩: ∃c,cs.getD k 0=c:=⟨_,rfl⟩
   rw[ec] at hM hNx
   clear ec hkx
   have hXL:Hid _:=hXL
   have hNx:Hid _:=hNx
   have hM:Hid _:=hM
   have K5_1:Bk w.heap.size wr [(false,w.heap.size,GE p q g h),(true,w.heap.size+1,L0d),(true,bo,X++LN 0++Z)]:=⟨.c lC0 C0<| .o lC1 (K5.lo 1) C1<| .o lC2 (by omega) C2<|trivial,by simp<;>omega⟩
   go_upto_region 8 with fail
   refine Rn K5_1 HBr [(0,35,_)] (oc (g_bn (fun uZ=>Z6 _ _ (k:Int) (ss.length:Int) _ uZ hl)) on) fun u6 HB6 sz6 K6=>?_
   simp only[sQ] at K6⊢
   go_upto_region 9 with fail
   refine Rn K6 HB6 [(0,36,_),(1,12,_)] (oc g_mv<|oc g_as on) fun u7 HB7 sz7 K7=>?_
   simp only[sQ] at K7⊢
   go_upto_region 10 with fail
   refine Rd K7 HB7 [] [(13,13,L0s,some (14,LN c))] (cG 0 38 [_,_,_,_,_,_,_,_,_,_] [(10,37,_),(11,48,_),(12,49,_),(15,14,_)]) [(14,13)] [] [] (oc (g_ld 0 Tryz.underlying26 Z0)<|oc g_mv<|oc g_mv<|oc (g_ix hX.out)<|oc (g_lf hR.out ga' uN iN)<|oc g_mv<|oc g_mv<|oc (g_ix hXb.out)<|oc (g_lf hRb.out gb' uN iN)<|oc (g_cb ent_V4 hM.out)<|oc g_mv<|oc g_ex<|oc g_ex<|oc (g_al 0 aN)<|oc (g_sn 0 iN)<|oc g_as on) fun u8 b8_13 HB8 _ K8=>?_
   simp only[sQ] at K8⊢
   go_upto_region 11 with fail
   refine Rn K8 HB8 [(0,50,_),(1,51,_)] (oc g_mv<|oc (g_bn (fun uZ=>Zw _ _ _ 0 0 _ uZ rfl)) on) fun u9 HB9 _ K9=>?_
   simp only[sQ] at K9⊢
   go_upto_region 13 with fail
   refine Rp K9 HB9 [.no,.no,.all 4 (X++LN c++Z)] [] (cG 0 54 [_,_,_,_] []) [] [] [] (oc g_mv<|oc g_mv<|oc (g_ld 3 uN iN)<|oc (g_ix (ixZ _ _ _ k hj))<|oc (g_sm 2 (4*k) X (LN 0) Z (post:=LN c) (hxc:=hXL.out) iN) on) fun u10 HB10 _ K10=>?_
   simp only[sQ] at K10⊢
   go_upto_region 14 with fail
   refine Rp K10 HB10 [] [] [(0,58,_),(1,34,_)] [(1,0)] [(1,34)] [] (oc (g_bn (fun uZ=>Zm _ _ (k:Int) 1 ((k+1:Nat):Int) uZ (by omega) (by omega) (by omega)))<|oc g_mv on) fun u11 HB11 _ K11=>?_
   simp only[sQ] at K11⊢
   go_wp2
   refine⟨⟨k+1,by omega,rfl,HB11,(K11.cv 0),(K11.lt 0),(K11.cv 1),(K11.lt 1),by rw[hNx.out];exact(K11.cv 2),(K11.lt 2)⟩,?_⟩
   simp[intOf]<;>omega
  ·have hl:decide ((k:Int)<(ss.length:Int))=false:=by simp;omega
   have hkn:k=cs.length:=by rw[hcl.out];omega
   rw[hkn,Vw] at C2
   clear hkn
   have K5_1:Bk w.heap.size wr [(false,w.heap.size,GE p q g h),(true,w.heap.size+1,L0d),(true,bo,flN cs)]:=⟨.c lC0 C0<| .o lC1 (K5.lo 1) C1<| .o lC2 (by omega) C2<|trivial,by simp<;>omega⟩
   go_upto_region 8 with fail
   refine Rn K5_1 HBr [(0,35,_)] (oc (g_bn (fun uZ=>Z6 _ _ (k:Int) (ss.length:Int) _ uZ hl)) on) fun u6 HB6 sz6 K6=>?_
   simp only[sQ] at K6⊢
   go_upto_region 15 with fail
   refine Rp K6 HB6 [.no,.all 3 (DE d (.slice (some ⟨bo,0,none⟩) ss.length ss.length))] [] (cG 0 59 [_,_,_] [(4,9,_)]) [] [] [] (oc g_mv<|oc g_mv<|oc (g_bd (bdDq d _ _ _))<|oc (g_st 1 Zp)<|oc g_as on) fun u7 HB7 sz7 K7=>?_
   simp only[sQ] at K7⊢
   have c0:=((K7.cv 1) 0 _ rfl).1
   have c1:=((K7.cv 1) 1 _ rfl).1
   go_wp2
   exact bodyPost_ret (v:= .tuple #[DX d (.slice (some ⟨bo,0,none⟩) ss.length ss.length),iI 0]) (by simp[results,Tryz.results10,go_sem,c0,c1]) rfl ⟨_,rfl,⟨bo,by rw[hcl.out],hbo,(K7.lt 2),(K7.cv 2)⟩,HB7⟩
theorem vdl_m(p q g h d er:Int)(sa sb:Option Addr)(ca cb ga oa gb ob:Nat)(ss ts cs:List Int)(w:World)(he:(er !=0)=true)(hP:Hid (∀u,CC 34 #[GX p q g h,.slice sa ss.length ca,.slice sb ts.length cb] u (iI 0)))(hN:Hid (∀u,CC 35 #[iI d] u (.bool true)))(hixa:Hid (∀j,j<ss.length-> ∀W,(Instr.indexAt 27 (.slice sa ss.length ca) (iI j)).run Tryz.prog W= .ok (.pointer (some ⟨ga,oa+4*j,none⟩)) W))(hga:ss.length=0\/ga<w.heap.size)(hSa:Hid (SN w ga oa ss))(hna:Hid (∀k,k<ss.length->In (ss.getD k 0)))(hixb:Hid (∀j,j<ts.length-> ∀W,(Instr.indexAt 27 (.slice sb ts.length cb) (iI j)).run Tryz.prog W= .ok (.pointer (some ⟨gb,ob+4*j,none⟩)) W))(hgb:ts.length=0\/gb<w.heap.size)(hSb:Hid (SN w gb ob ts))(hnb:Hid (∀k,k<ts.length->In (ts.getD k 0)))(hst:Hid (ss.length=ts.length))(h1:1<=ss.length)(h6:ss.length<=6)(hcl:Hid (cs.length=ss.length))(hCm:Hid (∀k,k<ss.length-> ∀u,Bw w u->CC 36 #[GX p q g h,NV (ss.getD k 0),NV (ts.getD k 0)] u (.tuple #[NV (cs.getD k 0),iI er]))):
 CC 10 #[GX p q g h,iI d,.slice sa ss.length ca,.slice sb ts.length cb] w (.tuple #[DQ,iI er]):=by
 go_enter Tryz.func10,Tryz.ntmps10
 go_upto_region 1 with fail
 obtain⟨v0,hC,HB0,K0⟩:=bx2 w (GE p q g h) 26 L0d 30
 rw[hC]
 clear hC
 refine Rn K0 HB0 (cG 0 15 [_,_,_,_] [(4,10,_)]) (oc (g_ld 0 Tryz.underlying26 Z0)<|oc g_mv<|oc g_mv<|oc (g_cl Zk hP.out)<|oc g_as on) fun u1 HB1 _ K1=>?_
 simp only[sQ] at K1⊢
 go_upto_region 2 with fail
 refine Rn K1 HB1 [(0,20,_),(1,21,_),(2,19,_)] (oc g_mv<|oc (g_bn (fun uZ=>Zw _ _ _ 0 0 _ uZ rfl))<|oc g_as on) fun u2 HB2 _ K2=>?_
 simp only[sQ] at K2⊢
 go_upto_region 4 with fail
 refine Rn K2 HB2 (cG 0 25 [_,_,_] [(3,24,_)]) (oc g_mv<|oc (g_cl Zj hN.out)<|oc (g_un Vj)<|oc g_as on) fun u3 HB3 _ K3=>?_
 simp only[sQ] at K3⊢
 have hw0:w.heap.size<=u3.heap.size:=HB3.size
 go_upto_region 6 with fail
 refine Rf K3 HB3 [] [] [(0,29,_),(1,30,_)] [] [] [⟨2,31,some 3,PRz u3.heap.size ss.length⟩,⟨3,11,none,PRz u3.heap.size ss.length⟩] [] (oc g_mv<|oc (g_ln Tryz.underlying27)<|oc (g_mS 0 (PRz u3.heap.size ss.length) ss.length (flN (List.replicate ss.length 0)) (mkNt _ (by omega)) (fun u h=>PRz.new u h))<|oc (g_sE 0 1 (PRz u3.heap.size ss.length)) on) fun u4 v4_2 hv4_2 v4_3 hv4_3 HB4 _ K4=>?_
 simp only[sQ] at K4⊢
 obtain⟨bo,rfl,o1,o2,o3⟩:=hv4_3 rfl
 have K4xo:=Bk.more3 K3 K4 o1 o2 o3 (by intro x hx;first | (simp at hx;done) | (simp at hx⊢;omega))
 simp only[aK] at K4xo
 have hbo:w.heap.size<=bo:=Nat.le_trans hw0 o1
 go_upto_region 7 with fail
 refine Rn K4xo HB4 (cG 0 32 [_,_,_] []) (oc g_mv<|oc (g_ln Tryz.underlying27)<|oc g_mv on) fun u5 HB5 _ K5=>?_
 simp only[sQ] at K5⊢
 go_wp2_with fail
 go_loopw [34] (fun s34 wr=> ∃(k:Nat),k<=ss.length/\s34=iI (k:Int)/\Bw w wr/\CV wr (w.heap.size) (GE p q g h)/\w.heap.size<wr.heap.size/\CV wr (w.heap.size+1) (L0d)/\w.heap.size+1<wr.heap.size/\CV wr bo (flN (rowN cs k))/\bo<wr.heap.size/\k=0) (fun s34 _=>ss.length -(intOf s34).toNat)
 case atStart=>exact⟨0,by omega,rfl,HB5,(K5.cv 0),(K5.lt 0),(K5.cv 1),(K5.lt 1),by rw[rowN_0,hcl.out];exact(K5.cv 2),(K5.lt 2),rfl⟩
 case round=>
  obtain⟨k,hk,rfl,HBr,C0,lC0,C1,lC1,C2,lC2,k0⟩:=hrel
  have hnK:=K5.n
  simp at hnK
  by_cases hj:k<ss.length
  ·have hl:decide ((k:Int)<(ss.length:Int))=true:=by simp;omega
   have hj2:k<ts.length:=by have:=hst.out;omega
   have hkx:k<cs.length:=by rw[hcl.out];exact hj
   have hX:=hixa.out _ hj
   have hX:Hid _:=hX
   have hR:=hSa.out.at _ hj
   have hR:Hid _:=hR
   have hXb:=hixb.out _ hj2
   have hXb:Hid _:=hXb
   have hRb:=hSb.out.at _ hj2
   have hRb:Hid _:=hRb
   have ga':=hga.resolve_left (by omega)
   have gb':=hgb.resolve_left (by omega)
   have hM:=hCm.out k hj
   obtain⟨x,ex⟩: ∃x,ss.getD k 0=x:=⟨_,rfl⟩
   rw[ex] at hR hM
   clear ex
   obtain⟨y,ey⟩: ∃y,ts.getD k 0=y:=⟨_,rfl⟩
   rw[ey] at hRb hM
   clear ey
   obtain⟨c,ec⟩: ∃c,cs.getD k 0=c:=⟨_,rfl⟩
   rw[ec] at hM
   clear ec hkx
   have hM:Hid _:=hM
   have K5_1:Bk w.heap.size wr [(false,w.heap.size,GE p q g h),(true,w.heap.size+1,L0d),(true,bo,flN (rowN cs k))]:=⟨.c lC0 C0<| .o lC1 (K5.lo 1) C1<| .o lC2 (by omega) C2<|trivial,by simp<;>omega⟩
   go_upto_region 8 with fail
   refine Rn K5_1 HBr [(0,35,_)] (oc (g_bn (fun uZ=>Z6 _ _ (k:Int) (ss.length:Int) _ uZ hl)) on) fun u6 HB6 _ K6=>?_
   simp only[sQ] at K6⊢
   go_upto_region 9 with fail
   refine Rn K6 HB6 [(0,36,_),(1,12,_)] (oc g_mv<|oc g_as on) fun u7 HB7 _ K7=>?_
   simp only[sQ] at K7⊢
   go_upto_region 10 with fail
   refine Rd K7 HB7 [] [(13,13,L0s,some (14,LN c))] (cG 0 38 [_,_,_,_,_,_,_,_,_,_] [(10,37,_),(11,48,_),(12,49,_),(15,14,_)]) [(14,13)] [] [] (oc (g_ld 0 Tryz.underlying26 Z0)<|oc g_mv<|oc g_mv<|oc (g_ix hX.out)<|oc (g_lf hR.out ga' uN iN)<|oc g_mv<|oc g_mv<|oc (g_ix hXb.out)<|oc (g_lf hRb.out gb' uN iN)<|oc (g_cb ent_V4 hM.out)<|oc g_mv<|oc g_ex<|oc g_ex<|oc (g_al 0 aN)<|oc (g_sn 0 iN)<|oc g_as on) fun u8 b8_13 HB8 _ K8=>?_
   simp only[sQ] at K8⊢
   go_upto_region 11 with fail
   refine Rn K8 HB8 [(0,50,_),(1,51,_)] (oc g_mv<|oc (g_bn (fun uZ=>Zw _ _ _ er 0 _ uZ he)) on) fun u9 HB9 _ K9=>?_
   simp only[sQ] at K9⊢
   go_upto_region 12 with fail
   refine Rp K9 HB9 [.no,.all 2 L0d] [] [(0,52,_),(1,53,_),(3,9,_)] [] [] [] (oc (g_bd zDq)<|oc g_mv<|oc (g_st 1 Zp)<|oc g_as on) fun u10 HB10 _ K10=>?_
   simp only[sQ] at K10⊢
   have c8_0:=((K10.cv 1) 0 _ rfl).1
   have c8_1:=((K10.cv 1) 1 _ rfl).1
   go_wp2
   refine bodyPost_ret (v:= .tuple #[DQ,iI er]) (by simp[results,Tryz.results10,go_sem,c8_0,c8_1]) rfl ⟨rfl,HB10⟩
  ·exact absurd k0 (by omega)
theorem NL_nil(u:World):NL u (.slice none 0 0) []:=⟨none,0,0,0,rfl,Nat.le_refl _,fun _=>rfl,.inl rfl,.inl rfl,SN.empty rfl⟩
theorem vDeal(p q g h d:Int)(ss ts:List Int)(v v2:Value)(w:World)(hG:GT w)(hp:In p)(hq:In q)(hg:In g)(hh:In h)(hv:NL w v ss)(hv2:NL w v2 ts)(hs: ∀z∈ss,In z)(ht: ∀z∈ts,In z):Calls Tryz.prog 10 #[GX p q g h,iI d,v,v2] w fun e u=> ∃y,e= .returned (.tuple #[DX (dlD p q g h d ss ts) y,iI (dlE p q g h d ss ts)])/\NL u y (dlC p q g h d ss ts)/\Bw w u:=by
 obtain⟨sa,ga,oa,ca,rfl,a2,a3,a4,a5,a6⟩:=hv
 obtain⟨sb,gb,ob,cb,rfl,b2,b3,b4,b5,b6⟩:=hv2
 have hP:=fun u=>vPolys p q g h sa sb ss.length ts.length ca cb u hp hq
 have hN:=fun u=>vNode d u
 have no: ∀c:Int,c≠0->dlE p q g h d ss ts=c-> ∀(e:Ending) (u:World),(e= .returned (.tuple #[DQ,iI c])/\Bw w u)-> ∃y,e= .returned (.tuple #[DX (dlD p q g h d ss ts) y,iI (dlE p q g h d ss ts)])/\NL u y (dlC p q g h d ss ts)/\Bw w u:=fun c hc h1 e u h2=>by
  rw[dlD,dlC,h1,if_neg hc,if_neg hc]
  exact⟨_,h2.1,NL_nil u,h2.2⟩
 unfold plE at hP
 by_cases c1:gOk p q
 ·simp only[if_pos c1] at hP
  by_cases c2:shB ss.length ts.length=true
  ·simp only[if_pos c2] at hP
   have hb2:=shB_iff.1 c2
   by_cases c3:ndB d=true
   ·rw[show decide (1<=d/\d<=16)=true from c3] at hN
    have hC:=fun k (hk:k<ss.length) u (hB:Bw w u)=>cComG p q g h (ss.getD k 0) (ts.getD k 0) u (hG.below hB) hp hq hg hh (Yc hs k hk) (Yc ht k (by omega))
    have hcs: ∀k,k<ss.length->coX p q g h (ss.getD k 0) (ts.getD k 0)=(cmS p q g h ss ts).getD k 0:=fun k hk=>by rw[cmS,Xg hk]
    by_cases c4:(isB p q g&&isB p q h)=true
    ·have e0:dlE p q g h d ss ts=0:=by simp[dlE,c1,c2,c3,c4]
     have e1:coE p q g h=0:=by rw[coE,if_pos c4]
     refine(vdl_k p q g h d sa sb ca cb ga oa gb ob ss ts (cmS p q g h ss ts) w hP hN (NL.ix (u:=w) a4) a5 a6 (Yc hs) (NL.ix (u:=w) b4) b5 b6 (Yc ht) hb2.1 hb2.2.1 hb2.2.2 (Ul _ _ _ _ _ _) (fun k hk u hB=>by have:=hC k hk u hB;rw[e1,hcs k hk] at this;exact this)).mono fun e u ⟨y,h1,h2,h3⟩=>?_
     refine⟨y,?_,?_,h3⟩
     ·rw[dlD,e0,if_pos rfl];exact h1
     ·rw[dlC,e0,if_pos rfl];exact h2.nl
    ·have e0:dlE p q g h d ss ts=90:=by simp only[dlE,c1,c2,c3,if_true,Bool.and_true,Bool.true_and];rw[if_neg c4]
     have e1:coE p q g h=90:=by rw[coE,if_neg c4]
     exact(vdl_m p q g h d 90 sa sb ca cb ga oa gb ob ss ts (cmS p q g h ss ts) w (by decide) hP hN (NL.ix (u:=w) a4) a5 a6 (Yc hs) (NL.ix (u:=w) b4) b5 b6 (Yc ht) hb2.1 hb2.2.1 hb2.2.2 (Ul _ _ _ _ _ _) (fun k hk u hB=>by have:=hC k hk u hB;rw[e1,hcs k hk] at this;exact this)).mono fun e u h2=>no 90 (by decide) e0 e u h2
   ·rw[Bool.not_eq_true] at c3
    rw[show decide (1<=d/\d<=16)=false from c3] at hN
    exact(vdl_n p q g h d sa sb ca cb ss ts w hP hN).mono fun e u h2=>no 110 (by decide) (by simp[dlE,c1,c3]) e u h2
  ·simp only[if_neg c2] at hP
   exact(vdl_c p q g h d 110 sa sb ca cb ss ts w (by decide) hP).mono fun e u h2=>no 110 (by decide) (by simp[dlE,c1,c2]) e u h2
 ·simp only[if_neg c1] at hP
  exact(vdl_c p q g h d 90 sa sb ca cb ss ts w (by decide) hP).mono fun e u h2=>no 90 (by decide) (by simp[dlE,c1]) e u h2
theorem vat_c(p q g h d nd c:Int)(sl:Option Addr)(cap:Nat)(ns:List Int)(w:World)(hc:(c !=0)=true)(hK:Hid (∀u,Bw w u->CC 19 #[GX p q g h,DX d (.slice sl ns.length cap)] u (iI c))):
 CC 17 #[GX p q g h,DX d (.slice sl ns.length cap),iI nd] w (.tuple #[A4 0 0 0 0,iI c]):=by
 go_enter Tryz.func17,Tryz.ntmps17
 go_upto_region 1 with fail
 obtain⟨v0,hC,HB0,K0⟩:=bx3 w (GE p q g h) 26 (DE d (.slice sl ns.length cap)) 30 L0s 24
 rw[hC]
 clear hC
 refine Rn K0 HB0 (cG 0 13 [_,_,_] [(3,8,_)]) (oc (g_ld 0 Tryz.underlying26 Z0)<|oc (g_ld 1 Tryz.underlying30 Zp)<|oc (g_cb Wd hK.out)<|oc g_as on) fun u1 HB1 _ K1=>?_
 simp only[sQ] at K1⊢
 go_upto_region 2 with fail
 refine Rn K1 HB1 [(0,17,_),(1,18,_),(2,16,_)] (oc g_mv<|oc (g_bn (fun uZ=>Zw _ _ _ c 0 _ uZ hc))<|oc g_as on) fun u2 HB2 _ K2=>?_
 simp only[sQ] at K2⊢
 go_upto_region 3 with fail
 refine Rp K2 HB2 [.no,.no,.all 2 ([iU (0),iU (0),iU (0),iU (0)])] [] [(0,19,_),(1,20,_),(3,7,_)] [] [] [] (oc (g_bd zN)<|oc g_mv<|oc (g_st 2 iN)<|oc g_as on) fun u3 HB3 _ K3=>?_
 simp only[sQ] at K3⊢
 have c6:=(K3.cv 2).n4
 go_wp2
 refine bodyPost_ret (v:= .tuple #[A4 0 0 0 0,iI c]) (by simp[results,Tryz.results17,go_sem,c6]) rfl ⟨rfl,HB3⟩
theorem vat_n(p q g h d nd:Int)(sl:Option Addr)(cap:Nat)(ns:List Int)(w:World)(hK:Hid (∀u,Bw w u->CC 19 #[GX p q g h,DX d (.slice sl ns.length cap)] u (iI 0)))(hN:Hid (∀u,CC 35 #[iI nd] u (.bool false))):
 CC 17 #[GX p q g h,DX d (.slice sl ns.length cap),iI nd] w (.tuple #[A4 0 0 0 0,iI 2]):=by
 go_enter Tryz.func17,Tryz.ntmps17
 go_upto_region 1 with fail
 obtain⟨v0,hC,HB0,K0⟩:=bx3 w (GE p q g h) 26 (DE d (.slice sl ns.length cap)) 30 L0s 24
 rw[hC]
 clear hC
 refine Rn K0 HB0 (cG 0 13 [_,_,_] [(3,8,_)]) (oc (g_ld 0 Tryz.underlying26 Z0)<|oc (g_ld 1 Tryz.underlying30 Zp)<|oc (g_cb Wd hK.out)<|oc g_as on) fun u1 HB1 _ K1=>?_
 simp only[sQ] at K1⊢
 go_upto_region 2 with fail
 refine Rn K1 HB1 [(0,17,_),(1,18,_),(2,16,_)] (oc g_mv<|oc (g_bn (fun uZ=>Zw _ _ _ 0 0 _ uZ rfl))<|oc g_as on) fun u2 HB2 _ K2=>?_
 simp only[sQ] at K2⊢
 go_upto_region 4 with fail
 refine Rn K2 HB2 (cG 0 22 [_,_,_] [(3,21,_)]) (oc g_mv<|oc (g_cl Zj hN.out)<|oc (g_un Ue)<|oc g_as on) fun u3 HB3 _ K3=>?_
 simp only[sQ] at K3⊢
 go_upto_region 5 with fail
 refine Rp K3 HB3 [.no,.no,.all 1 ([iU (0),iU (0),iU (0),iU (0)])] [] [(0,25,_),(2,7,_)] [] [] [] (oc (g_bd zN)<|oc (g_st 2 iN)<|oc g_as on) fun u4 HB4 _ K4=>?_
 simp only[sQ] at K4⊢
 have c6:=(K4.cv 2).n4
 go_wp2
 refine bodyPost_ret (v:= .tuple #[A4 0 0 0 0,iI 2]) (by simp[results,Tryz.results17,go_sem,c6]) rfl ⟨rfl,HB4⟩
theorem vat_k(p q g h d nd r:Int)(sl:Option Addr)(gb go cap:Nat)(ns rs:List Int)(w:World)(hK:Hid (∀u,Bw w u->CC 19 #[GX p q g h,DX d (.slice sl ns.length cap)] u (iI 0)))(hN:Hid (∀u,CC 35 #[iI nd] u (.bool true)))(hix:Hid (∀j,j<ns.length-> ∀W,(Instr.indexAt 27 (.slice sl ns.length cap) (iI j)).run Tryz.prog W= .ok (.pointer (some ⟨gb,go+4*j,none⟩)) W))(hg:ns.length=0\/gb<w.heap.size)(hS:Hid (SN w gb go ns))(hn:Hid (∀k,k<ns.length->In (ns.getD k 0)))(hns:ns.length<=1000)(h6:ns.length<=6)(hrl:Hid (rs.length=ns.length))(hbd:Hid (∀k,k<=6->0<=nd^k/\nd^k<=16777216))(hEx:Hid (∀k,k<ns.length-> ∀u,Bw w u->CC 46 #[GX p q g h,NV (ns.getD k 0),NV (nd^k)] u (.tuple #[NV (rs.getD k 0),iI 0])))(hMu:Hid (∀(u:World) b,Bw w u->b<u.heap.size->CV u b (flN rs)->CC 47 #[GX p q g h,.slice (some ⟨b,0,none⟩) ns.length ns.length] u (.tuple #[NV r,iI 0]))):
 CC 17 #[GX p q g h,DX d (.slice sl ns.length cap),iI nd] w (.tuple #[NV r,iI 0]):=by
 go_enter Tryz.func17,Tryz.ntmps17
 go_upto_region 1 with fail
 obtain⟨v0,hC,HB0,K0⟩:=bx3 w (GE p q g h) 26 (DE d (.slice sl ns.length cap)) 30 L0s 24
 rw[hC]
 clear hC
 refine Rn K0 HB0 (cG 0 13 [_,_,_] [(3,8,_)]) (oc (g_ld 0 Tryz.underlying26 Z0)<|oc (g_ld 1 Tryz.underlying30 Zp)<|oc (g_cb Wd hK.out)<|oc g_as on) fun u1 HB1 _ K1=>?_
 simp only[sQ] at K1⊢
 go_upto_region 2 with fail
 refine Rn K1 HB1 [(0,17,_),(1,18,_),(2,16,_)] (oc g_mv<|oc (g_bn (fun uZ=>Zw _ _ _ 0 0 _ uZ rfl))<|oc g_as on) fun u2 HB2 _ K2=>?_
 simp only[sQ] at K2⊢
 go_upto_region 4 with fail
 refine Rn K2 HB2 (cG 0 22 [_,_,_] [(3,21,_)]) (oc g_mv<|oc (g_cl Zj hN.out)<|oc (g_un Vj)<|oc g_as on) fun u3 HB3 _ K3=>?_
 simp only[sQ] at K3⊢
 have hw0:w.heap.size<=u3.heap.size:=HB3.size
 go_upto_region 6 with fail
 refine Rf K3 HB3 [] [] (cG 0 26 [_,_,_] []) [] [] [⟨3,29,some 4,PRz u3.heap.size ns.length⟩,⟨4,9,none,PRz u3.heap.size ns.length⟩] [] (oc (g_fd (fdD1 _))<|oc (g_lc 1 1 lSN)<|oc (g_ln Tryz.underlying27)<|oc (g_mS 0 (PRz u3.heap.size ns.length) ns.length (flN (List.replicate ns.length 0)) (mkNt _ (by omega)) (fun u h=>PRz.new u h))<|oc (g_sE 0 1 (PRz u3.heap.size ns.length)) on) fun u4 v4_3 hv4_3 v4_4 hv4_4 HB4 _ K4=>?_
 simp only[sQ] at K4⊢
 obtain⟨bo,rfl,o1,o2,o3⟩:=hv4_4 rfl
 have K4xo:=Bk.more3 K3 K4 o1 o2 o3 (by intro x hx;first | (simp at hx;done) | (simp at hx⊢;omega))
 simp only[aK] at K4xo
 have hbo:w.heap.size<=bo:=Nat.le_trans hw0 o1
 go_upto_region 7 with fail
 refine Rn K4xo HB4 [(0,10,_)] (oc g_as on) fun u5 HB5 _ K5=>?_
 simp only[sQ] at K5⊢
 go_upto_region 8 with fail
 refine Rn K5 HB5 (cG 0 30 [_,_,_,_] []) (oc (g_fd (fdD1 _))<|oc (g_lc 1 1 lSN)<|oc (g_ln Tryz.underlying27)<|oc g_mv on) fun u6 HB6 _ K6=>?_
 simp only[sQ] at K6⊢
 go_wp2_with fail
 go_loopw [33,10] (fun s33 s10 wr=> ∃(k:Nat),k<=ns.length/\s33=iI (k:Int)/\s10=iI (nd^k)/\Bw w wr/\CV wr (w.heap.size) (GE p q g h)/\w.heap.size<wr.heap.size/\CV wr (w.heap.size+1) (DE d (.slice sl ns.length cap))/\w.heap.size+1<wr.heap.size/\CV wr (w.heap.size+1+1) (L0s)/\w.heap.size+1+1<wr.heap.size/\CV wr bo (flN (rowN rs k))/\bo<wr.heap.size) (fun s33 _ _=>ns.length -(intOf s33).toNat)
 case atStart=>exact⟨0,by omega,rfl,by rw[Int.pow_zero],HB6,(K6.cv 0),(K6.lt 0),(K6.cv 1),(K6.lt 1),(K6.cv 2),(K6.lt 2),by rw[rowN_0,hrl.out];exact(K6.cv 3),(K6.lt 3)⟩
 case round=>
  obtain⟨k,hk,rfl,rfl,HBr,C0,lC0,C1,lC1,C2,lC2,C3,lC3⟩:=hrel
  have hnK:=K6.n
  simp at hnK
  by_cases hj:k<ns.length
  ·have hl:decide ((k:Int)<(ns.length:Int))=true:=by simp;omega
   have hkx:k<rs.length:=by rw[hrl.out];exact hj
   have hX:=hix.out _ hj
   have hX:Hid _:=hX
   have hR:=hS.out.at _ hj
   have hR:Hid _:=hR
   have hg':=hg.resolve_left (by omega)
   have hE:=hEx.out k hj
   have hb0:=hbd.out k (by omega)
   have hb1:=hbd.out (k+1) (by omega)
   have hs:Hid (nd^k*nd=nd^(k+1)):=(Int.pow_succ nd k).symm
   obtain⟨z,ez⟩: ∃z,nd^(k+1)=z:=⟨_,rfl⟩
   have ez':Hid (nd^(k+1)=z):=ez
   rw[ez] at hb1 hs
   clear ez
   obtain⟨e,ee⟩: ∃e,nd^k=e:=⟨_,rfl⟩
   rw[ee] at hb0 hs hE
   obtain⟨x,ex⟩: ∃x,ns.getD k 0=x:=⟨_,rfl⟩
   rw[ex] at hR hE
   clear ex
   simp only[ee]
   have hXL:=V4 (vs:=rs) (k:=k) (by omega)
   have hNx:=Xy (vs:=rs) (k:=k) (by omega)
   rw[Xd (vs:=rs) (k:=k) (by omega)] at C3
   obtain⟨X,eX⟩: ∃X,flN (List.take k rs)=X:=⟨_,rfl⟩
   obtain⟨Z,eZ⟩: ∃Z,flN (List.replicate (List.length rs -(k+1)) 0)=Z:=⟨_,rfl⟩
   rw[eX] at hXL hNx C3
   rw[eZ] at hNx C3
   clear eX eZ
   obtain⟨y,ey⟩: ∃y,rs.getD k 0=y:=⟨_,rfl⟩
   rw[ey] at hE hNx
   clear ey hkx
   have hXL:Hid _:=hXL
   have hNx:Hid _:=hNx
   have hE:Hid _:=hE
   have K6_1:Bk w.heap.size wr [(false,w.heap.size,GE p q g h),(false,w.heap.size+1,DE d (.slice sl ns.length cap)),(true,w.heap.size+1+1,L0s),(true,bo,X++LN 0++Z)]:=⟨.c lC0 C0<| .c lC1 C1<| .o lC2 (K6.lo 2) C2<| .o lC3 (by omega) C3<|trivial,by simp<;>omega⟩
   go_upto_region 9 with fail
   refine Rn K6_1 HBr [(0,34,_)] (oc (g_bn (fun uZ=>Z6 _ _ (k:Int) (ns.length:Int) _ uZ hl)) on) fun u7 HB7 sz7 K7=>?_
   simp only[sQ] at K7⊢
   go_upto_region 10 with fail
   refine Rp K7 HB7 [] [(3,12,L0s,some (5,LN x))] (cG 0 35 [_,_,_] [(4,11,_)]) [(5,3)] [] [] (oc g_mv<|oc (g_ix hX.out)<|oc (g_lf hR.out hg' uN iN)<|oc (g_al 0 aN)<|oc g_as<|oc (g_sn 0 iN) on) fun u8 b8_3 HB8 sz8 K8=>?_
   simp only[sQ] at K8⊢
   go_upto_region 11 with fail
   refine Rd K8 HB8 [.no,.no,.no,.all 11 (X++LN y++Z)] [] (cG 0 39 [_,_,_,_,_,_,_] [(7,38,_),(8,46,_),(9,47,_),(10,48,_)]) [] [] [] (oc g_mv<|oc g_mv<|oc (g_ld 0 Tryz.underlying26 Z0)<|oc (g_ld 4 uN iN)<|oc g_mv<|oc (g_cl Yx (fun uZ=>vNumber e uZ hb0.1 (by omega)))<|oc (g_cb ent_V5 hE.out)<|oc g_mv<|oc g_ex<|oc g_ex<|oc (g_ix (ixZ _ _ _ k hj))<|oc (g_sm 3 (4*k) X (LN 0) Z (post:=LN y) (hxc:=hXL.out) iN) on) fun u9 HB9 _ K9=>?_
   simp only[sQ] at K9⊢
   go_upto_region 12 with fail
   refine Rp K9 HB9 [] [] (cG 0 49 [_,_,_] [(3,10,_)]) [(3,0)] [(3,10)] [] (oc g_mv<|oc g_mv<|oc (g_bn (fun uZ=>mul_i _ _ e nd z uZ hs.out (by omega) (by omega)))<|oc g_as on) fun u10 HB10 _ K10=>?_
   simp only[sQ] at K10⊢
   go_upto_region 13 with fail
   refine Rp K10 HB10 [] [] [(0,52,_),(1,33,_)] [(1,0)] [(1,33)] [] (oc (g_bn (fun uZ=>Zm _ _ (k:Int) 1 ((k+1:Nat):Int) uZ (by omega) (by omega) (by omega)))<|oc g_mv on) fun u11 HB11 _ K11=>?_
   simp only[sQ] at K11⊢
   go_wp2
   refine⟨⟨k+1,by omega,rfl,by rw[ez'.out],HB11,(K11.cv 0),(K11.lt 0),(K11.cv 1),(K11.lt 1),(K11.cv 2),(K11.lt 2),by rw[hNx.out];exact(K11.cv 3),(K11.lt 3)⟩,?_⟩
   simp[intOf]<;>omega
  ·have hl:decide ((k:Int)<(ns.length:Int))=false:=by simp;omega
   have hkn:k=rs.length:=by rw[hrl.out];omega
   rw[hkn,Vw] at C3
   clear hkn
   have K6_1:Bk w.heap.size wr [(false,w.heap.size,GE p q g h),(false,w.heap.size+1,DE d (.slice sl ns.length cap)),(true,w.heap.size+1+1,L0s),(true,bo,flN rs)]:=⟨.c lC0 C0<| .c lC1 C1<| .o lC2 (K6.lo 2) C2<| .o lC3 (by omega) C3<|trivial,by simp<;>omega⟩
   go_upto_region 9 with fail
   refine Rn K6_1 HBr [(0,34,_)] (oc (g_bn (fun uZ=>Z6 _ _ (k:Int) (ns.length:Int) _ uZ hl)) on) fun u7 HB7 sz7 K7=>?_
   simp only[sQ] at K7⊢
   go_upto_region 14 with fail
   refine Rp K7 HB7 [.no,.no,.all 5 (LN r)] [] (cG 0 53 [_,_,_,_,_] [(6,7,_)]) [] [] [] (oc (g_ld 0 Tryz.underlying26 Z0)<|oc g_mv<|oc (g_cK ent_V2 (fun fZ uZ kZ sZ bZ=>hMu.out uZ bo bZ (kZ.lb sZ 3) (kZ.cv 3)))<|oc g_ex<|oc g_ex<|oc (g_st 2 iN)<|oc g_as on) fun u8 HB8 sz8 K8=>?_
   simp only[sQ] at K8⊢
   have c6:=(K8.cv 2).n4
   go_wp2
   refine bodyPost_ret (v:= .tuple #[NV r,iI 0]) (by simp[results,Tryz.results17,go_sem,c6]) rfl ⟨rfl,HB8⟩
theorem pwN_is{q nd:Int}(hq:2<=q): ∀k,pwN q nd k=nd^k%q
 | 0=>by rw[pwN,Int.pow_zero];exact(Int.emod_eq_of_lt (by omega) (by omega)).symm
 | k+1=>by rw[pwN,pwN_is hq k,Int.pow_succ,Int.mul_emod,Int.emod_emod,<-Int.mul_emod]
theorem nd_pow{nd:Int}(h1:1<=nd)(h2:nd<=16)(k:Nat)(hk:k<=6):0<=nd^k/\nd^k<=16777216:=by
 have: ∀k:Nat,1<=nd^k/\nd^k<=16^k:=fun k=>by
  induction k with
  | zero=>simp
  | succ k ih=>
   rw[Int.pow_succ,Int.pow_succ]
   refine⟨?_,Int.mul_le_mul ih.2 h2 (by omega) (by omega)⟩
   have:=Int.mul_le_mul ih.1 h1 (by omega) (by omega)
   omega
 have:=this k
 match k,hk with
 | 0,_=>omega
 | 1,_=>omega
 | 2,_=>omega
 | 3,_=>omega
 | 4,_=>omega
 | 5,_=>omega
 | 6,_=>omega
def raS(p q nd:Int)(ns:List Int):List Int:=tab ns.length fun k=>ns.getD k 0^(nd^k%q).toNat%p
theorem Uc(p q nd:Int)(ns:List Int):(raS p q nd ns).length=ns.length:=W6 _ _
theorem raS_gat{p q nd:Int}{ns:List Int}(hp:2<=p)(hq:2<=q): ∀k,k<=ns.length->gat (fun a b=>(a*b)%p) (1%p) (raS p q nd ns) k=atO p q nd ns k
 | 0,_=>by rw[gat,atO];exact Int.emod_eq_of_lt (by omega) (by omega)
 | k+1,h=>by
  rw[gat,atO,raS_gat hp hq k (by omega),pwN_is hq]
  simp only[raS]
  rw[Xg (by omega)]
theorem raS_all{p q nd:Int}{ns:List Int}(hg:gOk p q)(h:ns.all (isB p q)=true):mlB p q (raS p q nd ns)=true:=by
 unfold mlB
 rw[decide_eq_true hg,Bool.true_and]
 refine all_get.2 fun k hk=>?_
 rw[Uc] at hk
 rw[raS,Xg hk]
 exact decide_eq_true ⟨hg,(Ug (all_get.1 h k hk)).2.pow hg _⟩
theorem vAt(p q g h d nd:Int)(ns:List Int)(v:Value)(w:World)(hG:GT w)(hp:In p)(hq:In q)(hv:NL w v ns)(hns: ∀z∈ns,In z)(hl:ns.length<=7):CC 17 #[GX p q g h,DX d v,iI nd] w (.tuple #[NV (atX p q d nd ns),iI (atE p q d nd ns)]):=by
 have a':=hv
 obtain⟨sl,gb,go,cap,rfl,h2,h3,h4,h5,h6⟩:=hv
 have hK:=fun u (hB:Bw w u)=>vCheck p q g h d ns _ u (hG.below hB) hp hq (a'.up hB) hns (by omega)
 have hN:=fun u=>vNode nd u
 by_cases c:dcE p q d ns=0
 ·rw[c] at hK
  obtain⟨c1,c2,c3,c4,c5⟩:=dcE_0 c
  have hq3:=c1.q3
  have hp7:=c1.2
  by_cases c6:ndB nd=true
  ·rw[show decide (1<=nd/\nd<=16)=true from c6] at hN
   have hb:=ndB_iff.1 c6
   have e0:atE p q d nd ns=0:=by simp[atE,c,c6]
   rw[atX,if_pos e0,e0,<-raS_gat (nd:=nd) (ns:=ns) (by omega) (show (2:Int)<=q by omega) _ (Nat.le_refl _)]
   refine vat_k p q g h d nd _ sl gb go cap ns (raS p q nd ns) w hK hN (NL.ix (u:=w) h4) h5 h6 (Yc hns) (by omega) c4 (Uc _ _ _ _) (nd_pow hb.1 hb.2) (fun k hk u hB=>?_) (fun u b hB hl2 hc=>?_)
   ·have hk2:=all_get.1 c5 k hk
    have hE:=cExpG p q g h (ns.getD k 0) (nd^k) u (hG.below hB) hp hq (Yc hns k hk) (by have:=nd_pow hb.1 hb.2 k (by omega);exact⟨by omega,by omega⟩)
    rw[exPX,exPE,hk2,if_pos rfl,if_pos rfl] at hE
    rw[raS,Xg hk]
    exact hE
   ·have hi: ∀k,k<(raS p q nd ns).length->In ((raS p q nd ns).getD k 0):=fun k hk=>by
     rw[Uc] at hk;rw[raS,Xg hk];exact Zi hp (by omega)
    have hM:=cMulG p q g h (raS p q nd ns) (.slice (some ⟨b,0,none⟩) ns.length ns.length) u (hG.below hB) (by rw[Uc];omega) hp hq hi ((PRw.nl (lo:=0) ⟨b,by rw[Uc],Nat.zero_le _,hl2,hc⟩))
    rw[mlX,mlE,raS_all c1 c5,if_pos rfl,if_pos rfl,Uc] at hM
    exact hM
  ·rw[Bool.not_eq_true] at c6
   rw[show decide (1<=nd/\nd<=16)=false from c6] at hN
   have e0:atE p q d nd ns=2:=by simp[atE,c,c6]
   rw[atX,e0,if_neg (by omega),NV_0]
   exact vat_n p q g h d nd sl cap ns w hK hN
 ·have e0:atE p q d nd ns=dcE p q d ns:=by simp[atE,c]
  rw[atX,e0,if_neg c,NV_0]
  exact vat_c p q g h d nd _ sl cap ns w (by simp[c]) hK
theorem vver(p q g h d nd s t a b c ev re:Int)(sl:Option Addr)(cap n:Nat)(w:World)(hR:Hid (re=if ev !=0 then ev else if c !=0 then c else if decide (b=a) then 0 else 100))(ia:In a)(ib:In b)(hA:Hid (∀u,Bw w u->CC 17 #[GX p q g h,DX d (.slice sl n cap),iI nd] u (.tuple #[NV a,iI ev])))(hM:Hid (∀u,Bw w u->CC 36 #[GX p q g h,NV s,NV t] u (.tuple #[NV b,iI c]))):
 CC 21 #[GX p q g h,DX d (.slice sl n cap),SX nd s t] w (iI re):=by
 go_enter Tryz.func21,Tryz.ntmps21
 go_upto_region 1 with fail
 obtain⟨v0,hC,HB0,K0⟩:=bx3 w (GE p q g h) 26 (DE d (.slice sl n cap)) 30 (SE nd s t) 35
 rw[hC]
 clear hC
 refine Rp K0 HB0 [] [(8,7,L0s,some (9,LN a))] (cG 0 12 [_,_,_,_,_] [(5,11,_),(6,17,_),(7,18,_),(10,8,_)]) [(9,8)] [] [] (oc (g_ld 0 Tryz.underlying26 Z0)<|oc (g_ld 1 Tryz.underlying30 Zp)<|oc (g_fd (fdS0 _))<|oc (g_lc 2 0 lI)<|oc (g_cb ent_V7 hA.out)<|oc g_mv<|oc g_ex<|oc g_ex<|oc (g_al 0 aN)<|oc (g_sn 0 iN)<|oc g_as on) fun u1 b1_8 HB1 _ K1=>?_
 simp only[sQ] at K1⊢
 cases he:(ev !=0)
 ·skip
  go_upto_region 2 with fail
  refine Rn K1 HB1 [(0,19,_),(1,20,_)] (oc g_mv<|oc (g_bn (fun uZ=>Zw _ _ _ ev 0 _ uZ he)) on) fun u2 HB2 sz2 K2=>?_
  simp only[sQ] at K2⊢
  go_upto_region 4 with fail
  refine Rp K2 HB2 [] [(9,9,L0s,some (10,LN b))] (cG 0 23 [_,_,_,_,_,_] [(6,22,_),(7,29,_),(8,30,_),(11,10,_)]) [(10,9)] [] [] (oc (g_ld 0 Tryz.underlying26 Z0)<|oc (g_fd (fdS1 _))<|oc (g_lo 2 1 uN iN)<|oc (g_fd (fdS2 _))<|oc (g_lo 2 5 uN iN)<|oc (g_cb ent_V4 hM.out)<|oc g_mv<|oc g_ex<|oc g_ex<|oc (g_al 0 aN)<|oc (g_sn 0 iN)<|oc g_as on) fun u3 b3_9 HB3 sz3 K3=>?_
  simp only[sQ] at K3⊢
  cases hc:(c !=0)
  ·skip
   go_upto_region 5 with fail
   refine Rn K3 HB3 [(0,32,_),(1,33,_),(2,31,_)] (oc g_mv<|oc (g_bn (fun uZ=>Zw _ _ _ c 0 _ uZ hc))<|oc g_as on) fun u4 HB4 sz4 K4=>?_
   simp only[sQ] at K4⊢
   cases hx:decide (b=a)
   ·skip
    go_upto_region 7 with fail
    refine Rn K4 HB4 (cG 0 36 [_,_,_] [(3,35,_)]) (oc (g_ld 4 uN iN)<|oc (g_ld 3 uN iN)<|oc (g_bn (fun uZ=>Vx _ _ ib ia true (by rw[hx];rfl) uZ))<|oc g_as on) fun u5 HB5 sz5 K5=>?_
    simp only[sQ] at K5⊢
    go_upto_region 8 with fail
    refine Rn K5 HB5 [(0,6,_)] (oc g_as on) fun u6 HB6 sz6 K6=>?_
    simp only[sQ] at K6⊢
    go_wp2
    refine bodyPost_ret (v:=iI 100) (by simp[results,Tryz.results21,go_sem,]) rfl ⟨by rw[hR.out,he,hc,hx];rfl,HB6⟩
   ·skip
    go_upto_region 7 with fail
    refine Rn K4 HB4 (cG 0 36 [_,_,_] [(3,35,_)]) (oc (g_ld 4 uN iN)<|oc (g_ld 3 uN iN)<|oc (g_bn (fun uZ=>Vx _ _ ib ia false (by rw[hx];rfl) uZ))<|oc g_as on) fun u5 HB5 sz5 K5=>?_
    simp only[sQ] at K5⊢
    go_upto_region 9 with fail
    refine Rn K5 HB5 [(0,6,_)] (oc g_as on) fun u6 HB6 sz6 K6=>?_
    simp only[sQ] at K6⊢
    go_wp2
    refine bodyPost_ret (v:=iI 0) (by simp[results,Tryz.results21,go_sem,]) rfl ⟨by rw[hR.out,he,hc,hx];rfl,HB6⟩
  ·skip
   go_upto_region 5 with fail
   refine Rn K3 HB3 [(0,32,_),(1,33,_),(2,31,_)] (oc g_mv<|oc (g_bn (fun uZ=>Zw _ _ _ c 0 _ uZ hc))<|oc g_as on) fun u4 HB4 sz4 K4=>?_
   simp only[sQ] at K4⊢
   go_upto_region 6 with fail
   refine Rn K4 HB4 [(0,34,_),(1,6,_)] (oc g_mv<|oc g_as on) fun u5 HB5 sz5 K5=>?_
   simp only[sQ] at K5⊢
   go_wp2
   refine bodyPost_ret (v:=iI c) (by simp[results,Tryz.results21,go_sem,]) rfl ⟨by rw[hR.out,he,hc];rfl,HB5⟩
 ·skip
  go_upto_region 2 with fail
  refine Rn K1 HB1 [(0,19,_),(1,20,_)] (oc g_mv<|oc (g_bn (fun uZ=>Zw _ _ _ ev 0 _ uZ he)) on) fun u2 HB2 sz2 K2=>?_
  simp only[sQ] at K2⊢
  go_upto_region 3 with fail
  refine Rn K2 HB2 [(0,21,_),(1,6,_)] (oc g_mv<|oc g_as on) fun u3 HB3 sz3 K3=>?_
  simp only[sQ] at K3⊢
  go_wp2
  refine bodyPost_ret (v:=iI ev) (by simp[results,Tryz.results21,go_sem,]) rfl ⟨by rw[hR.out,he];rfl,HB3⟩
theorem coX_In{p q g h s t:Int}(hp:In p):In (coX p q g h s t):=by
 unfold coX;split
 ·have c2:isB p q g=true:=by rename_i h1;simp only[Bool.and_eq_true] at h1;exact h1.1
  exact Zi hp (by have:=(Ug c2).1.2;omega)
 ·exact In_0
theorem atX_In'{p q d nd:Int}{ns:List Int}(hp:In p)(c:atE p q d nd ns=0):In (atX p q d nd ns):=by
 unfold atX;rw[if_pos c]
 have c3:dcE p q d ns=0:=by
  unfold atE at c
  by_cases h1:dcE p q d ns=0
  ·exact h1
  ·rw[if_neg h1] at c;exact c
 exact atO_In hp (by have:=(dcE_0 c3).1.2;omega) _
theorem vVerify(p q g h d nd s t:Int)(ns:List Int)(v:Value)(w:World)(hG:GT w)(hp:In p)(hq:In q)(hg:In g)(hh:In h)(hs:In s)(ht:In t)(hv:NL w v ns)(hns: ∀z∈ns,In z)(hl:ns.length<=7):CC 21 #[GX p q g h,DX d v,SX nd s t] w (iI (veE p q g h d nd s t ns)):=by
 have a':=hv
 obtain⟨sl,gb,go,cap,rfl,_⟩:=hv
 have hA:=fun u (hB:Bw w u)=>vAt p q g h d nd ns _ u (hG.below hB) hp hq (a'.up hB) hns hl
 have hM:=fun u (hB:Bw w u)=>cComG p q g h s t u (hG.below hB) hp hq hg hh hs ht
 have ic:=coX_In (q:=q) (g:=g) (h:=h) (s:=s) (t:=t) hp
 have ia:In (atX p q d nd ns):=by
  by_cases c:atE p q d nd ns=0
  ·exact atX_In' hp c
  ·rw[atX,if_neg c];exact In_0
 refine vver p q g h d nd s t _ _ _ _ _ sl cap _ w ?_ ia ic hA hM
 show _=_
 unfold veE
 by_cases c:atE p q d nd ns=0
 ·by_cases c1:coE p q g h=0
  ·simp[c,c1]
  ·have e9:coE p q g h=90:=by unfold coE at c1⊢;split at c1<;>simp_all
   simp[c,e9]
 ·simp[c]
end Go.Proofs.YtmoimodkopjeeaaGreatDoor
