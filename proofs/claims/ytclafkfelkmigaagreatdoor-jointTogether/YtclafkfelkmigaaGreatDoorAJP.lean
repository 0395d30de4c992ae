import Derived.Test.YtclafkfelkmigaaGreatDoorAJE
namespace Go.Proofs.YtclafkfelkmigaaGreatDoor
set_option linter.unusedVariables false
set_option linter.unusedSimpArgs false
set_option maxRecDepth 100000
set_option maxHeartbeats 4000000
section
open Go.RowKit
theorem w_rd(i:Nat)(hi:i<2): ∃nd a b s:Int,(i:Int)+1=nd/\decide (nd<=2)=true/\ndB nd=true/\(hoN Q0 nd [3,2] 2=a/\hoN Q0 nd [4,9] 2=b/\hoN Q0 nd [7,11] 2=s/\hoN Q0 nd [0,0] 2=0)/\(In a/\In b/\In s)/\((a+b)%Q0=s/\a%Q0=a)/\lsW.take (i+1)=lsW.take i++[(nd,s,0)]/\(lsW.take i).length=i:=by
 match i,hi with
 | 0,_=>exact⟨1,5,13,18,by decide,by decide,by decide,by decide+kernel,⟨s_In,s_In,s_In⟩,by decide+kernel,rfl,rfl⟩
 | 1,_=>exact⟨2,7,22,29,by decide,by decide,by decide,by decide+kernel,⟨s_In,s_In,s_In⟩,by decide+kernel,rfl,rfl⟩
theorem ent_NA:EnT 12:=fun _ _=>by kernel_rfl
theorem P2c.nw{n:Nat}{cs:List Value}(u:World)(v:Value)(h:P2c n cs u v):NW n cs u v:=by
 obtain⟨b,rfl,h1,h2⟩:=h
 exact⟨_,n,rfl,.inr ⟨_,rfl,fun j v hj=>by rw[Addr.add0];exact(h2 j v hj).1⟩⟩
theorem one_S(n s t:Int): ∀v∈SE n s t,v.oneCell'=true:=fun v hv=>by simp at hv;rcases hv with h | h | h | h | h | h | h | h | h<;>(subst h;rfl)
theorem bsS1z(n s t:Int)(w:World):(Instr.buildSlice 26 1 ([0].zip [SX n s t]).toArray).run Tryz.prog w= .ok (.slice (some ⟨w.heap.size,0,none⟩) 1 1) (w.alloc (.cells (SE n s t:List Value).toArray 38)):=by kernel_rfl
theorem works_core(w:World)(hG:GP w)(hSm:Hid (∀u x,Bw w u->DL u x dsW->Calls Tryz.prog 9 #[GX P0 Q0 4 H0,x] u fun r u'=> ∃y,r= .returned (.tuple #[DX 1 y,iI 0])/\NL u' y cD/\Bw u u')):
 CC 4 #[] w (.bool true):=by
 go_enter Tryz.func4,Tryz.ntmps4
 go_upto_region 2 with fail
 go_cut [2,3,4] (fun s t v wx=> ∃b y,s= .pointer (some ⟨b,0,none⟩)/\w.heap.size<=b/\b<wx.heap.size/\CV wx b (DE 1 y)/\NL wx y cA/\NL wx t [3,2]/\NL wx v [0,0]/\Bw w wx)
 case first=>
  go_wp2_with (first
   | (go_at_call 12;first
    | (refine(Vh 3 w (by omega) (by omega)).mono ?_;rintro r ua ⟨rfl,hBa⟩)
    | (refine(Vh 2 ua (by omega) (by omega)).mono ?_;rintro r ub ⟨rfl,hBb⟩))
   | (go_at_call 6;refine(cMade2 1 3 2 _ _ (by decide) (inN2 3 2 ub) s_In s_In).mono ?_;rintro r uc ⟨y,z1,z2,rfl,hy,h1,h2,hBc⟩;obtain⟨sy,cy,ey⟩:=hy.sl;subst ey;obtain⟨s1,c1,e1⟩:=h1.sl;subst e1;obtain⟨s2,c2,e2⟩:=h2.sl;subst e2;have hBd:=Z2 (Z1 (Z2 hBa hBb) _) hBc;have hy:=Hid.on hy;have h1:=Hid.on h1;have h2:=Hid.on h2))
  go_meet
  exact⟨uc.heap.size,_,rfl,hBd.size,by simp,CV.new uc _ _,hy.out.up (Z1 (Z5 uc) _),h1.out.up (Z1 (Z5 uc) _),h2.out.up (Z1 (Z5 uc) _),Z1 hBd _⟩
 case rest=>
 obtain⟨b2,y2,rfl,lo2,l2,K2,n2,n3,n4,HBa⟩:=hcut
 obtain⟨t2,k2,ey⟩:=n2.sl
 subst ey
 obtain⟨t3,k3,ey⟩:=n3.sl
 subst ey
 obtain⟨t4,k4,ey⟩:=n4.sl
 subst ey
 obtain⟨wa,rfl⟩: ∃x,x=wc:=⟨_,rfl⟩
 go_upto_region 3 with fail
 go_cut [5,6,7] (fun s t v wx=> ∃b y,s= .pointer (some ⟨b,0,none⟩)/\wa.heap.size<=b/\b<wx.heap.size/\CV wx b (DE 2 y)/\NL wx y cB/\NL wx t [4,9]/\NL wx v [0,0]/\Bw wa wx)
 case first=>
  go_wp2_with (first
   | (go_at_call 12;first
    | (refine(Vh 4 wa (by omega) (by omega)).mono ?_;rintro r ua ⟨rfl,hBa⟩)
    | (refine(Vh 9 ua (by omega) (by omega)).mono ?_;rintro r ub ⟨rfl,hBb⟩))
   | (go_at_call 6;refine(cMade2 2 4 9 _ _ (by decide) (inN2 4 9 ub) s_In s_In).mono ?_;rintro r uc ⟨y,z1,z2,rfl,hy,h1,h2,hBc⟩;obtain⟨sy,cy,ey⟩:=hy.sl;subst ey;obtain⟨s1,c1,e1⟩:=h1.sl;subst e1;obtain⟨s2,c2,e2⟩:=h2.sl;subst e2;have hBd:=Z2 (Z1 (Z2 hBa hBb) _) hBc;have hy:=Hid.on hy;have h1:=Hid.on h1;have h2:=Hid.on h2))
  go_meet
  exact⟨uc.heap.size,_,rfl,hBd.size,by simp,CV.new uc _ _,hy.out.up (Z1 (Z5 uc) _),h1.out.up (Z1 (Z5 uc) _),h2.out.up (Z1 (Z5 uc) _),Z1 hBd _⟩
 case rest=>
 obtain⟨b5,y5,rfl,lo5,l5,K5,n5,n6,n7,HBb⟩:=hcut
 obtain⟨t5,k5,ey⟩:=n5.sl
 subst ey
 obtain⟨t6,k6,ey⟩:=n6.sl
 subst ey
 obtain⟨t7,k7,ey⟩:=n7.sl
 subst ey
 obtain⟨wb,rfl⟩: ∃x,x=wc:=⟨_,rfl⟩
 have K2:=K2.below HBb l2
 have n2:=n2.up HBb
 have n3:=n3.up HBb
 have n4:=n4.up HBb
 have hne25:b2≠b5:=by omega
 have l2:=Nat.lt_of_lt_of_le l2 HBb.size
 have hTb:=Z2 HBa HBb
 have HBo:Bw wb wb:=Below.refl _ _
 clear lo2 lo5
 have K0_1:Bk wb.heap.size wb [(false,b2,DE (1) (.slice t2 (cA).length k2)),(false,b5,DE (2) (.slice t5 (cB).length k5))]:=⟨.c l2 K2<| .c l5 K5<|trivial,by simp<;>omega⟩
 go_upto_region 4 with fail
 refine rgY1 9 4 (PDz wb.heap.size 1 cD) K0_1 HBo HBo.size [] [] [(0,44,GX P0 Q0 (4) H0),(1,45,DX (1) (.slice t2 (cA).length k2)),(2,46,DX (2) (.slice t5 (cB).length k5)),(7,50,iI 0),(10,9,iI 0)] [] [] [⟨3,47,some 4,P2c 2 (DE 1 (.slice t2 (cA).length k2)++DE 2 (.slice t5 (cB).length k5))⟩,⟨4,48,some 5,PTz 1 0 cD⟩,⟨5,43,none,PTz 1 0 cD⟩,⟨6,49,some 9,PVz 1 cD⟩,⟨8,8,some 9,PBz wb.heap.size⟩] [⟨3,47,some 4,P2c 2 (DE 1 (.slice t2 (cA).length k2)++DE 2 (.slice t5 (cB).length k5))⟩,⟨4,48,some 5,PTz 1 0 cD⟩,⟨5,43,none,PTz 1 0 cD⟩,⟨6,49,some 9,PVz 1 cD⟩,⟨8,8,none,PDz wb.heap.size 1 cD⟩] [] (.cons (fun _ _ _ h1 h2=>h2.stab h1)<| .cons (fun _ _ _ h1 h2=>h2.stab h1)<| .cons (fun _ _ _ h1 h2=>h2.stab h1)<| .cons (fun _ _ _ h1 h2=>h2.stab h1)<| .cons (fun _ _ _ h1 h2=>h2.stab h1)<|Stab.nil) rfl rfl rfl ?_ ?_
 ·refine yc (g_cl ent_H1 jThe) ?_
  refine yc (g_ld 0 Tryz.underlying29 Z7) ?_
  refine yc (g_ld 1 Tryz.underlying29 Z7) ?_
  refine yc (g_bR 0 (P2c 2 (DE 1 (.slice t2 (cA).length k2)++DE 2 (.slice t5 (cB).length k5))) [0,1] [DX 1 (.slice t2 (cA).length k2),DX 2 (.slice t5 (cB).length k5)] (DE 1 (.slice t2 (cA).length k2)++DE 2 (.slice t5 (cB).length k5)) (bsD2 1 2 t2 t5 _ _ k2 k5) (fun u hu=>P2c.new u)) ?_
  refine yc (g_cX 0 1 (P2c 2 (DE 1 (.slice t2 (cA).length k2)++DE 2 (.slice t5 (cB).length k5))) (PTz 1 0 cD) ent_E1 (fun u y bZ hs hy=>(hSm.out u y (Z2 hTb bZ) (two_DL hy (n2.up bZ) (n5.up bZ))).mono (by rintro r u' ⟨y,rfl,h1,h2⟩;exact⟨_,rfl,⟨y,rfl,h1⟩,h2⟩))) ?_
  refine yc (g_mE 1 2 (PTz 1 0 cD)) ?_
  refine yc (g_xE (k:=0) 2 3 (PTz 1 0 cD) (PVz 1 cD) (fun u vs h=>by obtain⟨y,rfl,hy⟩:=h;exact⟨_,_,rfl,rfl,y,rfl,hy⟩)) ?_
  refine yt (t_xV (k:=1) (v:=iI 0) 8 (PDz wb.heap.size 1 cD) 2 (PTz 1 0 cD) (fun u vs h=>by obtain⟨y,rfl,hy⟩:=h;exact⟨_,rfl,rfl⟩)) ?_
  refine yc (g_aP 4 (PBz wb.heap.size) U2 (fun u hu=>PBz.new u hu)) ?_
  refine yz (st_bx 4 3 (PBz wb.heap.size) (PVz 1 cD) (PDz wb.heap.size 1 cD) (fun u vb v h0 hv=>by obtain⟨u2,r,h1,h2,h3,h4⟩:=st_dl u vb v h0 hv;exact⟨u2,r,h1,h2,h3,⟨.inl rfl,.inl rfl,.inr ⟨by simp,EKj h4⟩,.inl rfl,.inl rfl,trivial⟩⟩)) ?_
  exact yt (t_as 8 (PDz wb.heap.size 1 cD)) yn
 intro u1 v1_3 hv1_3 v1_4 hv1_4 v1_5 hv1_5 v1_6 hv1_6 v1_8 hv1_8 HB1 sz1 K1
 simp only[sQ] at K1⊢
 obtain⟨b8,y8,rfl,lb8,l8,K8,n8⟩:=hv1_8 rfl
 clear hv1_3 hv1_4 hv1_5 hv1_6 hv1_8
 obtain⟨t8,k8,ey⟩:=n8.sl
 subst ey
 have n3:=n3.up HB1
 have n4:=n4.up HB1
 have n6:=n6.up HB1
 have n7:=n7.up HB1
 have hTc:=Z2 hTb HB1
 obtain⟨wd,rfl⟩: ∃x,x=u1:=⟨_,rfl⟩
 clear K1 sz1 HB1 lb8 HBo n2 n5 K2 K5 l2 l5 hne25 HBa HBb hTb K0_1
 clear hSm
 go_upto_region 5 with fail
 go_cut [10] (fun s wx=> ∃(bo co:Nat) (zs:List Value),s= .slice (some ⟨bo,0,none⟩) 0 co/\zs.length=9*co/\wd.heap.size<=bo/\bo<wx.heap.size/\CV wx bo (flS []++zs)/\Bw wd wx)
 case first=>
  go_wp2_with fail
  go_meet
  exact⟨wd.heap.size,0,[],rfl,rfl,Nat.le_refl _,by simp,(fun j v h=>by simp[flS] at h),Z1 (Z5 wd) _⟩
 case rest=>
 obtain⟨bo,co,zs,rfl,hz,hlo,hlt,KO,HBc⟩:=hcut
 have K8:=Hid.on K8
 have n3:=Hid.on n3
 have n4:=Hid.on n4
 have n6:=Hid.on n6
 have n7:=Hid.on n7
 have n8:=Hid.on n8
 have KO:=Hid.on KO
 go_wp2_with fail
 go_loopw [10,11] (fun s10 s11 wr=> ∃(i bo co:Nat) (zs:List Value),i<=2/\s11=iI ((i:Int)+1)/\s10= .slice (some ⟨bo,0,none⟩) i co/\i<=co/\zs.length=9*(co -i)/\wd.heap.size<=bo/\bo<wr.heap.size/\Hid (CV wr bo (flS (lsW.take i)++zs))/\Bw wd wr) (fun _ s11 _=>3 -(intOf s11).toNat)
 case atStart=>exact⟨0,bo,co,zs,by omega,rfl,rfl,by omega,by omega,hlo,hlt,KO,HBc⟩
 case round=>
  clear KO hlt hlo hz HBc
  obtain⟨i,bo,co,zs,hi,rfl,rfl,hic,hz,hlo,hlt,KO,HBr⟩:=hrel
  have K8r:=K8.out.below HBr l8
  have l8r:=Nat.lt_of_lt_of_le l8 HBr.size
  have hTr:=Z2 hTc HBr
  by_cases hj:i<2
  ·obtain⟨nd,a,b,s,e1,e2,hnd,⟨q1,q2,q3,q4⟩,⟨ia,ib,is⟩,⟨q5,q6⟩,hnx,hln⟩:=w_rd i hj
   have e3:IntKind.i64.wrap ((i:Int)+1+1)=((i+1:Nat):Int)+1:=by rw[IntKind.wrap_i64];omega
   have e3:IntKind.i64.wrap (nd+1)=((i+1:Nat):Int)+1:=by rw[<-e1];exact e3
   rw[e1]
   have hnx:=Hid.on hnx
   have hln:=Hid.on hln
   go_upto_region 9 with fail
   go_cut [12,13] (fun s v wx=> ∃b,s= .pointer (some ⟨b,0,none⟩)/\wr.heap.size<=b/\b<wx.heap.size/\CV wx b (SE nd a 0)/\v=iI 0/\Bw wr wx)
   case first=>
    go_wp2_with (first
     | (go_at_call 8;refine(jThe wr).mono ?_;rintro r ua ⟨rfl,hBa⟩)
     | (go_at_call 7;refine(w_sh nd 3 2 a _ _ ua hnd q1 q4 s_In s_In (n3.out.up (Z2 HBr hBa)) (n4.out.up (Z2 HBr hBa))).mono ?_;rintro r ub ⟨rfl,hBb⟩))
    go_meet
    have hBd:=Z2 hBa hBb
    exact⟨ub.heap.size,rfl,hBd.size,by simp,CV.new ub _ _,rfl,Z1 hBd _⟩
   case rest=>
   obtain⟨b12,rfl,lo12,l12,K12,rfl,HBs⟩:=hcut
   obtain⟨wf,rfl⟩: ∃x,x=wc:=⟨_,rfl⟩
   have HBf:=Z2 HBr HBs
   go_upto_region 10 with fail
   go_cut [14,15] (fun s v wx=> ∃c,s= .pointer (some ⟨c,0,none⟩)/\wf.heap.size<=c/\c<wx.heap.size/\CV wx c (SE nd b 0)/\v=iI 0/\Bw wf wx)
   case first=>
    go_wp2_with (first
     | (go_at_call 8;refine(jThe wf).mono ?_;rintro r ua ⟨rfl,hBa⟩)
     | (go_at_call 7;refine(w_sh nd 4 9 b _ _ ua hnd q2 q4 s_In s_In (n6.out.up (Z2 HBf hBa)) (n7.out.up (Z2 HBf hBa))).mono ?_;rintro r ub ⟨rfl,hBb⟩))
    go_meet
    have hBd:=Z2 hBa hBb
    exact⟨ub.heap.size,rfl,hBd.size,by simp,CV.new ub _ _,rfl,Z1 hBd _⟩
   case rest=>
   obtain⟨b14,rfl,lo14,l14,K14,rfl,HBt⟩:=hcut
   obtain⟨wg,rfl⟩: ∃x,x=wc:=⟨_,rfl⟩
   have HBg:=Z2 HBf HBt
   have hTg:=Z2 hTc HBg
   have KO:=Hid.on (KO.out.below (Z2 HBs HBt) hlt)
   have hlt:=Nat.lt_of_lt_of_le hlt (Z2 HBs HBt).size
   have K12:=K12.below HBt l12
   have K8r:=K8r.below (Z2 HBs HBt) l8r
   have hne1:b8≠b12:=by omega
   have hne2:b8≠b14:=by have:=HBs.size;omega
   have hne3:b12≠b14:=by omega
   have l8r:=Nat.lt_of_lt_of_le l8r (Z2 HBs HBt).size
   have l12:=Nat.lt_of_lt_of_le l12 HBt.size
   have n8g:=n8.out.up HBg
   have HBo:Bw wg wg:=Below.refl _ _
   have hjS:Hid (∀u y,Bw wg u->P2c 2 (SE nd a 0++SE nd b 0) u y->CC 10 #[GX P0 Q0 4 H0,y] u (.tuple #[SX nd s 0,iI 0])):=fun u y hB hy=>w_js nd a b s y u (hG.below (Z2 hTg hB)) hnd q5 q6 ia ib (two_ShL hy)
   have hwV:Hid (∀u,Bw wg u->CC 13 #[GX P0 Q0 4 H0,DX 1 (.slice t8 (cD).length k8),SX nd s 0] u (iI 0)):=fun u hB=>w_ve nd s _ u hnd q3 q4 is (n8g.up hB)
   clear lo12 lo14 HBs HBt HBf n8g
   have K1_2:Bk wg.heap.size wg [(false,b8,DE (1) (.slice t8 (cD).length k8)),(false,b12,SE nd a (0)),(false,b14,SE nd b (0))]:=⟨.c l8r K8r<| .c l12 K12<| .c l14 K14<|trivial,by simp<;>omega⟩
   go_upto_region 11 with fail
   refine Re K1_2 HBo [] [(8,16,L0h,some (9,SE nd s (0)))] (cG 0 73 [_,_,_] [(4,77,_),(5,72,_),(6,78,_),(7,79,_),(10,17,_)]) [(9,8)] [] [⟨3,76,some 4,P2c 2 (SE nd a 0++SE nd b 0)⟩] [] (Od8 (g_cl ent_H1 jThe) (g_ld 1 Tryz.underlying38 Zr) (g_ld 2 Tryz.underlying38 Zr) (g_bR 0 (P2c 2 (SE nd a 0++SE nd b 0)) [0,1] [SX nd a 0,SX nd b 0] (SE nd a 0++SE nd b 0) (bsS2 nd a 0 nd b 0) (fun u hu=>P2c.new u)) (g_cWg 0 (P2c 2 (SE nd a 0++SE nd b 0)) (fun y=>[GX P0 Q0 4 H0,y]) ent_E3 (fun u y bZ hy=>hjS.out u y bZ hy)) g_mv g_ex g_ex<|Oc3 (g_al 0 al_api_Share) (g_sn 0 Zr) g_as) fun u2 b2_8 v2_3 hv2_3 HB2 sz2 K2=>?_
   simp only[sQ] at K2⊢
   go_upto_region 12 with fail
   refine Rm K2 HB2 (cG 0 80 [_,_,_,_,_,_,_,_,_] []) (Oc9 g_mv (g_bn (fun uZ=>Ys _ _ _ 0 0 _ uZ rfl)) g_mv (g_cl ent_H1 jThe) (g_ld 0 Tryz.underlying29 Z7) (g_ld 3 Tryz.underlying38 Zr) (g_cb ent_E4 hwV.out) (g_bn (fun uZ=>Ys _ _ _ 0 0 _ uZ rfl)) g_pk) fun u3 HB3 _ K3=>?_
   simp only[sQ] at K3⊢
   have lo16:=K3.lo 3
   have c16:CV u3 b2_8 (SE nd s 0):=(K3.cv 3)
   have l16:b2_8<u3.heap.size:=(K3.lt 3)
   have KB:=KO.out.below HB3 hlt
   have hne16:b2_8≠bo:=by omega
   have ltB:=Nat.lt_of_lt_of_le hlt HB3.size
   have HBh:=Z2 HBg HB3
   obtain⟨ti,hti,htm⟩:=Option.map_eq_some_iff.1 infoSh
   simp only[Prod.mk.injEq] at htm
   obtain⟨hzv,hsz,hby⟩:=htm
   have K3_3:Bk wd.heap.size u3 [(false,b2_8,SE nd s (0)),(true,bo,flS (lsW.take i)++zs)]:=⟨.c l16 c16<| .o ltB (by omega) KB<|trivial,by simp<;>omega⟩
   go_upto_region 14 with fail
   refine Rf K3_3 HBh [.no,.all 3 ([])] [] [(0,89,_),(1,90,_)] [(4,0),(4,3)] [(4,10)] [⟨2,91,some 3,P2c 1 (SE nd s 0)⟩,⟨3,92,some 4,PH u3.heap.size bo ti.size (i+1) (flS (lsW.take i)++(SE nd s 0))⟩,⟨4,10,none,PH u3.heap.size bo ti.size (i+1) (flS (lsW.take i)++(SE nd s 0))⟩] [true,false] (Oc5 g_mv (g_ld 0 Tryz.underlying38 Zr) (g_bR 0 (P2c 1 (SE nd s 0)) [0] [SX nd s 0] (SE nd s 0) (bsS1z nd s 0) (fun u hu=>P2c.new u)) (g_pE 1 0 1 (P2c 1 (SE nd s 0)) (flS (lsW.take i)) zs (SE nd s 0) Tryz.underlying26 hti hzv (by rw[hsz];rfl) rfl P2c.nw (one_S nd s 0) (by rw[hsz];rfl) (by rw[hsz,flS_len,hln.out];omega) (by rw[hsz];omega) hic (by rw[hby];omega) (by omega)) (g_sE 1 2 (PH u3.heap.size bo ti.size (i+1) (flS (lsW.take i)++(SE nd s 0))))) fun u4 v4_2 hv4_2 v4_3 hv4_3 v4_4 hv4_4 HB4 _ K4=>?_
   simp only[sQ] at K4⊢
   obtain⟨d2,c2,y2,rfl,f1,f2,f3,f4,f5⟩:=hv4_4 rfl
   rw[hsz] at f4
   rw[<-flS_snoc,<-hnx.out] at f5
   have hws:=HBh.size
   go_wp2_with fail
   refine⟨⟨i+1,d2,c2,y2,by omega,by first | rfl | (simp[e3];omega),rfl,f3,by rw[f4];omega,by rcases f1 with h | h<;>omega,f2,f5,HB4⟩,?_⟩
   simp[intOf]<;>omega
  ·obtain rfl:i=2:=by omega
   have hsl:ShL wr (.slice (some ⟨bo,0,none⟩) 2 co) lsW:=sh_row hlt KO.out rfl hic
   go_upto_region 15 with fail
   go_cut [18,20] (fun s v wx=> ∃b,s= .pointer (some ⟨b,0,none⟩)/\b<wx.heap.size/\CV wx b (LN 7)/\v=iI 0/\Bw wr wx)
   case first=>
    go_wp2_with (first
     | (go_at_call 8;refine(jThe wr).mono ?_;rintro r ua ⟨rfl,hBa⟩)
     | (go_at_call 14;refine(w_op _ ua (hsl.up hBa)).mono ?_;rintro r ub ⟨rfl,hBb⟩))
    go_meet
    have hBd:=Z2 hBa hBb
    exact⟨ub.heap.size,rfl,by simp<;>omega,(CV.new ub (LN 7) 36).below (Z1 (Z5 _) _) (by simp),rfl,Z1 (Z1 hBd _) _⟩
   case rest=>
   obtain⟨b18,rfl,l18,K18,rfl,HBs⟩:=hcut
   obtain⟨wf,rfl⟩: ∃x,x=wc:=⟨_,rfl⟩
   have hTf:=Z2 hTr HBs
   have HBo:Bw wf wf:=Below.refl _ _
   have K1_2:Bk wf.heap.size wf [(false,b18,LN 7)]:=⟨.c l18 K18<|trivial,by simp⟩
   go_upto_region 16 with fail
   refine Rm K1_2 HBo (cG 0 100 [_,_,_,_,_,_,_,_,_,_,_,_] [(12,0,_)]) (Od8 g_mv (g_bn (fun uZ=>Tc _ _ _ 0 0 _ uZ rfl)) g_mv g_mv (g_bn (fun uZ=>Tc _ _ _ 0 0 _ uZ rfl)) g_pk g_mv (g_ld 0 uN iN)<|Oc5 g_mv (g_cv (first:=[]) ent_NA (fun fZ uZ kZ sZ=>Vh 7 uZ (by omega) (by omega))) (g_bn (fun uZ=>eql_n _ _ (s_In:In 7) (s_In:In 7) true (by decide) uZ)) g_pk g_as) fun u2 HB2 sz2 K2=>?_
   simp only[sQ] at K2⊢
   go_wp2
   refine bodyPost_ret (v:= .bool true) (by simp[results,Tryz.results4,go_sem,]) rfl ⟨rfl,(Z2 hTf HB2)⟩
theorem works12(w:World)(hG:GP w):CC 4 #[] w (.bool true):=works_core w hG fun u x hB hx=>by
 have h:=jSum P0 Q0 4 H0 dsW x u (hG.below hB) W0 In_Q0' hx (by simp) (fun d hd=>by
  simp at hd
  rcases hd with rfl | rfl
  ·exact⟨by rw[Xd];decide,cM_In _⟩
  ·exact⟨by rw[Xd];decide,cM_In _⟩)
 have e1:smE P0 Q0 dsW=0:=w_sm
 rw[smD,smC,e1,if_pos rfl,if_pos rfl,w_cs] at h
 exact h
section
def Cls(ops:Array Oper)(f:Nat->Bool):Prop:= ∀i o,ops[i]?=some o->f i=true-> ∀e∈o.after,Region.binds .any e=true->f e.on=true
theorem Cls.step{ops:Array Oper}{f:Nat->Bool}{i:Nat}{o:Oper}(h:Cls ops f)(ho:ops[i]?=some o)(hd: ∀e∈o.after,Region.binds .any e=true->f e.on=true):Cls ops (updF f i):=fun j o' hj hf e he hb=>by
 unfold updF at hf⊢
 by_cases h1:e.on=i
 ·rw[if_pos h1]
 ·rw[if_neg h1]
  by_cases h2:j=i
  ·subst h2
   rw[ho] at hj;cases hj
   exact hd e he hb
  ·rw[if_neg h2] at hf
   exact h j o' hj hf e he hb
section
variable {P:Program} {ops:Array Oper} {Q:Exit->Act->World->Prop} {id:Nat} {w0:World} {R:Rg} {k:Nat}
end
end
def PQx(lo bo:Nat)(ns:List Int)(u:World)(y:Value):Prop:= ∃b co zs,y= .slice (some ⟨b,0,none⟩) ns.length co/\lo<=b/\b≠bo/\b<u.heap.size/\ns.length<=co/\CV u b (flN ns++zs)
theorem PQx.nl{lo bo:Nat}{ns:List Int}{u:World}{y:Value}(h:PQx lo bo ns u y):NL u y ns:=by
 obtain⟨b,co,zs,e,h1,_,h2,h3,h4⟩:=h
 exact PQn.nl ⟨b,co,zs,e,h1,h2,h3,h4⟩
def P1w(lo:Nat)(d:Int)(ns:List Int)(u:World)(v:Value):Prop:= ∃b y,v= .slice (some ⟨b,0,none⟩) 1 1/\b<u.heap.size/\CV u b (DE d y)/\PQn lo ns u y
def RwD(lo:Nat)(ds:List (Int×List Int))(i bo co:Nat)(u:World):Prop:= ∃(ys:Nat->Value) (zs:List Value),i<=co/\zs.length=2*(co -i)/\lo<=bo/\bo<u.heap.size/\CV u bo (rwD (fun j=>DE (ds.getD j (0,[])).1 (ys j)) i++zs)/\ ∀j,j<i->PQx lo bo (dN ds j) u (ys j)
theorem RwD.dl{lo:Nat}{ds:List (Int×List Int)}{bo co:Nat}{u:World}(h:RwD lo ds ds.length bo co u):DL u (.slice (some ⟨bo,0,none⟩) ds.length co) ds:=by
 obtain⟨ys,zs,h1,h2,h3,h4,h5,h6⟩:=h
 exact DL.mk ys h4 h5 h1 fun j hj=>(h6 j hj).nl
theorem RwD.stab{lo:Nat}{ds:List (Int×List Int)}{i bo co:Nat}{u u2:World}(hB:Bw u u2)(h:RwD lo ds i bo co u):RwD lo ds i bo co u2:=by
 obtain⟨ys,zs,h1,h2,h3,h4,h5,h6⟩:=h
 refine⟨ys,zs,h1,h2,h3,Nat.lt_of_lt_of_le h4 hB.size,h5.below hB h4,fun j hj=>?_⟩
 obtain⟨b,c,z,e,k1,k2,k3,k4,k5⟩:=h6 j hj
 exact⟨b,c,z,e,k1,k2,Nat.lt_of_lt_of_le k3 hB.size,k4,k5.below hB k3⟩
theorem rwD_eq{f g:Nat->List Value}: ∀{n:Nat},(∀j,j<n->f j=g j)->rwD f n=rwD g n
 | 0,_=>rfl
 | n+1,h=>by rw[rwD,rwD,rwD_eq fun j hj=>h j (by omega),h n (by omega)]
theorem one_D(d:Int)(y:Value)(h:y.oneCell'=true): ∀v∈DE d y,v.oneCell'=true:=fun v hv=>by
 simp at hv
 rcases hv with rfl | rfl
 ·rfl
 ·exact h
theorem PQx.grow{lo c r:Nat}{ns:List Int}{u u':World}{y:Value}(h:PQx lo c ns u y)(h2:PQx lo r ns u y)(hg:u.grownBy u' (some r)):PQx lo c ns u' y:=by
 obtain⟨b,k,z,rfl,h1,h3,h4,h5,h6⟩:=h
 obtain⟨b',_,_,e,_,g3,_⟩:=h2
 cases e
 exact⟨b,k,z,rfl,h1,h3,Nat.lt_of_lt_of_le h4 hg.size,h5,h6.grow hg h4 (by intro e;cases e;exact g3 rfl)⟩
theorem PQx.to{lo c r:Nat}{ns:List Int}{u:World}{y:Value}(h:PQx lo c ns u y)(hr:r=c\/u.heap.size<=r):PQx lo r ns u y:=by
 obtain⟨b,k,z,rfl,h1,h3,h4,h5,h6⟩:=h
 exact⟨b,k,z,rfl,h1,by rcases hr with e | e<;>omega,h4,h5,h6⟩
theorem PQx.up{lo c:Nat}{ns:List Int}{u u':World}{y:Value}(h:PQx lo c ns u y)(hB:Bw u u'):PQx lo c ns u' y:=by
 obtain⟨b,k,z,rfl,h1,h3,h4,h5,h6⟩:=h
 exact⟨b,k,z,rfl,h1,h3,Nat.lt_of_lt_of_le h4 hB.size,h5,h6.below hB h4⟩
theorem PQn.px{lo base c:Nat}{ns:List Int}{u:World}{y:Value}(h:PQn base ns u y)(hc:c<base)(hlo:lo<=base):PQx lo c ns u y:=by
 obtain⟨b,k,z,rfl,h1,h3,h4,h5⟩:=h
 exact⟨b,k,z,rfl,by omega,by omega,h3,h4,h5⟩
def RwX(lo bs:Nat)(ds:List (Int×List Int))(i bo co:Nat)(u:World):Prop:= ∃(ys:Nat->Value) (zs:List Value),i<=co/\zs.length=2*(co -i)/\lo<=bo/\bo<u.heap.size/\bo≠bs/\CV u bo (rwD (fun j=>DE (ds.getD j (0,[])).1 (ys j)) i++zs)/\ ∀j,j<i->PQx lo bo (dN ds j) u (ys j)/\PQx lo bs (dN ds j) u (ys j)
theorem RwX.dl{lo bs bo co k:Nat}{ds:List (Int×List Int)}{u:World}(h:RwX lo bs ds k bo co u)(hk:ds.length=k):DL u (.slice (some ⟨bo,0,none⟩) k co) ds:=by
 obtain⟨ys,zs,h1,h2,h3,h4,h5,h6,h7⟩:=h
 subst hk
 exact RwD.dl ⟨ys,zs,h1,h2,h3,h4,h6,fun j hj=>(h7 j hj).1⟩
theorem RwX.up{lo bs bo co i:Nat}{ds:List (Int×List Int)}{u u':World}(h:RwX lo bs ds i bo co u)(hB:Bw u u'):RwX lo bs ds i bo co u':=by
 obtain⟨ys,zs,h1,h2,h3,h4,h5,h6,h7⟩:=h
 exact⟨ys,zs,h1,h2,h3,Nat.lt_of_lt_of_le h4 hB.size,h5,h6.below hB h4,fun j hj=>⟨(h7 j hj).1.up hB,(h7 j hj).2.up hB⟩⟩
theorem RwX.grow{lo bs b2 bo co i:Nat}{ds:List (Int×List Int)}{u u':World}(h:RwX lo bs ds i bo co u)(hg:u.grownBy u' (some bs))(hb:b2=bs\/u.heap.size<=b2):RwX lo b2 ds i bo co u':=by
 obtain⟨ys,zs,h1,h2,h3,h4,h5,h6,h7⟩:=h
 exact⟨ys,zs,h1,h2,h3,Nat.lt_of_lt_of_le h4 hg.size,by rcases hb with e | e<;>omega,h6.grow hg h4 (by intro e;cases e;exact h5 rfl),fun j hj=>⟨(h7 j hj).1.grow (h7 j hj).2 hg,((h7 j hj).2.to hb).grow (h7 j hj).2 hg⟩⟩
theorem RwX.app{u:World}{lo base i bo bs co:Nat}{ds:List (Int×List Int)}{x:Value}{ty:TypeId}(h:RwX lo bs ds i bo co u)(hi:i<=1000)(hb:bo<base)(hs:bs<base)(hbu:base<=u.heap.size)(hlo:lo<=base)(hx:P1w base (ds.getD i (0,[])).1 (dN ds i) u x):
 ∃v u' b2 c2,(Builtin.append_ #[25,25] ty #[.slice (some ⟨bo,0,none⟩) i co,x]).run Tryz.prog u= .ok v u'/\u.grownBy u' (some bo)/\v= .slice (some ⟨b2,0,none⟩) (i+1) c2/\RwX lo bs ds (i+1) b2 c2 u':=by
 obtain⟨ti,hti,htm⟩:=Option.map_eq_some_iff.1 infoDl
 simp only[Prod.mk.injEq] at htm
 obtain⟨hzv,hsz,hby⟩:=htm
 obtain⟨ys,zs,h1,h2,h3,h4,hne,h5,h6⟩:=h
 obtain⟨bx,y,rfl,x1,x2,hy⟩:=hx
 have hy1:=hy.px (lo:=lo) hb hlo
 have hy2:=hy.px (lo:=lo) hs hlo
 have hy0:=hy
 obtain⟨by_,cy,zy,rfl,y1,y2,y3,y4⟩:=hy
 have h1c: ∀j,j<i->(DE (ds.getD j (0,[])).1 (ys j):List Value).length=2:=fun _ _=>rfl
 obtain⟨v',u',hr,hg,b2,c2,z2,rfl,k1,k2,k3,k4,k5⟩:=Wg (P:=Tryz.prog) u (ty:=ty) Tryz.underlying25 hti hzv (by rw[hsz];rfl) (base:=u.heap.size) (n:=i) (cap:=co) (m:=1) (news:=DE (ds.getD i (0,[])).1 (.slice (some ⟨by_,0,none⟩) (dN ds i).length cy)) (y:= .slice (some ⟨bx,0,none⟩) 1 1) h5 h4 (by rw[hsz,rwD_len h1c];omega) (by rw[hsz];omega) h1 (Nat.le_refl _) ⟨_,1,rfl,.inr ⟨_,rfl,fun j v hj=>by rw[Addr.add0];exact(x2 j v hj).1⟩⟩ (by rw[hsz];rfl) (one_D _ _ rfl) (by rw[hby];omega) (by omega)
 rw[hsz] at k4
 refine⟨_,u',b2,c2,hr,hg,rfl,fun j=>if j=i then .slice (some ⟨by_,0,none⟩) (dN ds i).length cy else ys j,z2,k3,by omega,?_,k2,by rcases k1 with e | e<;>omega,?_,fun j hj=>?_⟩
 ·rcases k1 with e | e<;>omega
 ·have e0:rwD (fun j=>DE (ds.getD j (0,[])).1 (if j=i then .slice (some ⟨by_,0,none⟩) (dN ds i).length cy else ys j)) (i+1)=rwD (fun j=>DE (ds.getD j (0,[])).1 (ys j)) i++DE (ds.getD i (0,[])).1 (.slice (some ⟨by_,0,none⟩) (dN ds i).length cy):=by
   rw[rwD]
   exact congr (congrArg _ (rwD_eq fun j hj=>by show DE _ (if j=i then _ else _)=_;rw[if_neg (by omega)])) (by show DE _ (if i=i then _ else _)=_;rw[if_pos rfl])
  show CV u' b2 (rwD (fun j=>DE (ds.getD j (0,[])).1 (if j=i then _ else ys j)) (i+1)++z2)
  rw[e0]
  exact k5
 ·show PQx lo b2 (dN ds j) u' (if j=i then _ else ys j)/\PQx lo bs (dN ds j) u' (if j=i then _ else ys j)
  by_cases e:j=i
  ·subst e
   rw[if_pos rfl]
   exact⟨(hy1.to k1).grow hy1 hg,hy2.grow hy1 hg⟩
  ·rw[if_neg e]
   obtain⟨g1,g2⟩:=h6 j (by omega)
   exact⟨(g1.to k1).grow g1 hg,g2.grow g1 hg⟩
def P1b(base:Nat)(cs:List Value)(u:World)(v:Value):Prop:= ∃b,v= .slice (some ⟨b,0,none⟩) 1 1/\base<=b/\b<u.heap.size/\CV u b cs
theorem P1b.up{base:Nat}{cs:List Value}{u u':World}{v:Value}(h:P1b base cs u v)(hB:Bw u u'):P1b base cs u' v:=by
 obtain⟨b,e,h1,h2,h3⟩:=h
 exact⟨b,e,h1,Nat.lt_of_lt_of_le h2 hB.size,h3.below hB h2⟩
theorem P1b.grow{base r:Nat}{cs:List Value}{u u':World}{v:Value}(h:P1b base cs u v)(hg:u.grownBy u' (some r))(hr:r<base):P1b base cs u' v:=by
 obtain⟨b,e,h1,h2,h3⟩:=h
 exact⟨b,e,h1,Nat.lt_of_lt_of_le h2 hg.size,h3.grow hg h2 (by intro e;cases e;omega)⟩
theorem shr_app{u:World}{bs i cs base:Nat}{l:List (Int×Int×Int)}{zs:List Value}{n s t:Int}{x:Value}{ty:TypeId}(hc:CV u bs (flS l++zs))(hb:bs<u.heap.size)(hm:l.length=i)(hmc:i<=cs)(hz:zs.length=9*(cs -i))(hl:i<=1000)(hx:P1b base (SE n s t) u x):
 ∃v u' b2 c2 z2,(Builtin.append_ #[26,26] ty #[.slice (some ⟨bs,0,none⟩) i cs,x]).run Tryz.prog u= .ok v u'/\u.grownBy u' (some bs)/\v= .slice (some ⟨b2,0,none⟩) (i+1) c2/\(b2=bs\/u.heap.size<=b2)/\b2<u'.heap.size/\i+1<=c2/\z2.length=9*(c2 -(i+1))/\CV u' b2 (flS (l++[(n,s,t)])++z2):=by
 obtain⟨ti,hti,htm⟩:=Option.map_eq_some_iff.1 infoSh
 simp only[Prod.mk.injEq] at htm
 obtain⟨hzv,hsz,hby⟩:=htm
 obtain⟨bx,rfl,x1,x2,x3⟩:=hx
 obtain⟨v',u',hr,hg,b2,c2,z2,rfl,k1,k2,k3,k4,k5⟩:=Wg (P:=Tryz.prog) u (ty:=ty) Tryz.underlying26 hti hzv (by rw[hsz];rfl) (base:=u.heap.size) (n:=i) (cap:=cs) (m:=1) (news:=SE n s t) (y:= .slice (some ⟨bx,0,none⟩) 1 1) hc hb (by rw[hsz,flS_len];omega) (by rw[hsz];omega) hmc (Nat.le_refl _) ⟨_,1,rfl,.inr ⟨_,rfl,fun j v hj=>by rw[Addr.add0];exact(x3 j v hj).1⟩⟩ (by rw[hsz];rfl) (fun v hv=>by simp at hv;rcases hv with h | h | h | h | h | h | h | h | h<;>(subst h;rfl)) (by rw[hby];omega) (by omega)
 rw[hsz] at k4
 rw[<-flS_snoc] at k5
 exact⟨_,u',b2,c2,z2,hr,hg,rfl,k1,k2,k3,by omega,k5⟩
theorem PQn.stab{lo:Nat}{ns:List Int}{u u2:World}{y:Value}(hB:Bw u u2)(h:PQn lo ns u y):PQn lo ns u2 y:=by
 obtain⟨b,co,zs,e,h1,h2,h3,h4⟩:=h
 exact⟨b,co,zs,e,h1,Nat.lt_of_lt_of_le h2 hB.size,h3,h4.below hB h2⟩
def PDw(lo:Nat)(d:Int)(ns:List Int)(u:World)(v:Value):Prop:= ∃y,v=DX d y/\PQn lo ns u y
theorem PDw.stab{lo:Nat}{d:Int}{ns:List Int}{u u2:World}{v:Value}(hB:Bw u u2)(h:PDw lo d ns u v):PDw lo d ns u2 v:=by
 obtain⟨y,e,h⟩:=h
 exact⟨y,e,h.stab hB⟩
theorem P1w.stab{lo:Nat}{d:Int}{ns:List Int}{u u2:World}{v:Value}(hB:Bw u u2)(h:P1w lo d ns u v):P1w lo d ns u2 v:=by
 obtain⟨b,y,e,h1,h2,h3⟩:=h
 exact⟨b,y,e,Nat.lt_of_lt_of_le h1 hB.size,h2.below hB h1,h3.stab hB⟩
theorem bsD0j(w:World):(Instr.buildSlice 25 0 #[]).run Tryz.prog w= .ok (.slice (some ⟨w.heap.size,0,none⟩) 0 0) (w.alloc (.cells #[] 29)):=by kernel_rfl
theorem bsS0j(w:World):(Instr.buildSlice 26 0 #[]).run Tryz.prog w= .ok (.slice (some ⟨w.heap.size,0,none⟩) 0 0) (w.alloc (.cells #[] 38)):=by kernel_rfl
theorem bsD1j(d:Int)(s:Option Addr)(n c:Nat)(w:World):(Instr.buildSlice 25 1 ([0].zip [DX d (.slice s n c)]).toArray).run Tryz.prog w= .ok (.slice (some ⟨w.heap.size,0,none⟩) 1 1) (w.alloc (.cells (DE d (.slice s n c):List Value).toArray 29)):=by kernel_rfl
theorem ent_JV:EnT 11:=fun _ _=>by kernel_rfl
theorem ent_JW:EnT 4:=fun _ _=>by kernel_rfl
theorem ent_JA:EnT 5:=fun _ _=>by kernel_rfl
def mTG(base b10 b13:Nat)(d nd s t:Int)(ns:List Int)(y:Value)(u:World):Prop:=base<=u.heap.size/\(base<=b10/\b10<u.heap.size/\CV u b10 (DE d y))/\(base<=b13/\b13<u.heap.size/\CV u b13 (SE nd s t))/\PQn base ns u y
theorem mTG.up{base b10 b13:Nat}{d nd s t:Int}{ns:List Int}{y:Value}{u u':World}(h:mTG base b10 b13 d nd s t ns y u)(hB:Bw u u'):mTG base b10 b13 d nd s t ns y u':=by
 obtain⟨h0,⟨h1,h2,h3⟩,⟨h4,h5,h6⟩,h7⟩:=h
 have:=hB.size
 exact⟨by omega,⟨h1,by omega,h3.below hB h2⟩,⟨h4,by omega,h6.below hB h5⟩,h7.stab hB⟩
theorem mTG.grow{base b10 b13 r:Nat}{d nd s t:Int}{ns:List Int}{y:Value}{u u':World}(h:mTG base b10 b13 d nd s t ns y u)(hg:u.grownBy u' (some r))(hr:r<base):mTG base b10 b13 d nd s t ns y u':=by
 obtain⟨h0,⟨h1,h2,h3⟩,⟨h4,h5,h6⟩,b,c,z,rfl,k1,k2,k3,k4⟩:=h
 have:=hg.size
 exact⟨by omega,⟨h1,by omega,h3.grow hg h2 (by intro e;cases e;omega)⟩,⟨h4,by omega,h6.grow hg h5 (by intro e;cases e;omega)⟩,b,c,z,rfl,k1,by omega,k3,k4.grow hg k2 (by intro e;cases e;omega)⟩
theorem jtog_core(tt nn nd a b_:Int)(t n0 k n gb go cap:Nat)(sl:Option Addr)(X Y:Nat->Value)(S T C:Nat->List Int)(sf tf:Nat->Int)(ds:List (Int×List Int))(l:List (Int×Int×Int))(cs:List Int)(w:World)(hnd:(n0:Int)+1=nd)(hn0:n0<=16)(hk:k<=5/\k<=n/\(n<=k\/5<=k))
 (hW:Hid (∀u,Bw w u->CC 4 #[] u (.bool true)))
 (hAt:Hid (∀u,CC 5 #[iI tt,iI 4] u (iI (t:Int))))(hAn:Hid (∀u,CC 5 #[iI nn,iI 16] u (iI (n0:Int))))
 (hix:Hid (∀j,j<n-> ∀W,(Instr.indexAt 22 (.slice sl n cap) (iI (j:Int))).run Tryz.prog W= .ok (.pointer (some ⟨gb,go+2*j,none⟩)) W))(hgb:Hid (n=0\/gb<w.heap.size))(hc:Hid (∀j,j<n->w.rangeAt gb (go+2*j) [X j,Y j]))
 (hM:Hid (∀i,i<k-> ∀u,Bw w u->Calls Tryz.prog 6 #[.agg #[X i,Y i],iI ((i:Int)+1),iI (t:Int),.bool false] u fun r u'=> ∃y z1 z2,r= .returned (.tuple #[DX ((i:Int)+1) y,z1,z2])/\NL u' z1 (S i)/\NL u' z2 (T i)/\PQn u.heap.size (C i) u' y/\Bw u u'))
 (hSh:Hid (∀i,i<k-> ∀u z1 z2,NL u z1 (S i)->NL u z2 (T i)->CC 7 #[GX P0 Q0 4 H0,iI nd,z1,z2] u (.tuple #[SX nd (sf i) (tf i),iI 0])))
 (hds:Hid (∀i,i<k->ds.getD i (0,[])=((i:Int)+1,C i)))(hdl:ds.length=k)(hl:Hid (∀i,i<k->l.take (i+1)=l.take i++[(nd,sf i,tf i)]))(hll:l.length=k)
 (hSm:Hid (∀u v,0<k->Bw w u->DL u v ds->Calls Tryz.prog 9 #[GX P0 Q0 4 H0,v] u fun r u'=> ∃y,r= .returned (.tuple #[DX 1 y,iI 0])/\NL u' y cs/\Bw u u'))
 (hJs:Hid (∀u v,0<k->Bw w u->ShL u v l->CC 10 #[GX P0 Q0 4 H0,v] u (.tuple #[SX nd a b_,iI 0])))
 (hVe:Hid (∀u v,0<k->Bw w u->NL u v cs->CC 11 #[GX P0 Q0 4 H0,DX 1 v,SX nd a b_] u (iI 0))):
 CC 3 #[.slice sl n cap,iI tt,iI nn] w (.bool true):=by
 have hb0:=bsD0j
 have hb1:=bsS0j
 have hwr:IntKind.i64.wrap (1+(n0:Int))=nd:=by rw[IntKind.wrap_i64];omega
 go_enter Tryz.func3,Tryz.ntmps3
 have HB00:Bw w w:=Below.refl _ _
 have K0_1:=Bk.nil (w.heap.size) w
 go_upto_region 1 with fail
 refine Rn K0_1 HB00 [(0,19,_),(1,20,_)] (Oc2 (g_cb ent_JW hW.out) (g_un W1)) fun u1 HB1 _ K1=>?_
 simp only[sQ] at K1⊢
 go_upto_region 3 with fail
 refine Rp K1 HB1 [] [] (cG 0 21 [_,_,_,_,_] [(5,1,_),(6,2,_)]) [(5,0),(6,2)] [(5,1),(6,2)] [] (Oc7 g_mv (g_cl ent_JA hAt.out) g_mv (g_cl ent_JA hAn.out) (g_bn (fun uZ=>Zl _ _ 1 (n0:Int) nd uZ (by omega) (by omega) (by omega))) g_as g_as) fun u2 HB2 _ K2=>?_
 simp only[sQ] at K2⊢
 have hBc:=HB2
 obtain⟨uc,rfl⟩: ∃x,x=u2:=⟨_,rfl⟩
 go_upto_region 4 with fail
 go_cut [7,8] (fun s v wx=>s= .slice (some ⟨uc.heap.size,0,none⟩) 0 0/\v= .slice (some ⟨uc.heap.size+1,0,none⟩) 0 0/\wx.heap.size=uc.heap.size+2/\Bw uc wx)
 case first=>
  go_wp2_with fail
  go_meet
  exact⟨rfl,by simp,by simp,Z1 (Z1 (Z5 uc) _) _⟩
 case rest=>
 obtain⟨rfl,rfl,hsz2,hBd⟩:=hcut
 obtain⟨ud,rfl⟩: ∃x,x=wc:=⟨_,rfl⟩
 have hBe:=Z2 hBc hBd
 have hsc:=hBc.size
 go_wp2_with fail
 go_loopw [7,8,9] (fun s7 s8 s9 wr=> ∃(i bo co bs cs':Nat) (zs:List Value),i<=k/\s9=iI (i:Int)/\s7= .slice (some ⟨bo,0,none⟩) i co/\s8= .slice (some ⟨bs,0,none⟩) i cs'/\(i<=cs'/\zs.length=9*(cs' -i)/\w.heap.size<=bs/\bs<wr.heap.size)/\Hid (CV wr bs (flS (l.take i)++zs))/\Hid (RwX w.heap.size bs ds i bo co wr)/\Bw w wr) (fun _ _ s9 _=>6 -(intOf s9).toNat)
 case atStart=>
  exact⟨0,uc.heap.size,0,uc.heap.size+1,0,[],by omega,rfl,rfl,rfl,⟨Nat.le_refl _,rfl,by omega,by omega⟩,(fun j v h=>by simp[flS] at h),⟨fun _=>.bool false,[],Nat.le_refl _,rfl,by omega,by omega,by omega,(fun j v h=>by simp[rwD] at h),fun j hj=>absurd hj (by omega)⟩,hBe⟩
 case round=>
  obtain⟨i,bo,co,bs,cs',zs,hi,rfl,rfl,rfl,⟨hic,hz,hlo,hlt⟩,KO,hR,HBr⟩:=hrel
  have hlen:(l.take i).length=i:=by rw[List.length_take];omega
  obtain⟨_,_,_,_,hloD,hbo,hne,_⟩:=hR.out
  by_cases hj:i<k
  ·have hl1:(i:Int)<(n:Int):=by omega
   have hl2:(i:Int)<5:=by omega
   have hX:=hix.out i (by omega)
   have hgo:=hgb.out.resolve_left (by omega)
   have hRz:=rg_up HBr hgo (hc.out i (by omega))
   have c0:wr.cell? ⟨gb,go+2*i,none⟩=some (X i):=hRz 0 _ rfl
   have c1:wr.cell? ⟨gb,go+2*i+1,none⟩=some (Y i):=hRz 1 _ rfl
   have w1:IntKind.i64.wrap ((i:Int)+1)=(i:Int)+1:=by rw[IntKind.wrap_i64];omega
   have hMi:=hM.out i hj wr HBr
   have hSi:=hSh.out i hj
   have hdi:=hds.out i hj
   have hli:=hl.out i hj
   go_upto_region 8 with fail
   go_cut [10,11,12] (fun s s1 s2 wx=> ∃b y,s= .pointer (some ⟨b,0,none⟩)/\wr.heap.size<=b/\b<wx.heap.size/\CV wx b (DE ((i:Int)+1) y)/\NL wx s1 (S i)/\NL wx s2 (T i)/\PQn wr.heap.size (C i) wx y/\Bw wr wx)
   case first=>
    go_wp2_with (first
     | (go_at_call 6;refine hMi.mono ?_;rintro r ua ⟨y,z1,z2,rfl,h1,h2,hy,hBa⟩;obtain⟨s1,k1,e1⟩:=h1.sl;subst e1;obtain⟨s2,k2,e2⟩:=h2.sl;subst e2;have hy0:=Hid.on hy;obtain⟨by_,cy,zy,rfl,_⟩:=hy;have h1:=Hid.on h1;have h2:=Hid.on h2))
    go_meet
    exact⟨ua.heap.size,_,rfl,hBa.size,by simp,CV.new ua _ _,h1.out.up (Z1 (Z5 ua) _),h2.out.up (Z1 (Z5 ua) _),hy0.out.stab (Z1 (Z5 ua) _),Z1 hBa _⟩
   case rest=>
   obtain⟨b10,y,rfl,lo10,l10,K10,n11,n12,hy,HBs⟩:=hcut
   obtain⟨wf,rfl⟩: ∃x,x=wc:=⟨_,rfl⟩
   obtain⟨t11,k11,ey⟩:=n11.sl
   subst ey
   obtain⟨t12,k12,ey⟩:=n12.sl
   subst ey
   have n11:=Hid.on n11
   have n12:=Hid.on n12
   have HBf:=Z2 HBr HBs
   go_upto_region 9 with fail
   go_cut [13,14] (fun s v wx=> ∃c,s= .pointer (some ⟨c,0,none⟩)/\wf.heap.size<=c/\c<wx.heap.size/\CV wx c (SE nd (sf i) (tf i))/\v=iI 0/\Bw wf wx)
   case first=>
    go_wp2_with (first
     | (go_at_call 8;refine(jThe wf).mono ?_;rintro r ua ⟨rfl,hBa⟩)
     | (go_at_call 7;refine(hSi ua _ _ (n11.out.up hBa) (n12.out.up hBa)).mono ?_;rintro r ub ⟨rfl,hBb⟩))
    go_meet
    have hBd:=Z2 hBa hBb
    exact⟨ub.heap.size,rfl,hBd.size,by simp,CV.new ub _ _,rfl,Z1 hBd _⟩
   case rest=>
   obtain⟨b13,rfl,lo13,l13,K13,rfl,HBt⟩:=hcut
   obtain⟨wg,rfl⟩: ∃x,x=wc:=⟨_,rfl⟩
   have HBg:=Z2 HBf HBt
   have hBwg:=Z2 HBs HBt
   have hy0:=hy
   obtain⟨by_,cy,zy,rfl,_⟩:=hy0
   have hm:mTG wr.heap.size b10 b13 ((i:Int)+1) nd (sf i) (tf i) (C i) (.slice (some ⟨by_,0,none⟩) (C i).length cy) wg:=⟨hBwg.size,⟨lo10,Nat.lt_of_lt_of_le l10 HBt.size,K10.below HBt l10⟩,⟨by have:=HBs.size;omega,l13,K13⟩,hy.stab HBt⟩
   have hRx:=hR.out.up hBwg
   have KOg:=KO.out.below hBwg hlt
   have hltg:=Nat.lt_of_lt_of_le hlt hBwg.size
   have hdg:(ds.getD i (0,[])).1=(i:Int)+1/\dN ds i=C i:=by rw[dN,hdi];exact⟨rfl,rfl⟩
   have hwe:=HBr.size
   clear hy K10 K13 HBs HBt HBf hBwg n11 n12 lo10 l10 lo13 l13 hMi hSi c0 c1 hX hRz
   go_upto_region 10 with fail
   refine region_pair 58 59 60 61 7 62 63 64 65 8 94 25 26 29 38 (.tmp 10) (.tmp 13) (.slice (some ⟨bo,0,none⟩) i co) (DX ((i:Int)+1) (.slice (some ⟨by_,0,none⟩) (C i).length cy)) (.pointer (some ⟨b10,0,none⟩)) (.slice (some ⟨bs,0,none⟩) i cs') (SX nd (sf i) (tf i)) (.pointer (some ⟨b13,0,none⟩)) (mTG wr.heap.size b10 b13 ((i:Int)+1) nd (sf i) (tf i) (C i) (.slice (some ⟨by_,0,none⟩) (C i).length cy))
    (fun u=>RwX w.heap.size bs ds i bo co u/\(bs<u.heap.size/\CV u bs (flS (l.take i)++zs))/\Bw w u) (P1w wr.heap.size ((i:Int)+1) (C i)) (P1b wr.heap.size (SE nd (sf i) (tf i)))
    (fun u z=> ∃b2 c2,z= .slice (some ⟨b2,0,none⟩) (i+1) c2/\RwX w.heap.size bs ds (i+1) b2 c2 u/\(bs<u.heap.size/\CV u bs (flS (l.take i)++zs))/\Bw w u)
    (fun u z v=> ∃b2 c2 s2 k2 z2,z= .slice (some ⟨b2,0,none⟩) (i+1) c2/\v= .slice (some ⟨s2,0,none⟩) (i+1) k2/\RwX w.heap.size s2 ds (i+1) b2 c2 u/\(i+1<=k2/\z2.length=9*(k2 -(i+1))/\w.heap.size<=s2/\s2<u.heap.size)/\CV u s2 (flS (l.take (i+1))++z2)/\Bw w u)
    (fun u u' hB h=>⟨h.up hB,fun⟨h1,h2,h3⟩=>⟨h1.up hB,⟨Nat.lt_of_lt_of_le h2.1 hB.size,h2.2.below hB h2.1⟩,Z2 h3 hB⟩,fun z=>⟨fun⟨b2,c2,e,h1,h2,h3⟩=>⟨b2,c2,e,h1.up hB,⟨Nat.lt_of_lt_of_le h2.1 hB.size,h2.2.below hB h2.1⟩,Z2 h3 hB⟩,P1w.stab hB,fun h=>h.up hB⟩⟩) hm ⟨hRx,⟨hltg,KOg⟩,HBg⟩
    (fun u h=>run_loadAt_mid u b10 0 _ (DE _ _) _ (fun j v hj=>by rw[Nat.zero_add];exact(h.2.1.2.2 j v hj).1) Tryz.underlying29 rfl Z7)
    (fun u h=>run_loadAt_mid u b13 0 _ (SE _ _ _) _ (fun j v hj=>by rw[Nat.zero_add];exact(h.2.2.1.2.2 j v hj).1) Tryz.underlying38 rfl Zr)
    (fun u h=>⟨_,_,bsD1j ((i:Int)+1) _ _ _ u,Z1 (Z5 u) _,_,_,rfl,by simp,CV.new u _ _,h.2.2.2.stab (Z1 (Z5 u) _)⟩)
    (fun u h=>⟨_,_,bsS1z nd (sf i) (tf i) u,Z1 (Z5 u) _,_,rfl,h.1,by simp,CV.new u _ _⟩)
    (fun ty u x h ⟨h1,h2,h3⟩ hx=>?_) (fun ty u z x h ⟨b2,c2,e,h1,h2,h3⟩ hx=>?_) (fun t u ⟨b2,c2,s2,k2,z2,ez,ev,h1,h2,h3,h4⟩ e1 e2=>?_) (fun a t hF=>(hF.out 10 (by decide)).trans rfl) (fun a t hF=>(hF.out 13 (by decide)).trans rfl)
   ·obtain⟨v,u',b2,c2,hr,hg,e,hR2⟩:=h1.app (ty:=ty) (base:=wr.heap.size) (x:=x) (by omega) hbo hlt h.1 hwe (by rw[hdg.1,hdg.2];exact hx)
    exact⟨v,u',hr,h.grow hg hbo,⟨b2,c2,e,hR2,⟨Nat.lt_of_lt_of_le h2.1 hg.size,h2.2.grow hg h2.1 (by intro e;cases e;exact hne rfl)⟩,h3.grown hg h3.size (fun k e=>by cases e;exact hloD)⟩,fun z hz=>hz.grow hg hbo⟩
   ·obtain⟨v,u',s2,k2,z2,hr,hg,ev,g1,g2,g3,g4,g5⟩:=shr_app (ty:=ty) h2.2 h2.1 hlen hic hz (by omega) hx
    have:=h3.size
    exact⟨v,u',hr,h.grow hg hlt,b2,c2,s2,k2,z2,e,ev,h1.grow hg g1,⟨g3,g4,by rcases g1 with q | q<;>omega,g2⟩,by rw[hli];exact g5,h3.grown hg h3.size (fun k e=>by cases e;exact hlo)⟩
   ·have h1:=Hid.on h1
    have h3:=Hid.on h3
    have w2:IntKind.i64.wrap ((i:Int)+1)=((i+1:Nat):Int):=by rw[w1];omega
    clear w1
    simp only[List.nil_append,List.cons_append,ovr,List.set_cons_zero,List.set_cons_succ,e1,e2,ez,ev]
    go_wp2_with fail
    refine⟨⟨i+1,b2,c2,s2,k2,z2,by omega,by first | rfl | rw[w2] | simp[w2],rfl,rfl,h2,h3,h1,h4⟩,?_⟩
    simp[intOf]<;>omega
  ·obtain rfl:i=k:=by omega
   have hD:=Hid.on (hR.out.dl hdl)
   have hL:ShL wr (.slice (some ⟨bs,0,none⟩) i cs') l:=sh_row (zs:=zs) hlt (by rw[<-show l.take i=l by rw[<-hll,List.take_length]];exact KO.out) hll hic
   have hL:=Hid.on hL
   clear KO hR
   by_cases hl3:i<n
   case' pos=>
    have hl1:(i:Int)<(n:Int):=by omega
    have hl2: ¬(i:Int)<5:=by omega
   case' neg=>
    have hl1: ¬(i:Int)<(n:Int):=by omega
   all_goals
    by_cases h0:i=0
    ·have h0':((i:Int)==0)=true:=by rw[beq_iff_eq];omega
     clear hD hL hSm hJs hVe
     go_wp2_with fail
     all_goals exact bodyPost_ret (v:= .bool true) (by simp[results,Tryz.results3,go_sem]) rfl ⟨rfl,HBr⟩
    have h0':((i:Int)==0)=false:=by rw[beq_eq_false_iff_ne];omega
    have hi0:0<i:=by omega
    go_upto_region 13 with fail
    go_cut [15,16] (fun s v wx=> ∃b y,s= .pointer (some ⟨b,0,none⟩)/\b<wx.heap.size/\CV wx b (DE 1 y)/\NL wx y cs/\v=iI 0/\Bw wr wx)
    case first=>
     go_wp2_with (first
      | (go_at_call 8;refine(jThe wr).mono ?_;rintro r ua ⟨rfl,hBa⟩)
      | (go_at_call 9;refine(hSm.out ua _ hi0 (Z2 HBr hBa) (hD.out.up hBa)).mono ?_;rintro r ub ⟨y,rfl,hy,hBb⟩;obtain⟨sy,ky,ey⟩:=hy.sl;subst ey;have hy:=Hid.on hy;have hBd:=Z2 hBa hBb))
     go_meet
     exact⟨ub.heap.size,_,rfl,by simp,CV.new ub _ _,hy.out.up (Z1 (Z5 ub) _),rfl,Z1 hBd _⟩
    case rest=>
    obtain⟨b15,y15,rfl,l15,K15,n15,rfl,HBs⟩:=hcut
    obtain⟨wf,rfl⟩: ∃x,x=wc:=⟨_,rfl⟩
    obtain⟨t15,k15,ey⟩:=n15.sl
    subst ey
    have HBf:=Z2 HBr HBs
    go_upto_region 14 with fail
    go_cut [17,18] (fun s v wx=> ∃b,s= .pointer (some ⟨b,0,none⟩)/\wf.heap.size<=b/\b<wx.heap.size/\CV wx b (SE nd a b_)/\v=iI 0/\Bw wf wx)
    case first=>
     go_wp2_with (first
      | (go_at_call 8;refine(jThe wf).mono ?_;rintro r ua ⟨rfl,hBa⟩)
      | (go_at_call 10;refine(hJs.out ua _ hi0 (Z2 HBf hBa) (hL.out.up (Z2 HBs hBa))).mono ?_;rintro r ub ⟨rfl,hBb⟩;have hBd:=Z2 hBa hBb))
     go_meet
     exact⟨ub.heap.size,rfl,hBd.size,by simp,CV.new ub _ _,rfl,Z1 hBd _⟩
    case rest=>
    obtain⟨b17,rfl,lo17,l17,K17,rfl,HBt⟩:=hcut
    obtain⟨wg,rfl⟩: ∃x,x=wc:=⟨_,rfl⟩
    have hTg:=Z2 HBf HBt
    have K15:=K15.below HBt l15
    have n15:=n15.up HBt
    have hne17:b15≠b17:=by omega
    have l15:=Nat.lt_of_lt_of_le l15 HBt.size
    have HBo:Bw wg wg:=Below.refl _ _
    have hVr:Hid (∀u,Bw wg u->CC 11 #[GX P0 Q0 4 H0,DX 1 (.slice t15 cs.length k15),SX nd a b_] u (iI 0)):=fun u hB=>hVe.out u _ hi0 (Z2 hTg hB) (n15.up hB)
    clear hD hL hSm hJs hVe HBs HBt HBf n15 lo17 hlt hlo hz hic
    have K2_2:Bk wg.heap.size wg [(false,b15,DE (1) (.slice t15 cs.length k15)),(false,b17,SE nd a b_)]:=⟨.c l15 K15<| .c l17 K17<|trivial,by simp<;>omega⟩
    go_upto_region 15 with fail
    refine Rm K2_2 HBo (cG 0 81 [_,_,_,_,_,_,_,_,_,_,_,_,_] [(13,6,_)]) (Od8 g_mv (g_bn (fun uZ=>Tc _ _ _ 0 0 true uZ rfl)) g_mv g_mv (g_bn (fun uZ=>Tc _ _ _ 0 0 true uZ rfl)) g_pk g_mv (g_cl ent_H1 jThe)<|Oc6 (g_ld 0 Tryz.underlying29 Z7) (g_ld 1 Tryz.underlying38 Zr) (g_cb ent_JV hVr.out) (g_bn (fun uZ=>Tc _ _ _ 0 0 true uZ rfl)) g_pk g_as) fun u3 HB3 _ K3=>?_
    simp only[sQ] at K3⊢
    go_wp2
    refine bodyPost_ret (v:= .bool true) (by simp[results,Tryz.results3,go_sem,]) rfl ⟨rfl,(Z2 hTg HB3)⟩
def PYL(w:World)(v:Value)(ps:List (List Int×List Int)):Prop:= ∃sl gb go cap,∃X Y:Nat->Value,v= .slice sl ps.length cap/\(∀j,j<ps.length-> ∀W,(Instr.indexAt 22 (.slice sl ps.length cap) (iI (j:Int))).run Tryz.prog W= .ok (.pointer (some ⟨gb,go+2*j,none⟩)) W)/\(ps.length=0\/gb<w.heap.size)/\ ∀j,j<ps.length->w.rangeAt gb (go+2*j) [X j,Y j]/\NL w (X j) (ps.getD j ([],[])).1/\NL w (Y j) (ps.getD j ([],[])).2
theorem rng_get{α:Type}(f:Nat->α)(d:α){k i:Nat}(h:i<k):((List.range k).map f).getD i d=f i:=by
 simp[List.getD_eq_getElem?_getD,List.getElem?_map,List.getElem?_range h]
theorem rng_take{α:Type}(f:Nat->α){k i:Nat}(h:i<k):((List.range k).map f).take (i+1)=((List.range k).map f).take i++[f i]:=by
 rw[List.take_add_one,List.getElem?_map,List.getElem?_range h];rfl
theorem jointTogether(ps:List (List Int×List Int))(tt nn:Int)(v:Value)(w:World)(hG:GP w)(hv:PYL w v ps)(hIn: ∀p∈ps,(∀z∈p.1,In z)/\ ∀z∈p.2,In z)(ht: -9223372036854775808<=tt/\tt<9223372036854775808)(hn: -9223372036854775808<=nn/\nn<9223372036854775808):
 CC 3 #[v,iI tt,iI nn] w (.bool true):=by
 obtain⟨sl,gb,go,cap,X,Y,rfl,hix,hgb,hc⟩:=hv
 obtain⟨t,t4,hAt⟩:=among_any tt 4 (by decide) (by decide) ht
 obtain⟨n0,n16,hAn⟩:=among_any nn 16 (by decide) (by decide) hn
 obtain⟨k,hk⟩: ∃k,k=min ps.length 5:=⟨_,rfl⟩
 have hk1:k<=5:=by omega
 have hk2:k<=ps.length:=by omega
 obtain⟨nd,hnd⟩: ∃nd:Int,(n0:Int)+1=nd:=⟨_,rfl⟩
 have ndb:ndB nd=true:=ndB_iff.2 ⟨by omega,by omega⟩
 obtain⟨S,hS⟩: ∃S:Nat->List Int,∀i,S i=mkS (ps.getD i ([],[])).1 t false:=⟨_,fun _=>rfl⟩
 obtain⟨T,hT⟩: ∃T:Nat->List Int,∀i,T i=mkS (ps.getD i ([],[])).2 t false:=⟨_,fun _=>rfl⟩
 have hSl: ∀i,(S i).length=t+1:=fun i=>by rw[hS,Un]
 have hTl: ∀i,(T i).length=t+1:=fun i=>by rw[hT,Un]
 have hpi: ∀i,i<k->(∀z∈(ps.getD i ([],[])).1,In z)/\ ∀z∈(ps.getD i ([],[])).2,In z:=fun i hi=>hIn _ (by rw[List.getD_eq_getElem?_getD,List.getElem?_eq_getElem (by omega:i<ps.length)];exact List.getElem_mem _)
 have hSI: ∀i,i<k-> ∀z∈S i,In z:=fun i hi=>by rw[hS];exact mkS_In (hpi i hi).1 _ _
 have hTI: ∀i,i<k-> ∀z∈T i,In z:=fun i hi=>by rw[hT];exact mkS_In (hpi i hi).2 _ _
 have hsh: ∀i,shB (S i).length (T i).length=true:=fun i=>by rw[hSl,hTl,shB_iff];omega
 have hdb: ∀i,i<k->ndB ((i:Int)+1)=true:=fun i hi=>ndB_iff.2 ⟨by omega,by omega⟩
 obtain⟨ds,hds⟩: ∃ds:List (Int×List Int),ds=(List.range k).map fun i:Nat=>((i:Int)+1,cmS P0 Q0 4 H0 (S i) (T i)):=⟨_,rfl⟩
 obtain⟨l,hl⟩: ∃l:List (Int×Int×Int),l=(List.range k).map fun i=>(nd,hoN Q0 nd (S i) (t+1),hoN Q0 nd (T i) (t+1)):=⟨_,rfl⟩
 have hdl:ds.length=k:=by rw[hds];simp
 have hll:l.length=k:=by rw[hl];simp
 have hdg: ∀i,i<k->ds.getD i (0,[])=((i:Int)+1,cmS P0 Q0 4 H0 (S i) (T i)):=fun i hi=>by rw[hds];exact rng_get _ _ hi
 have hlg: ∀i,i<k->l.getD i (0,0,0)=(nd,hoN Q0 nd (S i) (t+1),hoN Q0 nd (T i) (t+1)):=fun i hi=>by rw[hl];exact rng_get _ _ hi
 have hdm: ∀d∈ds,∃i,i<k/\d=((i:Int)+1,cmS P0 Q0 4 H0 (S i) (T i)):=fun d hd=>by
  rw[hds] at hd
  obtain⟨i,hi,rfl⟩:=List.mem_map.1 hd
  exact⟨i,List.mem_range.1 hi,rfl⟩
 have hlm: ∀x∈l,∃i,i<k/\x=(nd,hoN Q0 nd (S i) (t+1),hoN Q0 nd (T i) (t+1)):=fun x hx=>by
  rw[hl] at hx
  obtain⟨i,hi,rfl⟩:=List.mem_map.1 hx
  exact⟨i,List.mem_range.1 hi,rfl⟩
 have hQ:=In_Q0'
 have hQ2:2<=Q0:=by decide
 have hQ0:(0:Int)<Q0:=by decide
 obtain⟨A,hA⟩: ∃A,A=plS Q0 S (t+1) k:=⟨_,rfl⟩
 obtain⟨B,hB⟩: ∃B,B=plS Q0 T (t+1) k:=⟨_,rfl⟩
 have hAl:A.length=t+1:=by rw[hA];exact Vw fun j _=>hSl j
 have hBl:B.length=t+1:=by rw[hB];exact Vw fun j _=>hTl j
 have hcI: ∀d∈ds,d.2.length<=50/\ ∀z∈d.2,In z:=fun d hd=>by
  obtain⟨i,hi,rfl⟩:=hdm d hd
  exact⟨by show (cmS P0 Q0 4 H0 (S i) (T i)).length<=50;rw[Xd,hSl];omega,cm_In W0 is4 isH0⟩
 have e0:0<k->smE P0 Q0 ds=0:=fun h=>by
  rw[smE,if_pos Ww,if_pos ⟨by omega,by omega⟩,if_pos]
  exact fdE_al.2 fun d hd=>by
   obtain⟨i,hi,rfl⟩:=hdm d hd
   exact deal_ok is4 isH0 (hdb i hi) (hsh i)
 have e1:0<k->csC P0 ds ds.length=cmS P0 Q0 4 H0 A B:=fun h=>by
  rw[cs_cm (S:=S) (T:=T) (m:=t+1) Ww is4 isH0 (by omega) (fun i hi=>⟨hSl i,fun z hz=>(hSI i (by omega) z hz).1⟩) (fun i hi=>⟨hTl i,fun z hz=>(hTI i (by omega) z hz).1⟩) (fun i hi=>by rw[dN,hdg i (by omega)]),hdl,hA,hB]
 have e2:0<k->seE P0 Q0 l=0:=fun h=>by
  rw[seE,if_pos Ww,if_pos]
  refine⟨by omega,?_⟩
  rw[Bool.and_eq_true,sameB,ndsB,List.all_eq_true,List.all_eq_true,hlg 0 h]
  exact⟨fun x hx=>by obtain⟨i,_,rfl⟩:=hlm x hx;simp,fun x hx=>by obtain⟨i,_,rfl⟩:=hlm x hx;exact ndb⟩
 have e3:sm1 Q0 (shS l) l.length=hoN Q0 nd A (t+1):=by
  rw[hA,hll]
  exact sm1_ho hQ0 (fun i _=>hSl i) (fun i hi=>by rw[shS,hlg i hi,hSl])
 have e4:sm1 Q0 (shT l) l.length=hoN Q0 nd B (t+1):=by
  rw[hB,hll]
  exact sm1_ho hQ0 (fun i _=>hTl i) (fun i hi=>by rw[shT,hlg i hi,hTl])
 refine jtog_core tt nn nd (hoN Q0 nd A (t+1)) (hoN Q0 nd B (t+1)) t n0 k ps.length gb go cap sl X Y S T (fun i=>cmS P0 Q0 4 H0 (S i) (T i)) (fun i=>hoN Q0 nd (S i) (t+1)) (fun i=>hoN Q0 nd (T i) (t+1)) ds l (cmS P0 Q0 4 H0 A B) w hnd (by omega) ⟨hk1,hk2,by omega⟩ (fun u hB=>works12 u (hG.below hB)) hAt hAn hix hgb (fun j hj=>(hc j hj).1) ?_ ?_ hdg hdl (fun i hi=>by rw[hl];exact rng_take _ hi) hll ?_ ?_ ?_
 ·intro i hi u hB
  obtain⟨_,c2,c3⟩:=hc i (by omega)
  have z0:dlE P0 Q0 4 H0 ((i:Int)+1) (S i) (T i)=0:=dl_0 (hdb i hi) (hsh i)
  have h:=cMade ((i:Int)+1) t false _ _ _ _ u (hdb i hi) (by omega) (c2.up hB) (c3.up hB) (hpi i hi).1 (hpi i hi).2
  rw[<-hS,<-hT,dlD,dlC,if_pos z0,if_pos z0] at h
  exact h.mono fun r u' ⟨y,z1,z2,e,⟨_,h2,h3,h4⟩,hB⟩=>⟨y,z1,z2,e,h2,h3,h4 z0,hB⟩
 ·intro i hi u z1 z2 h1 h2
  have h:=xShareG P0 Q0 4 H0 nd (S i) (T i) z1 z2 u W0 hQ h1 h2 (hSI i hi) (hTI i hi) (by rw[hSl];omega) (by rw[hTl];omega) Ww (hsh i) ndb
  have o0:shO P0 Q0 nd (S i) (T i)=0:=by rw[shO,if_pos Ww,if_pos (hsh i),if_pos ndb]
  rw[shV,o0,if_pos rfl,hSl,hTl] at h
  exact h
 ·intro u x h0 hB hx
  have h:=jSum P0 Q0 4 H0 ds x u (hG.below hB) W0 hQ hx (by omega) hcI
  rw[smD,smC,e0 h0,if_pos rfl,if_pos rfl,e1 h0,hdg 0 h0] at h
  exact h
 ·intro u x h0 hB hx
  have h:=jShares P0 Q0 4 H0 l x u (hG.below hB) W0 hQ hx (by omega) (fun y hy=>by obtain⟨i,_,rfl⟩:=hlm y hy;exact⟨by show _<=nd;omega,by show nd<=_;omega⟩) (fun y hy=>by obtain⟨i,_,rfl⟩:=hlm y hy;exact⟨hoN_In hQ (by decide) _,hoN_In hQ (by decide) _⟩)
  rw[seM,seS,seT,e2 h0,if_pos rfl,if_pos rfl,if_pos rfl,e3,e4,hlg 0 h0] at h
  exact h
 ·intro u x h0 hB hx
  have h:=vVerify P0 Q0 4 H0 1 nd (hoN Q0 nd A (t+1)) (hoN Q0 nd B (t+1)) _ x u (hG.below hB).gt W0 hQ In_n4 In_H0 (hoN_In hQ (by decide) _) (hoN_In hQ (by decide) _) hx (cm_In W0 is4 isH0) (by rw[Xd,hAl];omega)
  rw[verify_is is4 isH0 (by decide) ndb (by rw[hAl,hBl,shB_iff];omega),hAl,hBl,if_pos rfl] at h
  exact h
end
section
open Go.ChangeShapes Go.WideShapes Go.ChangeAt Go.RowKit
theorem Tryz.cells33:Tryz.prog.cellsOf 33=2:=by kernel_rfl
theorem ixPj(gb go n cap j:Nat)(hj:j<n)(w:World):(Instr.indexAt 22 (.slice (some ⟨gb,go,none⟩) n cap) (iI j)).run Tryz.prog w= .ok (.pointer (some ⟨gb,go+2*j,none⟩)) w:=by
 have h1:(j:Int)<(n:Int):=by omega
 have e:j*2=2*j:=by omega
 simp[Instr.indexAt,Instr.index,go_sem,Tryz.underlying22,h1,e]
 intro h2
 omega
theorem undP: ∃f0 f1:Field,Tryz.prog.underlying 33=some (.struct #[f0,f1])/\f0.offset=0/\f1.offset=1/\f0.type=27/\f1.type=27:=⟨_,_,Tryz.underlying33,rfl,rfl,rfl,rfl⟩
theorem open_polys{H:Type}{enc:TypeId×Value->H}{W:World}{base:Nat}{v:Value}{x:DataW H}{p:List MemPlace}(hv:Value.okWide Tryz.prog W .any base 22 v)(h:DataW.Trod enc Tryz.prog W 0 (fun _=>true) true 22 v x p):
 ∃ps:List (List Int×List Int),PYL W v ps/\ ∀q∈ps,(∀z∈q.1,In z)/\ ∀z∈q.2,In z:=by
 obtain⟨a0,len,cap,rfl⟩:=okWide_slice Tryz.underlying22 hv
 obtain⟨fuel,hf⟩:=h
 have hf:DataW.trod enc Tryz.prog W 0 (fun _=>true) true fuel 22 [.slice a0 len cap]=some (x,p):=hf
 obtain⟨f0,f1,hu,o0,o1,t0,t1⟩:=undP
 have nil: ∀sl c,PYL W (.slice sl 0 c) []:=fun sl c=>⟨sl,0,0,c,fun _=>.bool false,fun _=>.bool false,rfl,fun j hj=>absurd hj (by simp),.inl rfl,fun j hj=>absurd hj (by simp)⟩
 rcases Go.Deep.open_slice_pairs Tryz.underlying22 hu Tryz.cells33 o0 o1 (by rw[t0];exact Tryz.cells27) (by rw[t1];exact Tryz.cells27) hf with⟨hcs,hx⟩ | ⟨ad,len',cap',m,n,V0,V1,D0,D1,P0,P1,hcs,hbs,hl,hm,hmm,hx,hall⟩
 ·simp at hcs
  obtain⟨rfl,rfl,rfl⟩:=hcs
  exact⟨[],nil none 0,fun d hd=>by cases hd⟩
 ·simp at hcs
  obtain⟨rfl,rfl,rfl⟩:=hcs
  simp only[if_true] at hmm
  rcases Nat.eq_zero_or_pos len with h0 | h0
  ·subst h0
   exact⟨[],nil (some ad) cap,fun d hd=>by cases hd⟩
  ·obtain⟨gb,go,rfl,hb⟩:=adD (by have:=(hall 0 (by omega)).1;rw[Nat.zero_mul] at this;exact this)
   have hone: ∀i,i<len-> ∃q:(List Int×List Int)×Value×Value,W.rangeAt gb (go+2*i) [q.2.1,q.2.2]/\(NL W q.2.1 q.1.1/\NL W q.2.2 q.1.2)/\(∀z∈q.1.1,In z)/\ ∀z∈q.1.2,In z:=fun i hi=>by
    obtain⟨k1,k2,k3,k4⟩:=hall i (by omega)
    rw[Addr.addo,Nat.mul_comm] at k1 k2
    rw[t0] at k3
    rw[t1] at k4
    obtain⟨sl,cp,g1,o1,ns,e,r1,r2,r3,r4,r5⟩:=nats_rowF k3
    simp at e
    rw[e] at k1
    obtain⟨sl',cp',g1',o1',ms,e',r1',r2',r3',r4',r5'⟩:=nats_rowF k4
    simp at e'
    rw[e'] at k2
    refine⟨((ns,ms),_,_),fun j v hj=>?_,⟨r1,r1'⟩,r5,r5'⟩
    match j,hj with
    | 0,hj=>cases hj;exact k1
    | 1,hj=>cases hj;rw[Nat.add_assoc];exact k2
    | j+2,hj=>simp at hj
   obtain⟨q,hq⟩: ∃q:Nat->(List Int×List Int)×Value×Value,∀i,i<len->W.rangeAt gb (go+2*i) [(q i).2.1,(q i).2.2]/\(NL W (q i).2.1 (q i).1.1/\NL W (q i).2.2 (q i).1.2)/\(∀z∈(q i).1.1,In z)/\ ∀z∈(q i).1.2,In z:=by
    refine⟨fun i=>if h:i<len then Classical.choose (hone i h) else (([],[]),.bool false,.bool false),fun i hi=>?_⟩
    have e:(if h:i<len then Classical.choose (hone i h) else (([],[]),.bool false,.bool false))=Classical.choose (hone i hi):=dif_pos hi
    simp only[e]
    exact Classical.choose_spec (hone i hi)
   clear hone
   have hlen:((List.range len).map fun i=>(q i).1).length=len:=by simp
   have hget: ∀i,i<len->((List.range len).map fun i=>(q i).1).getD i ([],[])=(q i).1:=fun i hi=>by
    simp[List.getD_eq_getElem?_getD,List.getElem?_map,List.getElem?_range hi]
   generalize ((List.range len).map fun i=>(q i).1)=ps at hlen hget
   subst hlen
   refine⟨ps,⟨some ⟨gb,go,none⟩,gb,go,cap,fun i=>(q i).2.1,fun i=>(q i).2.2,rfl,fun j hj W'=>ixPj gb go ps.length cap j hj W',.inr hb,fun j hj=>by rw[hget j hj];exact⟨(hq j hj).1,(hq j hj).2.1⟩⟩,fun d hd=>?_⟩
   obtain⟨j,hj,rfl⟩:=List.mem_iff_getElem.1 hd
   have e:ps[j]=(q j).1:=by rw[<-hget j hj,List.getD_eq_getElem?_getD,List.getElem?_eq_getElem hj];rfl
   rw[e];exact(hq j hj).2.2
end
end Go.Proofs.YtclafkfelkmigaaGreatDoor
