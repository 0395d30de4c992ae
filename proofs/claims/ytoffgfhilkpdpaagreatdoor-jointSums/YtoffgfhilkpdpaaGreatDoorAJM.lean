import Derived.Test.YtoffgfhilkpdpaaGreatDoorAJF
namespace Go.Proofs.YtoffgfhilkpdpaaGreatDoor
set_option linter.unusedVariables false
set_option linter.unusedSimpArgs false
set_option maxRecDepth 100000
set_option maxHeartbeats 4000000
open Go.RowKit
theorem jthe_core(p q g h:Int)(w:World)(hP:Hid (∀u,CC 55 #[iI 0] u (.tuple #[GX p q g h,iI 0]))):
 CC 31 #[] w (GX p q g h):=by
 go_enter Tryz.func31,Tryz.ntmps31
 go_upto_region 1 with fail
 obtain⟨v0,hC,HB0,K0⟩:=bx1 w L0g 26
 rw[hC]
 clear hC
 refine Rp K0 HB0 [] [(4,1,L0g,some (5,GE p q g h))] [(0,4,_),(1,3,_),(2,5,_),(3,6,_),(6,2,_)] [(5,4)] [] [] (Oc7 (g_cl ent_M1 hP.out) g_mv g_ex g_ex (g_al 0 Tg) (g_sn 0 Z4) g_as) fun u1 b1_4 HB1 _ K1=>?_
 simp only[sQ] at K1⊢
 go_upto_region 2 with fail
 refine Rp K1 HB1 [.all 1 (GE p q g h)] [] [(0,7,_)] [] [] [] (Oc2 (g_ld 1 Tryz.underlying26 Z4) (g_st 0 Z4)) fun u2 HB2 _ K2=>?_
 simp only[sQ] at K2⊢
 have c0_0:=((K2.cv 0) 0 _ rfl).1
 have c0_1:=((K2.cv 0) 1 _ rfl).1
 have c0_2:=((K2.cv 0) 2 _ rfl).1
 have c0_3:=((K2.cv 0) 3 _ rfl).1
 have c0_4:=((K2.cv 0) 4 _ rfl).1
 have c0_5:=((K2.cv 0) 5 _ rfl).1
 have c0_6:=((K2.cv 0) 6 _ rfl).1
 have c0_7:=((K2.cv 0) 7 _ rfl).1
 have c0_8:=((K2.cv 0) 8 _ rfl).1
 have c0_9:=((K2.cv 0) 9 _ rfl).1
 have c0_10:=((K2.cv 0) 10 _ rfl).1
 have c0_11:=((K2.cv 0) 11 _ rfl).1
 have c0_12:=((K2.cv 0) 12 _ rfl).1
 have c0_13:=((K2.cv 0) 13 _ rfl).1
 have c0_14:=((K2.cv 0) 14 _ rfl).1
 have c0_15:=((K2.cv 0) 15 _ rfl).1
 go_wp2
 refine bodyPost_ret (v:=GX p q g h) (by simp[results,Tryz.results31,go_sem,c0_0,c0_1,c0_2,c0_3,c0_4,c0_5,c0_6,c0_7,c0_8,c0_9,c0_10,c0_11,c0_12,c0_13,c0_14,c0_15]) rfl ⟨rfl,HB2⟩
theorem jThe(w:World):CC 31 #[] w (GX P0 Q0 4 H0):=jthe_core P0 Q0 4 H0 w fun u=>xParams0 u
theorem fdY0(b:Nat)(w:World):(Instr.fieldAt 69 (.pointer (some ⟨b,0,none⟩)) 0).run Tryz.prog w= .ok (.pointer (some ⟨b,0,none⟩)) w:=by go_simp
theorem fdY1(b:Nat)(w:World):(Instr.fieldAt 69 (.pointer (some ⟨b,0,none⟩)) 1).run Tryz.prog w= .ok (.pointer (some ⟨b,1,none⟩)) w:=by go_simp
def mkS(xs:List Int)(t:Nat)(nt:Bool):List Int:=tab (t+1) fun i=>if decide (i<xs.length)&&(decide (0<i) || !nt) then xs.getD i 0 else 0
theorem mkS_len(xs:List Int)(t:Nat)(nt:Bool):(mkS xs t nt).length=t+1:=Wy _ _
theorem mkS_at{xs:List Int}{t i:Nat}{nt:Bool}(h:i<t+1):(mkS xs t nt).getD i 0=if decide (i<xs.length)&&(decide (0<i) || !nt) then xs.getD i 0 else 0:=W0 h
theorem k_lt{k n:Nat}{b:Bool}(h:(decide (k<n)&&b)=true):k<n:=by rw[Bool.and_eq_true] at h;exact of_decide_eq_true h.1
theorem rowN_same{vs:List Int}{k:Nat}(h:k<vs.length)(h0:vs.getD k 0=0):flN (rowN vs k)=flN (rowN vs (k+1)):=by rw[W5 h,V3 h,h0]
theorem ent_H1:EnT 31:=fun _ _=>by kernel_rfl
theorem made_core(dl:Int)(t:Nat)(nt:Bool)(xs ys ss ts:List Int)(vx vy:Value)(w:World)(hd0:dlE P0 Q0 4 H0 dl ss ts=0)(ht:t<=5)(hxv:NL w vx xs)(hyv:NL w vy ys)(hIs: ∀z∈ss,In z)(hIt: ∀z∈ts,In z)(hsl:ss.length=t+1)(htl:ts.length=t+1)(hsi:Hid (∀k,k<t+1->ss.getD k 0=if decide (k<xs.length)&&(decide (0<k) || !nt) then xs.getD k 0 else 0))(hti:Hid (∀k,k<t+1->ts.getD k 0=if decide (k<ys.length)&&(decide (0<k) || !nt) then ys.getD k 0 else 0)):
 Calls Tryz.prog 30 #[.agg #[vx,vy],iI dl,iI (t:Int),.bool nt] w fun e' w'=> ∃y z1 z2,e'= .returned (.tuple #[DX (dlD P0 Q0 4 H0 dl ss ts) y,z1,z2])/\(NL w' y (dlC P0 Q0 4 H0 dl ss ts)/\NL w' z1 ss/\NL w' z2 ts/\(dlE P0 Q0 4 H0 dl ss ts=0->PQn w.heap.size (dlC P0 Q0 4 H0 dl ss ts) w' y))/\Bw w w':=by
 obtain⟨sa,ga,oa,ca,rfl,_,_,a4,a5,a6⟩:=hxv
 obtain⟨sb,gb,ob,cb,rfl,_,_,b4,b5,b6⟩:=hyv
 have hia:=Hid.on (NL.ix (u:=w) (cap:=ca) a4)
 have hib:=Hid.on (NL.ix (u:=w) (cap:=cb) b4)
 clear a4 b4
 go_enter Tryz.func30,Tryz.ntmps30
 go_upto_region 1 with fail
 generalize hW:World.alloc (World.alloc w _) _=v0
 have hz0:w.heap.size+1<v0.heap.size:=by rw[<-hW];simp
 have hB0:Bw w v0:=by rw[<-hW];exact Z5 (Z5 (Zf w) _) _
 have hC0:CV v0 w.heap.size [.slice sa xs.length ca,.slice sb ys.length cb]:=by rw[<-hW];exact(CV.new w [.slice sa xs.length ca,.slice sb ys.length cb] 69).below (Z5 (Zf _) _) (by simp)
 have hC1:CV v0 (w.heap.size+1) L0d:=by rw[<-hW];exact CVn L0d 33 (by simp)
 clear hW
 have e1:IntKind.i64.wrap ((t:Int)+1)=((t+1:Nat):Int):=by rw[IntKind.wrap_i64];omega
 have hmk: ∀W,(Instr.makeSlice 31 (iI ((t:Int)+1)) (iI ((t:Int)+1))).run Tryz.prog W= .ok (.slice (some ⟨W.heap.size,0,none⟩) (t+1) (t+1)) (W.alloc (.cells (flN (List.replicate (t+1) 0)).toArray 24)):=fun W=>mkNt (t+1) Z1 W
 have hA:=(CV.new v0 (flN (List.replicate (t+1) 0)) 24).below (Z5 (Zf _) (.cells (flN (List.replicate (t+1) 0)).toArray 24)) (by simp)
 have hA2:=CVn (u:=v0.alloc (.cells (flN (List.replicate (t+1) 0)).toArray 24)) (b:=v0.heap.size+1) (flN (List.replicate (t+1) 0)) 24 (by simp)
 go_cut [11,12] (fun s11 s12 wx=> ∃b1 b2,s11= .slice (some ⟨b1,0,none⟩) (t+1) (t+1)/\s12= .slice (some ⟨b2,0,none⟩) (t+1) (t+1)/\b1≠b2/\v0.heap.size<=b1/\v0.heap.size<=b2/\b1<wx.heap.size/\b2<wx.heap.size/\CV wx b1 (flN (List.replicate (t+1) 0))/\CV wx b2 (flN (List.replicate (t+1) 0))/\Bw v0 wx)
 case first=>
  go_wp2
  go_region
  all_goals (try go_wp2)
  all_goals go_meet
  all_goals exact⟨_,_,rfl,rfl,Z1,Z1,Z1,by show _<((v0.alloc _).alloc _).heap.size;simp<;>omega,by show _<((v0.alloc _).alloc _).heap.size;simp<;>omega,by first | exact hA | exact hA2,by first | exact hA2 | exact hA,(Z5 (Z5 (Zf v0) _) _).drew⟩
 case rest=>
 obtain⟨b1,b2,rfl,rfl,hne,hl1,hl2,k1,k2,C2,C3,hB1⟩:=hcut
 have hBw:=Z7 hB0 hB1
 have C0:=hC0.below hB1 Z1
 have C1:=hC1.below hB1 hz0
 have k0:w.heap.size<wc.heap.size:=Z1
 have kr:w.heap.size+1<wc.heap.size:=Z1
 have hw1:w.heap.size+1<b1:=Z1
 have hw2:w.heap.size+1<b2:=Z1
 clear hC0 hC1 hB0 hB1 hz0 hmk e1
 have K0_1:Bk w.heap.size wc [(false,w.heap.size,[.slice sa xs.length ca,.slice sb ys.length cb]),(true,w.heap.size+1,L0d),(true,b1,flN (List.replicate (t+1) 0)),(true,b2,flN (List.replicate (t+1) 0))]:=⟨.c k0 C0<| .o kr Z1 C1<| .o k1 Z1 C2<| .o k2 Z1 C3<|trivial,by simp<;>omega⟩
 go_upto_region 2 with fail
 refine Rn K0_1 hBw [(0,13,_)] (Oc1 g_as) fun u1 HB1 _ K1=>?_
 simp only[sQ] at K1⊢
 go_wp2_with fail
 go_loopw [13] (fun s13 wr=> ∃(k:Nat),k<=t+1/\s13=iI (k:Int)/\Bw w wr/\CV wr (w.heap.size) ([.slice sa xs.length ca,.slice sb ys.length cb])/\w.heap.size<wr.heap.size/\CV wr (w.heap.size+1) (L0d)/\w.heap.size+1<wr.heap.size/\CV wr b1 (flN (rowN ss k))/\b1<wr.heap.size/\CV wr b2 (flN (rowN ts k))/\b2<wr.heap.size) (fun s13 _=>t+1 -(intOf s13).toNat)
 case atStart=>exact⟨0,Z1,rfl,HB1,(K1.cv 0),(K1.lt 0),(K1.cv 1),(K1.lt 1),by rw[rowN_0,hsl];exact(K1.cv 2),(K1.lt 2),by rw[rowN_0,htl];exact(K1.cv 3),(K1.lt 3)⟩
 case round=>
  obtain⟨k,hk,rfl,HBr,C0,lC0,C1,lC1,C2,lC2,C3,lC3⟩:=hrel
  obtain⟨wq,rfl⟩:=Zr wr
  have hnK:=K1.n
  simp at hnK
  have hoK2:=K1.lo 2
  have hoK3:=K1.lo 3
  by_cases hj:k<t+1
  ·have hl:decide ((k:Int)<=(t:Int))=true:=by simp;omega
   have hs0:=hsi.out k hj
   have ht0:=hti.out k hj
   have K1_2:Bk w.heap.size wq [(false,w.heap.size,[.slice sa xs.length ca,.slice sb ys.length cb]),(true,w.heap.size+1,L0d),(true,b1,flN (rowN ss k)),(true,b2,flN (rowN ts k))]:=⟨.c lC0 C0<| .o lC1 (K1.lo 1) C1<| .o lC2 (K1.lo 2) C2<| .o lC3 (K1.lo 3) C3<|trivial,by simp<;>omega⟩
   go_upto_region 3 with fail
   refine Rn K1_2 HBr (cG 0 22 [_,_,_] []) (Oc3 g_mv g_mv (g_bn (fun uZ=>leq_p _ _ (k:Int) (t:Int) _ uZ hl))) fun u2 HB2 _ K2=>?_
   simp only[sQ] at K2⊢
   obtain⟨ca1,eca1⟩:=Z3 ((decide (k<xs.length)&&(decide (0<k) || !nt)))
   rw[eca1] at hs0
   have yca1:=(((K2.cv 0)) 0 _ rfl).1
   go_upto_region 5 with fail
   go_cut [39] (fun s wx=>s= .bool ca1/\wx=u2)
   case first=>
    by_cases h1:k<xs.length
    ·have h1':(k:Int)<(xs.length:Int):=Z1
     rw[decide_eq_true h1,Bool.true_and] at eca1
     by_cases h2:0<k
     ·have h2':(0:Int)<(k:Int):=Z1
      rw[decide_eq_true h2,Bool.true_or] at eca1
      subst eca1
      go_wp2
      go_meet
      exact⟨rfl,rfl⟩
     ·have h2': ¬(0:Int)<(k:Int):=Z1
      rw[decide_eq_false h2,Bool.false_or] at eca1
      subst eca1
      go_wp2
      go_meet
      exact⟨rfl,rfl⟩
    ·have h1': ¬(k:Int)<(xs.length:Int):=Z1
     rw[decide_eq_false h1,Bool.false_and] at eca1
     subst eca1
     go_wp2
     go_meet
     exact⟨rfl,rfl⟩
   case rest=>
   obtain⟨rfl,ecut⟩:=hcut
   have ecut:=ecut.symm
   subst ecut
   clear yca1
   cases ca1
   case' true=>
    rw[if_pos rfl] at hs0
    have hx:=k_lt eca1
    have hX:=Hid.on (hia.out k hx)
    have hR:=Hid.on (a6.at k hx)
    have hg:=a5.resolve_left Z1
    have hkx:k<ss.length:=Z1
    have hXL:=rowN_len (vs:=ss) (k:=k) Z1
    have hNx:=V3 (vs:=ss) (k:=k) Z1
    have Cr:=(K2.cv 2)
    rw[W5 (vs:=ss) (k:=k) Z1] at Cr
    rw[hs0] at hNx
    obtain⟨X,eX⟩:=Z3 (flN (List.take k ss))
    obtain⟨Z,eZ⟩:=Z3 (flN (List.replicate (List.length ss -(k+1)) 0))
    rw[eX] at hXL hNx Cr
    rw[eZ] at hNx Cr
    clear eX eZ
    obtain⟨x,ex⟩:=Z3 (xs.getD k 0)
    rw[ex] at hR hNx
    clear ex
    replace hXL:=Hid.on hXL
    replace hNx:=Hid.on hNx
    have K2_3:Bk w.heap.size u2 [(false,w.heap.size,[.slice sa xs.length ca,.slice sb ys.length cb]),(true,w.heap.size+1,L0d),(true,b1,X++LN 0++Z),(true,b2,flN (rowN ts k))]:=⟨.c (K2.lt 0) (K2.cv 0)<| .o (K2.lt 1) Z1 (K2.cv 1)<| .o (K2.lt 2) Z1 Cr<| .o (K2.lt 3) Z1 (K2.cv 3)<|trivial,by simp<;>omega⟩
    go_upto_region 6 with fail
    refine Rp K2_3 HB2 [.no,.no,.all 8 (X++LN x++Z)] [] (cG 0 40 [_,_,_,_,_,_,_,_] []) [] [] [] (Oc9 g_mv g_mv (g_fd (fdY0 _)) (g_lc 0 0 lSN) g_mv (g_ix hX.out) (g_lf hR.out hg uN iN) (g_ix (ixZ _ _ _ k hj)) (g_sm 2 (4*k) X (LN 0) Z (post:=LN x) (hxc:=hXL.out) iN)) fun u3 HB3 _ K3=>?_
    simp only[sQ] at K3⊢
    have hR2:CV u3 b1 (flN (rowN ss (k+1))):=by rw[hNx.out];exact(K3.cv 2)
    go_upto_region 7 with fail
    have E0:CV u3 (w.heap.size) ([.slice sa xs.length ca,.slice sb ys.length cb]):=(K3.cv 0)
    have lE0:w.heap.size<u3.heap.size:=(K3.lt 0)
    have E1:CV u3 (w.heap.size+1) L0d:=(K3.cv 1)
    have lE1:w.heap.size+1<u3.heap.size:=(K3.lt 1)
    have E2:CV u3 b1 (flN (rowN ss (k+1))):=hR2
    have lE2:b1<u3.heap.size:=(K3.lt 2)
    have E3:CV u3 b2 (flN (rowN ts k)):=(K3.cv 3)
    have lE3:b2<u3.heap.size:=(K3.lt 3)
    have HBE:=HB3
    generalize u3=wzE at *
    clear K3 HB3 hR2 hX hR hXL hNx Cr
   case' false=>
    rw[if_neg Z2] at hs0
    have hR2:flN (rowN ss k)=flN (rowN ss (k+1)):=rowN_same Z1 hs0
    have E0:CV u2 (w.heap.size) ([.slice sa xs.length ca,.slice sb ys.length cb]):=(K2.cv 0)
    have lE0:w.heap.size<u2.heap.size:=(K2.lt 0)
    have E1:CV u2 (w.heap.size+1) L0d:=(K2.cv 1)
    have lE1:w.heap.size+1<u2.heap.size:=(K2.lt 1)
    have E2:CV u2 b1 (flN (rowN ss (k+1))):=by rw[<-hR2];exact(K2.cv 2)
    have lE2:b1<u2.heap.size:=(K2.lt 2)
    have E3:CV u2 b2 (flN (rowN ts k)):=(K2.cv 3)
    have lE3:b2<u2.heap.size:=(K2.lt 3)
    have HBE:=HB2
    go_upto_region 7 with fail
    obtain⟨wzE,rfl⟩:=Zr u2
    clear hR2
   all_goals
    have K3_3:Bk w.heap.size wzE [(false,w.heap.size,[.slice sa xs.length ca,.slice sb ys.length cb]),(true,w.heap.size+1,L0d),(true,b1,flN (rowN ss (k+1))),(true,b2,flN (rowN ts k))]:=⟨.c lE0 E0<| .o lE1 Z1 E1<| .o lE2 Z1 E2<| .o lE3 Z1 E3<|trivial,by simp<;>omega⟩
    obtain⟨cb1,ecb1⟩:=Z3 ((decide (k<ys.length)&&(decide (0<k) || !nt)))
    rw[ecb1] at ht0
    have ycb1:=(((K3_3.cv 0)) 1 _ rfl).1
    go_upto_region 7 with fail
    go_cut [60] (fun s wx=>s= .bool cb1/\wx=wzE)
    case first=>
     by_cases h1:k<ys.length
     ·have h1':(k:Int)<(ys.length:Int):=Z1
      rw[decide_eq_true h1,Bool.true_and] at ecb1
      by_cases h2:0<k
      ·have h2':(0:Int)<(k:Int):=Z1
       rw[decide_eq_true h2,Bool.true_or] at ecb1
       subst ecb1
       go_wp2
       go_meet
       exact⟨rfl,rfl⟩
      ·have h2': ¬(0:Int)<(k:Int):=Z1
       rw[decide_eq_false h2,Bool.false_or] at ecb1
       subst ecb1
       go_wp2
       go_meet
       exact⟨rfl,rfl⟩
     ·have h1': ¬(k:Int)<(ys.length:Int):=Z1
      rw[decide_eq_false h1,Bool.false_and] at ecb1
      subst ecb1
      go_wp2
      go_meet
      exact⟨rfl,rfl⟩
    case rest=>
    obtain⟨rfl,ecut⟩:=hcut
    have ecut:=ecut.symm
    subst ecut
    clear ycb1
    cases cb1
    case' true=>
     rw[if_pos rfl] at ht0
     have hx:=k_lt ecb1
     have hX:=Hid.on (hib.out k hx)
     have hR:=Hid.on (b6.at k hx)
     have hg:=b5.resolve_left Z1
     have hkx:k<ts.length:=Z1
     have hXL:=rowN_len (vs:=ts) (k:=k) Z1
     have hNx:=V3 (vs:=ts) (k:=k) Z1
     have Cr:=(K3_3.cv 3)
     rw[W5 (vs:=ts) (k:=k) Z1] at Cr
     rw[ht0] at hNx
     obtain⟨X,eX⟩:=Z3 (flN (List.take k ts))
     obtain⟨Z,eZ⟩:=Z3 (flN (List.replicate (List.length ts -(k+1)) 0))
     rw[eX] at hXL hNx Cr
     rw[eZ] at hNx Cr
     clear eX eZ
     obtain⟨x,ex⟩:=Z3 (ys.getD k 0)
     rw[ex] at hR hNx
     clear ex
     replace hXL:=Hid.on hXL
     replace hNx:=Hid.on hNx
     have K3_4:Bk w.heap.size wzE [(false,w.heap.size,[.slice sa xs.length ca,.slice sb ys.length cb]),(true,w.heap.size+1,L0d),(true,b1,flN (rowN ss (k+1))),(true,b2,X++LN 0++Z)]:=⟨.c (K3_3.lt 0) (K3_3.cv 0)<| .o (K3_3.lt 1) Z1 (K3_3.cv 1)<| .o (K3_3.lt 2) Z1 (K3_3.cv 2)<| .o (K3_3.lt 3) Z1 Cr<|trivial,by simp<;>omega⟩
     go_upto_region 8 with fail
     refine Rp K3_4 HBE [.no,.no,.no,.all 8 (X++LN x++Z)] [] (cG 0 61 [_,_,_,_,_,_,_,_] []) [] [] [] (Oc9 g_mv g_mv (g_fd (fdY1 _)) (g_lc 0 1 lSN) g_mv (g_ix hX.out) (g_lf hR.out hg uN iN) (g_ix (ixZ _ _ _ k hj)) (g_sm 3 (4*k) X (LN 0) Z (post:=LN x) (hxc:=hXL.out) iN)) fun u4 HB4 _ K4=>?_
     simp only[sQ] at K4⊢
     have hR2:CV u4 b2 (flN (rowN ts (k+1))):=by rw[hNx.out];exact(K4.cv 3)
     go_upto_region 4 with fail
     have G0:CV u4 (w.heap.size) ([.slice sa xs.length ca,.slice sb ys.length cb]):=(K4.cv 0)
     have lG0:w.heap.size<u4.heap.size:=(K4.lt 0)
     have G1:CV u4 (w.heap.size+1) L0d:=(K4.cv 1)
     have lG1:w.heap.size+1<u4.heap.size:=(K4.lt 1)
     have G2:CV u4 b1 (flN (rowN ss (k+1))):=(K4.cv 2)
     have lG2:b1<u4.heap.size:=(K4.lt 2)
     have G3:CV u4 b2 (flN (rowN ts (k+1))):=hR2
     have lG3:b2<u4.heap.size:=(K4.lt 3)
     have HBG:=HB4
     generalize u4=wzG at *
     clear K4 HB4 hR2 hX hR hXL hNx Cr
    case' false=>
     rw[if_neg Z2] at ht0
     have hR2:flN (rowN ts k)=flN (rowN ts (k+1)):=rowN_same Z1 ht0
     have G0:CV wzE (w.heap.size) ([.slice sa xs.length ca,.slice sb ys.length cb]):=(K3_3.cv 0)
     have lG0:w.heap.size<wzE.heap.size:=(K3_3.lt 0)
     have G1:CV wzE (w.heap.size+1) L0d:=(K3_3.cv 1)
     have lG1:w.heap.size+1<wzE.heap.size:=(K3_3.lt 1)
     have G2:CV wzE b1 (flN (rowN ss (k+1))):=(K3_3.cv 2)
     have lG2:b1<wzE.heap.size:=(K3_3.lt 2)
     have G3:CV wzE b2 (flN (rowN ts (k+1))):=by rw[<-hR2];exact(K3_3.cv 3)
     have lG3:b2<wzE.heap.size:=(K3_3.lt 3)
     have HBG:=HBE
     go_upto_region 4 with fail
     obtain⟨wzG,rfl⟩:=Zr wzE
     clear hR2
    all_goals
     have K4_4:Bk w.heap.size wzG [(false,w.heap.size,[.slice sa xs.length ca,.slice sb ys.length cb]),(true,w.heap.size+1,L0d),(true,b1,flN (rowN ss (k+1))),(true,b2,flN (rowN ts (k+1)))]:=⟨.c lG0 G0<| .o lG1 Z1 G1<| .o lG2 Z1 G2<| .o lG3 Z1 G3<|trivial,by simp<;>omega⟩
     refine Rp K4_4 HBG [] [] [(0,25,_),(1,26,_),(2,13,_)] [(2,0)] [(2,13)] [] (Oc3 g_mv (g_bn (fun uZ=>Zu _ _ (k:Int) 1 ((k+1:Nat):Int) uZ Z1 Z1 Z1)) g_as) fun u5 HB5 _ K5=>?_
     simp only[sQ] at K5⊢
     go_wp2
     refine⟨⟨k+1,Z1,rfl,HB5,(K5.cv 0),(K5.lt 0),(K5.cv 1),(K5.lt 1),(K5.cv 2),(K5.lt 2),(K5.cv 3),(K5.lt 3)⟩,?_⟩
     simp[intOf]<;>omega
  ·have hl:decide ((k:Int)<=(t:Int))=false:=by simp;omega
   have hk1:k=ss.length:=Z1
   have hk2:k=ts.length:=Z1
   have R1:=C2
   have R2:=C3
   rw[hk1,rowN_end] at R1
   rw[hk2,rowN_end] at R2
   clear hk1 hk2 C2 C3
   have hN1:NL wq (.slice (some ⟨b1,0,none⟩) (t+1) (t+1)) ss:=PRw.nl (lo:=0) ⟨b1,by rw[hsl],Nat.zero_le _,lC2,R1⟩
   have hN2:NL wq (.slice (some ⟨b2,0,none⟩) (t+1) (t+1)) ts:=PRw.nl (lo:=0) ⟨b2,by rw[htl],Nat.zero_le _,lC3,R2⟩
   have hTh:=Hid.on (jThe wq)
   have hDe:Hid (∀u,Bw wq u->_):=fun u hB=>xDealG P0 Q0 4 H0 dl ss ts _ _ u Ti In_Q0' In_n4 In_H0 (hN1.up hB) (hN2.up hB) hIs hIt hd0
   obtain⟨D,eD⟩:=Z3 (dlD P0 Q0 4 H0 dl ss ts)
   obtain⟨e,ee⟩:=Z3 (dlE P0 Q0 4 H0 dl ss ts)
   obtain⟨cs,ec⟩:=Z3 (dlC P0 Q0 4 H0 dl ss ts)
   have hce:e≠0->cs=[]:=fun h=>by rw[<-ec,dlC,ee,if_neg h]
   rw[eD,ee,ec] at hDe
   have C1':=Hid.on C1
   have hN1:=Hid.on hN1
   have hN2:=Hid.on hN2
   have hce:=Hid.on hce
   have eD:=Hid.on eD
   have ec:=Hid.on ec
   have ee:=Hid.on ee
   clear C0 C1 R1 R2 hia hib a5 a6 b5 b6 hsi hti
   go_wp2_with (first
    | (go_at_call 31;refine hTh.out.mono ?_;clear hTh;rintro r ua ⟨rfl,hBa⟩)
    | (go_at_call 54;refine(hDe.out _ hBa).mono ?_;clear hDe;rintro r ub ⟨y,rfl,⟨hy,hq⟩,hBb⟩;obtain⟨s,c,ey⟩:=hy.sl;subst ey;have hy:=Hid.on hy;have hq:=Hid.on hq;have hBc:=Z7 hBa hBb;have hB3:Bw wq (ub.alloc (.cells (DE D (.slice s cs.length c):List Value).toArray 33)):=Z5 hBc _;have C2:=C1'.out.below hB3 lC1;have z0:=C2 0 _ rfl;have z1:=C2 1 _ rfl;have hk:=Vp (v0:=iI D) (v1:= .slice s cs.length c) C2;have q0:=(hk 0 _ rfl).1;have q1:=(hk 1 _ rfl).1;clear hk C2;have hB3:=Hid.on hB3))
   have hlq:=HBr.size
   have hza:=hBa.size
   refine bodyPost_ret (v:= .tuple #[DX D (.slice s cs.length c),.slice (some ⟨b1,0,none⟩) (t+1) (t+1),.slice (some ⟨b2,0,none⟩) (t+1) (t+1)]) (by simp[results,Tryz.results30,go_sem,q0,q1]) rfl ⟨_,_,_,by rw[eD.out],?_,Vq (Z7 HBr hB3.out) Z1⟩
   rw[ec.out,ee.out]
   refine⟨set2_N (hy.out.up (Z5 (Zf ub) _)) (fun sl gb go cap e1 e2 hne=>?_),set2_N (hN1.out.up hB3.out) (fun sl gb go cap e1 e2 _=>by have h:=(Value.slice.inj e1).1.trans e2;cases h;omega),set2_N (hN2.out.up hB3.out) (fun sl gb go cap e1 e2 _=>by have h:=(Value.slice.inj e1).1.trans e2;cases h;omega),fun h0=>?_⟩
   ·by_cases h0:e=0
    ·obtain⟨b,co,zs,eb,hb1,_⟩:=hq.out h0
     cases eb
     cases e1
     cases e2
     omega
    ·exact absurd (hce.out h0) hne
   ·obtain⟨b,co,zs,eb,hb1,hb2,hb3,hb4⟩:=hq.out h0
    cases eb
    exact⟨b,c,zs,rfl,Z1,by simp<;>omega,hb3,((hb4.below (Z5 (Zf ub) _) hb2).oset ⟨w.heap.size+1,0,none⟩ _ (by show b≠w.heap.size+1;omega)).oset ⟨w.heap.size+1,1,none⟩ _ (by show b≠w.heap.size+1;omega)⟩
theorem mkS_In{xs:List Int}(h: ∀z∈xs,In z)(t:Nat)(nt:Bool): ∀z∈mkS xs t nt,In z:=fun z hz=>by
 obtain⟨i,hi,rfl⟩:=List.mem_map.1 hz
 split
 ·rename_i hc
  exact Yb h i (k_lt hc)
 ·exact⟨Z2,Z2⟩
theorem cMade(dl:Int)(t:Nat)(nt:Bool)(xs ys:List Int)(vx vy:Value)(w:World)(hnd:ndB dl=true)(ht:t<=5)(hxv:NL w vx xs)(hyv:NL w vy ys)(hxs: ∀z∈xs,In z)(hys: ∀z∈ys,In z):Calls Tryz.prog 30 #[.agg #[vx,vy],iI dl,iI (t:Int),.bool nt] w fun r u=> ∃y z1 z2,r= .returned (.tuple #[DX (dlD P0 Q0 4 H0 dl (mkS xs t nt) (mkS ys t nt)) y,z1,z2])/\(NL u y (dlC P0 Q0 4 H0 dl (mkS xs t nt) (mkS ys t nt))/\NL u z1 (mkS xs t nt)/\NL u z2 (mkS ys t nt)/\(dlE P0 Q0 4 H0 dl (mkS xs t nt) (mkS ys t nt)=0->PQn w.heap.size (dlC P0 Q0 4 H0 dl (mkS xs t nt) (mkS ys t nt)) u y))/\Bw w u:=
 made_core dl t nt xs ys _ _ vx vy w (dl_0 hnd (by rw[mkS_len,mkS_len,shB_iff];omega)) ht hxv hyv (mkS_In hxs t nt) (mkS_In hys t nt) (mkS_len _ _ _) (mkS_len _ _ _) (fun k hk=>mkS_at hk) (fun k hk=>mkS_at hk)
def plS(q:Int)(ls:Nat->List Int)(m:Nat):Nat->List Int
 | 0=>List.replicate m 0
 | i+1=>sAd q (plS q ls m i) (ls i)
theorem plS_len{q:Int}{ls:Nat->List Int}{m:Nat}: ∀{i:Nat},(∀j,j<i->(ls j).length=m)->(plS q ls m i).length=m
 | 0,_=>by simp[plS]
 | i+1,h=>by rw[plS,sAd_len,plS_len fun j hj=>h j Z1,h i Z1];omega
theorem plS_suc{q:Int}{ls:Nat->List Int}{m i j:Nat}(h: ∀k,k<i+1->(ls k).length=m)(hj:j<m):(plS q ls m (i+1)).getD j 0=((plS q ls m i).getD j 0+(ls i).getD j 0)%q:=by
 rw[plS,sAd,W0 (by rw[plS_len fun k hk=>h k Z1];omega)]
theorem plS_0{q:Int}{ls:Nat->List Int}{m j:Nat}:(plS q ls m 0).getD j 0=0:=by
 rw[plS,List.getD_eq_getElem?_getD]
 by_cases h:j<m
 ·rw[List.getElem?_replicate,if_pos h];rfl
 ·rw[List.getElem?_replicate,if_neg h];rfl
theorem plS_pos{q:Int}(hq:0<q){ls:Nat->List Int}{m j:Nat}(hj:j<m): ∀{i:Nat},(∀k,k<i->(ls k).length=m)->0<=(plS q ls m i).getD j 0
 | 0,_=>by rw[plS_0];omega
 | i+1,h=>by rw[plS_suc h hj];exact Int.emod_nonneg _ Z1
theorem co_add{p q g h a b c d:Int}(hg:gOk p q)(h1:isB p q g=true)(h2:isB p q h=true)(ha:0<=a)(hb:0<=b)(hc:0<=c)(hd:0<=d):coX p q g h a b*coX p q g h c d%p=coX p q g h ((a+c)%q) ((b+d)%q):=by
 have hq:=hg.q3
 rw[co_mod Z1,Te h1 h2,Te h1 h2,Te h1 h2,<-Mb.sum hg (isB_t h1).2 a c ha hc,<-Mb.sum hg (isB_t h2).2 b d hb hd]
 generalize g^(a%q).toNat%p=A
 generalize g^(c%q).toNat%p=B
 generalize h^(b%q).toNat%p=C
 generalize h^(d%q).toNat%p=D
 rw[<-Int.mul_emod,<-Int.mul_emod]
 congr 1
 grind
theorem co_00{p q g h:Int}(hg:gOk p q)(h1:isB p q g=true)(h2:isB p q h=true):coX p q g h 0 0=1:=by
 have:=hg.2
 rw[Te h1 h2]
 simp[Int.emod_eq_of_lt (show (0:Int)<=1 by omega) (show 1<p by omega)]
theorem gat_co{p q g h:Int}{ds:List (Int×List Int)}{S T:Nat->List Int}{m j:Nat}(hg:gOk p q)(h1:isB p q g=true)(h2:isB p q h=true)(hj:j<m)(hS: ∀i,i<ds.length->(S i).length=m/\ ∀z∈S i,0<=z)(hT: ∀i,i<ds.length->(T i).length=m/\ ∀z∈T i,0<=z)(hd: ∀i,i<ds.length->dN ds i=cmS p q g h (S i) (T i)): ∀i,i<=ds.length->gat (fun a b=>(a*b)%p) (1%p) (aaC ds j i) (aaC ds j i).length=coX p q g h ((plS q S m i).getD j 0) ((plS q T m i).getD j 0)
 | 0,_=>by
  have:=hg.2
  rw[aaC,plS_0,plS_0,co_00 hg h1 h2]
  simp[gat,Int.emod_eq_of_lt (show (0:Int)<=1 by omega) (show 1<p by omega)]
 | i+1,hi=>by
  have hq:=hg.q3
  have hl:j<(dN ds i).length:=by rw[hd i Z1,W4,(hS i Z1).1];exact hj
  rw[aaC,if_pos hl,gat_app,gat_co hg h1 h2 hj hS hT hd i Z1,hd i Z1,cmS,W0 (by rw[(hS i Z1).1];exact hj)]
  rw[plS_suc (fun k hk=>(hS k Z1).1) hj,plS_suc (fun k hk=>(hT k Z1).1) hj]
  exact co_add hg h1 h2 (plS_pos Z1 hj fun k hk=>(hS k Z1).1) (plS_pos Z1 hj fun k hk=>(hT k Z1).1) ((hS i Z1).2 _ (memD _ 0 j (by rw[(hS i Z1).1];exact hj))) ((hT i Z1).2 _ (memD _ 0 j (by rw[(hT i Z1).1];exact hj)))
theorem mxC_eq{ds:List (Int×List Int)}{m:Nat}(h: ∀i,i<ds.length->(dN ds i).length=m): ∀i,0<i->i<=ds.length->mxC ds i=m
 | 0,h0,_=>absurd h0 Z1
 | 1,_,hi=>by rw[mxC,mxC,h 0 Z1];omega
 | i+2,_,hi=>by rw[mxC,mxC_eq h (i+1) Z1 Z1,h (i+1) Z1];omega
theorem cs_cm{p q g h:Int}{ds:List (Int×List Int)}{S T:Nat->List Int}{m:Nat}(hg:gOk p q)(h1:isB p q g=true)(h2:isB p q h=true)(hn:0<ds.length)(hS: ∀i,i<ds.length->(S i).length=m/\ ∀z∈S i,0<=z)(hT: ∀i,i<ds.length->(T i).length=m/\ ∀z∈T i,0<=z)(hd: ∀i,i<ds.length->dN ds i=cmS p q g h (S i) (T i)):csC p ds ds.length=cmS p q g h (plS q S m ds.length) (plS q T m ds.length):=by
 have hp:=hg.2
 have hm:mxC ds ds.length=m:=mxC_eq (fun i hi=>by rw[hd i hi,W4,(hS i hi).1]) _ hn (Nat.le_refl _)
 have hl:(plS q S m ds.length).length=m:=plS_len fun k hk=>(hS k hk).1
 refine List.ext_getElem (by rw[Uw,W4,hm,hl]) fun j hj1 hj2=>?_
 have hj:j<m:=by rw[W4,hl] at hj2;exact hj2
 have e1:(csC p ds ds.length).getD j 1=(csC p ds ds.length)[j]:=by rw[List.getD_eq_getElem?_getD,List.getElem?_eq_getElem hj1];rfl
 have e2:(cmS p q g h (plS q S m ds.length) (plS q T m ds.length)).getD j 0=(cmS p q g h (plS q S m ds.length) (plS q T m ds.length))[j]:=by rw[List.getD_eq_getElem?_getD,List.getElem?_eq_getElem hj2];rfl
 rw[<-e1,<-e2,csC_get Z1,gat_co hg h1 h2 hj hS hT hd _ (Nat.le_refl _),cmS,W0 (by rw[hl];exact hj)]
theorem ent_E1:EnT 6:=fun _ _=>by kernel_rfl
theorem ent_E3:EnT 8:=fun _ _=>by kernel_rfl
theorem ent_E4:EnT 33:=fun _ _=>by kernel_rfl
theorem s_In{n:Int}(h0:0<=n:=by decide)(h1:n<1000:=by decide):In n:=⟨h0,Z1⟩
theorem two_In{a b:Int}(ha:In a)(hb:In b): ∀z∈[a,b],In z:=fun z hz=>by
 simp at hz;rcases hz with rfl | rfl<;>assumption
abbrev cA:List Int:=cmS P0 Q0 4 H0 [3,2] [0,0]
abbrev cB:List Int:=cmS P0 Q0 4 H0 [4,9] [0,0]
abbrev cD:List Int:=cmS P0 Q0 4 H0 [7,11] [0,0]
theorem cM_In(ss:List Int): ∀z∈cmS P0 Q0 4 H0 ss [0,0],In z:=cm_In Ti is4 isH0
theorem cMade2(dl a b:Int)(vx:Value)(w:World)(hd:ndB dl=true)(hxv:NL w vx [a,b])(ha:In a)(hb:In b):Calls Tryz.prog 30 #[.agg #[vx,.slice none 0 0],iI dl,iI 1,.bool false] w fun r u=> ∃y z1 z2,r= .returned (.tuple #[DX dl y,z1,z2])/\NL u y (cmS P0 Q0 4 H0 [a,b] [0,0])/\NL u z1 [a,b]/\NL u z2 [0,0]/\Bw w u:=by
 have e1:mkS [a,b] 1 false=[a,b]:=rfl
 have e2:mkS [] 1 false=[0,0]:=rfl
 have h:=cMade dl 1 false [a,b] [] vx (.slice none 0 0) w hd Z2 hxv (NL.nilI w) (two_In ha hb) (fun z hz=>by simp at hz)
 rw[e1,e2] at h
 have h0:dlE P0 Q0 4 H0 dl [a,b] [0,0]=0:=dl_0 hd rfl
 refine h.mono ?_
 rintro r u ⟨y,z1,z2,rfl,⟨h1,h2,h3,_⟩,hB⟩
 rw[dlC,if_pos h0] at h1
 exact⟨y,z1,z2,by rw[dlD,if_pos h0],h1,h2,h3,hB⟩
abbrev dsW:List (Int×List Int):=[(1,cA),(2,cB)]
theorem w_dc(d:Int)(ss:List Int)(hd:ndB d=true)(hs:shB ss.length 2=true):dcE P0 Q0 d (cmS P0 Q0 4 H0 ss [0,0])=0:=deal_ok is4 isH0 hd hs
theorem w_sm:smE P0 Q0 dsW=0:=by
 rw[smE,if_pos Ur,if_pos Z2,if_pos]
 exact fdE_al.2 fun d hd=>by
  simp at hd
  rcases hd with rfl | rfl
  ·exact w_dc 1 [3,2] Z2 Z2
  ·exact w_dc 2 [4,9] Z2 Z2
theorem w_cs:csC P0 dsW dsW.length=cD:=by
 have h:=cs_cm (ds:=dsW) (S:=fun i=>if i=0 then [3,2] else [4,9]) (T:=fun _=>[0,0]) (m:=2) Ur is4 isH0 Z2 (fun i hi=>by
  split
  ·exact⟨rfl,Z2⟩
  ·exact⟨rfl,Z2⟩) (fun i hi=>⟨rfl,Z2⟩) (fun i hi=>by
  match i,hi with
  | 0,_=>rfl
  | 1,_=>rfl)
 rw[h]
 have e1:plS Q0 (fun i=>if i=0 then [3,2] else [4,9]) 2 dsW.length=[7,11]:=Z2
 have e2:plS Q0 (fun _=>[0,0]) 2 dsW.length=[0,0]:=Z2
 rw[e1,e2]
def P2c(n:Nat)(cs:List Value)(u:World)(v:Value):Prop:= ∃b,v= .slice (some ⟨b,0,none⟩) n n/\b<u.heap.size/\CV u b cs
theorem P2c.stab{n:Nat}{cs:List Value}{u u2:World}{v:Value}(hB:Bw u u2)(h:P2c n cs u v):P2c n cs u2 v:=by
 obtain⟨b,e,h1,h2⟩:=h
 exact⟨b,e,Nat.lt_of_lt_of_le h1 hB.size,h2.below hB h1⟩
theorem P2c.new{n:Nat}{cs:List Value}{T:TypeId}(u:World):P2c n cs (u.alloc (.cells cs.toArray T)) (.slice (some ⟨u.heap.size,0,none⟩) n n):=⟨_,rfl,by simp,CV.new u _ _⟩
theorem bsD2(d d2:Int)(s s2:Option Addr)(n n2 c c2:Nat)(w:World):(Instr.buildSlice 27 2 ([0,1].zip [DX d (.slice s n c),DX d2 (.slice s2 n2 c2)]).toArray).run Tryz.prog w= .ok (.slice (some ⟨w.heap.size,0,none⟩) 2 2) (w.alloc (.cells (DE d (.slice s n c)++DE d2 (.slice s2 n2 c2):List Value).toArray 33)):=by kernel_rfl
theorem two_DL{u:World}{v y z:Value}{d e:Int}{ns ms:List Int}(h:P2c 2 (DE d y++DE e z) u v)(hy:NL u y ns)(hz:NL u z ms):DL u v [(d,ns),(e,ms)]:=by
 obtain⟨b,rfl,h1,h2⟩:=h
 exact DL.mk (ds:=[(d,ns),(e,ms)]) (zs:=[]) (fun j=>match j with | 0=>y | _=>z) h1 (by rw[List.append_nil];exact h2) (Nat.le_refl _) (fun j hj=>match j,hj with
  | 0,_=>hy
  | 1,_=>hz)
theorem w_sh(nd a b s:Int)(v v2:Value)(w:World)(hn:ndB nd=true)(he:hoN Q0 nd [a,b] 2=s)(he2:hoN Q0 nd [0,0] 2=0)(ha:In a)(hb:In b)(hv:NL w v [a,b])(hv2:NL w v2 [0,0]):CC 32 #[GX P0 Q0 4 H0,iI nd,v,v2] w (.tuple #[SX nd s 0,iI 0]):=by
 have h:=xShareG P0 Q0 4 H0 nd [a,b] [0,0] v v2 w Ti In_Q0' hv hv2 (two_In ha hb) (two_In s_In s_In) (by simp) (by simp) Ur (by rfl) hn
 have e0:shO P0 Q0 nd [a,b] [0,0]=0:=by rw[shO,if_pos Ur,if_pos (by rfl),if_pos hn]
 rw[shV,e0,if_pos rfl] at h
 rw[show ([a,b]:List Int).length=2 from rfl,show ([0,0]:List Int).length=2 from rfl,he,he2] at h
 exact h
theorem w_ve(nd s:Int)(v:Value)(w:World)(hn:ndB nd=true)(he:hoN Q0 nd [7,11] 2=s)(he2:hoN Q0 nd [0,0] 2=0)(hs:In s)(hv:NL w v cD):CC 33 #[GX P0 Q0 4 H0,DX 1 v,SX nd s 0] w (iI 0):=by
 obtain⟨k1,k2,k3⟩:=ver_ok (d:=1) (ss:=[7,11]) (ts:=[0,0]) is4 isH0 Z2 hn Z2
 exact xVerifyG P0 Q0 4 H0 1 nd s 0 cD v w Ti In_Q0' s_In In_H0 hs s_In hv (cM_In _) (by rw[W4];decide) k1 k2 (by rw[k3,show ([7,11]:List Int).length=2 from rfl,show ([0,0]:List Int).length=2 from rfl,he,he2])
theorem w_js(nd a b s:Int)(v:Value)(w:World)(hG:GP w)(hn:ndB nd=true)(he:(a+b)%Q0=s)(h1:a%Q0=a)(ha:In a)(hb:In b)(hv:ShL w v [(nd,a,0),(nd,b,0)]):CC 8 #[GX P0 Q0 4 H0,v] w (.tuple #[SX nd s 0,iI 0]):=by
 have hr:=ndB_iff.1 hn
 have h:=jShares P0 Q0 4 H0 [(nd,a,0),(nd,b,0)] v w hG Ti In_Q0' hv (by simp) (fun x hx=>by simp at hx;rcases hx with rfl | rfl<;>exact⟨by simp;omega,by simp;omega⟩) (fun x hx=>by simp at hx;rcases hx with rfl | rfl<;>exact⟨by assumption,s_In (n:=0)⟩)
 have e0:seE P0 Q0 [(nd,a,0),(nd,b,0)]=0:=by
  rw[seE,if_pos Ur,if_pos]
  exact⟨by simp,by simp[sameB,ndsB,hn]⟩
 rw[seM,seS,seT,e0,if_pos rfl,if_pos rfl,if_pos rfl] at h
 have e1:sm1 Q0 (shS [(nd,a,0),(nd,b,0)]) 2=s:=by
  show ((0+a)%Q0+b)%Q0=s
  rw[Int.zero_add,h1,he]
 have e2:sm1 Q0 (shT [(nd,a,0),(nd,b,0)]) 2=0:=by rfl
 rw[show ([(nd,a,0),(nd,b,0)]:List (Int×Int×Int)).length=2 from rfl,e1,e2] at h
 exact h
abbrev lsW:List (Int×Int×Int):=[(1,18,0),(2,29,0)]
theorem w_gd:GdV Q0 (lsW.map (·.1)) [Q0 -1,1]:=⟨rfl,fun i hi _=>by
 match i,hi with
 | 0,_=>exact⟨Z2,Z2,by decide+kernel⟩
 | 1,_=>exact⟨Z2,Z2,by decide+kernel⟩⟩
theorem w_op(v:Value)(w:World)(hv:ShL w v lsW):CC 34 #[GX P0 Q0 4 H0,v] w (.tuple #[NV 7,NV 0,iI 0]):=by
 have h:=xOpenK P0 Q0 4 H0 [Q0 -1,1] lsW v w Ti In_Q0' hv (fun x hx=>by simp[lsW] at hx;rcases hx with rfl | rfl<;>exact⟨s_In,s_In⟩) Z2 Ur w_gd
 have e0:oE P0 Q0 lsW=0:=by
  rw[oE,if_pos Ur]
  decide+kernel
 have ef:faE Q0 (lsW.map (·.1))=0:=by decide+kernel
 have e1:cbX Q0 0 [Q0 -1,1] (opS lsW)=7:=by decide+kernel
 have e2:cbX Q0 0 [Q0 -1,1] (opT lsW)=0:=by decide+kernel
 rw[oX,oX,e0,if_pos rfl,if_pos rfl,e1,e2] at h
 exact h
theorem bsS2(n s t n2 s2 t2:Int)(w:World):(Instr.buildSlice 28 2 ([0,1].zip [SX n s t,SX n2 s2 t2]).toArray).run Tryz.prog w= .ok (.slice (some ⟨w.heap.size,0,none⟩) 2 2) (w.alloc (.cells (SE n s t++SE n2 s2 t2:List Value).toArray 39)):=by kernel_rfl
theorem two_ShL{u:World}{v:Value}{n s t n2 s2 t2:Int}(h:P2c 2 (SE n s t++SE n2 s2 t2) u v):ShL u v [(n,s,t),(n2,s2,t2)]:=by
 obtain⟨b,rfl,h1,h2⟩:=h
 exact sh_row (zs:=[]) h1 (by rw[List.append_nil];exact h2) rfl (Nat.le_refl _)
theorem w_rd(i:Nat)(hi:i<2): ∃nd a b s:Int,(i:Int)+1=nd/\decide (nd<=2)=true/\ndB nd=true/\(hoN Q0 nd [3,2] 2=a/\hoN Q0 nd [4,9] 2=b/\hoN Q0 nd [7,11] 2=s/\hoN Q0 nd [0,0] 2=0)/\(In a/\In b/\In s)/\((a+b)%Q0=s/\a%Q0=a)/\lsW.take (i+1)=lsW.take i++[(nd,s,0)]/\(lsW.take i).length=i:=by
 match i,hi with
 | 0,_=>exact⟨1,5,13,18,Z2,Z2,Z2,by decide+kernel,⟨s_In,s_In,s_In⟩,by decide+kernel,rfl,rfl⟩
 | 1,_=>exact⟨2,7,22,29,Z2,Z2,Z2,by decide+kernel,⟨s_In,s_In,s_In⟩,by decide+kernel,rfl,rfl⟩
theorem ent_NA:EnT 29:=fun _ _=>by kernel_rfl
theorem P2c.nw{n:Nat}{cs:List Value}(u:World)(v:Value)(h:P2c n cs u v):NW n cs u v:=by
 obtain⟨b,rfl,h1,h2⟩:=h
 exact⟨_,n,rfl,.inr ⟨_,rfl,fun j v hj=>by rw[Addr.add0];exact(h2 j v hj).1⟩⟩
theorem one_S(n s t:Int): ∀v∈SE n s t,v.oneCell'=true:=fun v hv=>by simp at hv;rcases hv with h | h | h | h | h | h | h | h | h<;>(subst h;rfl)
theorem bsS1z(n s t:Int)(w:World):(Instr.buildSlice 28 1 ([0].zip [SX n s t]).toArray).run Tryz.prog w= .ok (.slice (some ⟨w.heap.size,0,none⟩) 1 1) (w.alloc (.cells (SE n s t:List Value).toArray 39)):=by kernel_rfl
theorem works_core(w:World)(hG:GP w)(hSm:Hid (∀u x,Bw w u->DL u x dsW->Calls Tryz.prog 6 #[GX P0 Q0 4 H0,x] u fun r u'=> ∃y,r= .returned (.tuple #[DX 1 y,iI 0])/\NL u' y cD/\Bw u u')):
 CC 11 #[] w (.bool true):=by
 go_enter Tryz.func11,Tryz.ntmps11
 go_upto_region 2 with fail
 go_cut [2,3,4] (fun s t v wx=> ∃b y,s= .pointer (some ⟨b,0,none⟩)/\w.heap.size<=b/\b<wx.heap.size/\CV wx b (DE 1 y)/\NL wx y cA/\NL wx t [3,2]/\NL wx v [0,0]/\Bw w wx)
 case first=>
  go_wp2_with (first
   | (go_at_call 29;first
    | (refine(Vj 3 w Z1 Z1).mono ?_;rintro r ua ⟨rfl,hBa⟩)
    | (refine(Vj 2 ua Z1 Z1).mono ?_;rintro r ub ⟨rfl,hBb⟩))
   | (go_at_call 30;refine(cMade2 1 3 2 _ _ Z2 (inN2 3 2 ub) s_In s_In).mono ?_;rintro r uc ⟨y,z1,z2,rfl,hy,h1,h2,hBc⟩;obtain⟨sy,cy,ey⟩:=hy.sl;subst ey;obtain⟨s1,c1,e1⟩:=h1.sl;subst e1;obtain⟨s2,c2,e2⟩:=h2.sl;subst e2;have hBd:=Z7 (Z5 (Z7 hBa hBb) _) hBc;have hy:=Hid.on hy;have h1:=Hid.on h1;have h2:=Hid.on h2))
  go_meet
  exact⟨uc.heap.size,_,rfl,hBd.size,by simp,CV.new uc _ _,hy.out.up (Z5 (Zf uc) _),h1.out.up (Z5 (Zf uc) _),h2.out.up (Z5 (Zf uc) _),Z5 hBd _⟩
 case rest=>
 obtain⟨b2,y2,rfl,lo2,l2,K2,n2,n3,n4,HBa⟩:=hcut
 obtain⟨t2,k2,ey⟩:=n2.sl
 subst ey
 obtain⟨t3,k3,ey⟩:=n3.sl
 subst ey
 obtain⟨t4,k4,ey⟩:=n4.sl
 subst ey
 obtain⟨wa,rfl⟩:=Zr wc
 go_upto_region 3 with fail
 go_cut [5,6,7] (fun s t v wx=> ∃b y,s= .pointer (some ⟨b,0,none⟩)/\wa.heap.size<=b/\b<wx.heap.size/\CV wx b (DE 2 y)/\NL wx y cB/\NL wx t [4,9]/\NL wx v [0,0]/\Bw wa wx)
 case first=>
  go_wp2_with (first
   | (go_at_call 29;first
    | (refine(Vj 4 wa Z1 Z1).mono ?_;rintro r ua ⟨rfl,hBa⟩)
    | (refine(Vj 9 ua Z1 Z1).mono ?_;rintro r ub ⟨rfl,hBb⟩))
   | (go_at_call 30;refine(cMade2 2 4 9 _ _ Z2 (inN2 4 9 ub) s_In s_In).mono ?_;rintro r uc ⟨y,z1,z2,rfl,hy,h1,h2,hBc⟩;obtain⟨sy,cy,ey⟩:=hy.sl;subst ey;obtain⟨s1,c1,e1⟩:=h1.sl;subst e1;obtain⟨s2,c2,e2⟩:=h2.sl;subst e2;have hBd:=Z7 (Z5 (Z7 hBa hBb) _) hBc;have hy:=Hid.on hy;have h1:=Hid.on h1;have h2:=Hid.on h2))
  go_meet
  exact⟨uc.heap.size,_,rfl,hBd.size,by simp,CV.new uc _ _,hy.out.up (Z5 (Zf uc) _),h1.out.up (Z5 (Zf uc) _),h2.out.up (Z5 (Zf uc) _),Z5 hBd _⟩
 case rest=>
 obtain⟨b5,y5,rfl,lo5,l5,K5,n5,n6,n7,HBb⟩:=hcut
 obtain⟨t5,k5,ey⟩:=n5.sl
 subst ey
 obtain⟨t6,k6,ey⟩:=n6.sl
 subst ey
 obtain⟨t7,k7,ey⟩:=n7.sl
 subst ey
 obtain⟨wb,rfl⟩:=Zr wc
 have K2:=K2.below HBb l2
 have n2:=n2.up HBb
 have n3:=n3.up HBb
 have n4:=n4.up HBb
 have hne25:b2≠b5:=Z1
 have l2:=Nat.lt_of_lt_of_le l2 HBb.size
 have hTb:=Z7 HBa HBb
 have HBo:Bw wb wb:=Below.refl _ _
 clear lo2 lo5
 have K0_1:Bk wb.heap.size wb [(false,b2,DE (1) (.slice t2 (cA).length k2)),(false,b5,DE (2) (.slice t5 (cB).length k5))]:=⟨.c l2 K2<| .c l5 K5<|trivial,by simp<;>omega⟩
 go_upto_region 4 with fail
 refine rgY1 9 4 (PDz wb.heap.size 1 cD) K0_1 HBo HBo.size [] [] [(0,44,GX P0 Q0 (4) H0),(1,45,DX (1) (.slice t2 (cA).length k2)),(2,46,DX (2) (.slice t5 (cB).length k5)),(7,50,iI 0),(10,9,iI 0)] [] [] [⟨3,47,some 4,P2c 2 (DE 1 (.slice t2 (cA).length k2)++DE 2 (.slice t5 (cB).length k5))⟩,⟨4,48,some 5,PTz 1 0 cD⟩,⟨5,43,none,PTz 1 0 cD⟩,⟨6,49,some 9,PVz 1 cD⟩,⟨8,8,some 9,PBz wb.heap.size⟩] [⟨3,47,some 4,P2c 2 (DE 1 (.slice t2 (cA).length k2)++DE 2 (.slice t5 (cB).length k5))⟩,⟨4,48,some 5,PTz 1 0 cD⟩,⟨5,43,none,PTz 1 0 cD⟩,⟨6,49,some 9,PVz 1 cD⟩,⟨8,8,none,PDz wb.heap.size 1 cD⟩] [] (.cons (fun _ _ _ h1 h2=>h2.stab h1)<| .cons (fun _ _ _ h1 h2=>h2.stab h1)<| .cons (fun _ _ _ h1 h2=>h2.stab h1)<| .cons (fun _ _ _ h1 h2=>h2.stab h1)<| .cons (fun _ _ _ h1 h2=>h2.stab h1)<|Stab.nil) rfl rfl rfl ?_ ?_
 ·refine yc (g_cl ent_H1 jThe) ?_
  refine yc (g_ld 0 Tryz.underlying33 Z8) ?_
  refine yc (g_ld 1 Tryz.underlying33 Z8) ?_
  refine yc (g_bR 0 (P2c 2 (DE 1 (.slice t2 (cA).length k2)++DE 2 (.slice t5 (cB).length k5))) [0,1] [DX 1 (.slice t2 (cA).length k2),DX 2 (.slice t5 (cB).length k5)] (DE 1 (.slice t2 (cA).length k2)++DE 2 (.slice t5 (cB).length k5)) (bsD2 1 2 t2 t5 _ _ k2 k5) (fun u hu=>P2c.new u)) ?_
  refine yc (g_cX 0 1 (P2c 2 (DE 1 (.slice t2 (cA).length k2)++DE 2 (.slice t5 (cB).length k5))) (PTz 1 0 cD) ent_E1 (fun u y bZ hs hy=>(hSm.out u y (Z7 hTb bZ) (two_DL hy (n2.up bZ) (n5.up bZ))).mono (by rintro r u' ⟨y,rfl,h1,h2⟩;exact⟨_,rfl,⟨y,rfl,h1⟩,h2⟩))) ?_
  refine yc (g_mE 1 2 (PTz 1 0 cD)) ?_
  refine yc (g_xE (k:=0) 2 3 (PTz 1 0 cD) (PVz 1 cD) (fun u vs h=>by obtain⟨y,rfl,hy⟩:=h;exact⟨_,_,rfl,rfl,y,rfl,hy⟩)) ?_
  refine yt (t_xV (k:=1) (v:=iI 0) 8 (PDz wb.heap.size 1 cD) 2 (PTz 1 0 cD) (fun u vs h=>by obtain⟨y,rfl,hy⟩:=h;exact⟨_,rfl,rfl⟩)) ?_
  refine yc (g_aP 4 (PBz wb.heap.size) Yd (fun u hu=>PBz.new u hu)) ?_
  refine yz (st_bx 4 3 (PBz wb.heap.size) (PVz 1 cD) (PDz wb.heap.size 1 cD) (fun u vb v h0 hv=>by obtain⟨u2,r,h1,h2,h3,h4⟩:=st_dl u vb v h0 hv;exact⟨u2,r,h1,h2,h3,⟨.inl rfl,.inl rfl,.inr ⟨by simp,EKj h4⟩,.inl rfl,.inl rfl,trivial⟩⟩)) ?_
  exact yt (t_as 8 (PDz wb.heap.size 1 cD)) yn
 intro u1 v1_3 hv1_3 v1_4 hv1_4 v1_5 hv1_5 v1_6 hv1_6 v1_8 hv1_8 HB1 sz1 K1
 simp only[sQ] at K1⊢
 obtain⟨b8,y8,rfl,lb8,l8,K8,n8⟩:=hv1_8 rfl
 clear hv1_3 hv1_4 hv1_5 hv1_6 hv1_8
 obtain⟨t8,k8,ey⟩:=n8.sl
 subst ey
 have n3:=n3.up HB1
 have n4:=n4.up HB1
 have n6:=n6.up HB1
 have n7:=n7.up HB1
 have hTc:=Z7 hTb HB1
 obtain⟨wd,rfl⟩:=Zr u1
 clear K1 sz1 HB1 lb8 HBo n2 n5 K2 K5 l2 l5 hne25 HBa HBb hTb K0_1
 clear hSm
 go_upto_region 5 with fail
 go_cut [10] (fun s wx=> ∃(bo co:Nat) (zs:List Value),s= .slice (some ⟨bo,0,none⟩) 0 co/\zs.length=9*co/\wd.heap.size<=bo/\bo<wx.heap.size/\CV wx bo (flS []++zs)/\Bw wd wx)
 case first=>
  go_wp2_with fail
  go_meet
  exact⟨wd.heap.size,0,[],rfl,rfl,Nat.le_refl _,by simp,(fun j v h=>by simp[flS] at h),Z5 (Zf wd) _⟩
 case rest=>
 obtain⟨bo,co,zs,rfl,hz,hlo,hlt,KO,HBc⟩:=hcut
 have K8:=Hid.on K8
 have n3:=Hid.on n3
 have n4:=Hid.on n4
 have n6:=Hid.on n6
 have n7:=Hid.on n7
 have n8:=Hid.on n8
 have KO:=Hid.on KO
 go_wp2_with fail
 go_loopw [10,11] (fun s10 s11 wr=> ∃(i bo co:Nat) (zs:List Value),i<=2/\s11=iI ((i:Int)+1)/\s10= .slice (some ⟨bo,0,none⟩) i co/\i<=co/\zs.length=9*(co -i)/\wd.heap.size<=bo/\bo<wr.heap.size/\Hid (CV wr bo (flS (lsW.take i)++zs))/\Bw wd wr) (fun _ s11 _=>3 -(intOf s11).toNat)
 case atStart=>exact⟨0,bo,co,zs,Z1,rfl,rfl,Z1,Z1,hlo,hlt,KO,HBc⟩
 case round=>
  clear KO hlt hlo hz HBc
  obtain⟨i,bo,co,zs,hi,rfl,rfl,hic,hz,hlo,hlt,KO,HBr⟩:=hrel
  have K8r:=K8.out.below HBr l8
  have l8r:=Nat.lt_of_lt_of_le l8 HBr.size
  have hTr:=Z7 hTc HBr
  by_cases hj:i<2
  ·obtain⟨nd,a,b,s,e1,e2,hnd,⟨q1,q2,q3,q4⟩,⟨ia,ib,is⟩,⟨q5,q6⟩,hnx,hln⟩:=w_rd i hj
   have e3:IntKind.i64.wrap ((i:Int)+1+1)=((i+1:Nat):Int)+1:=by rw[IntKind.wrap_i64];omega
   have e3:IntKind.i64.wrap (nd+1)=((i+1:Nat):Int)+1:=by rw[<-e1];exact e3
   rw[e1]
   have hnx:=Hid.on hnx
   have hln:=Hid.on hln
   go_upto_region 9 with fail
   go_cut [12,13] (fun s v wx=> ∃b,s= .pointer (some ⟨b,0,none⟩)/\wr.heap.size<=b/\b<wx.heap.size/\CV wx b (SE nd a 0)/\v=iI 0/\Bw wr wx)
   case first=>
    go_wp2_with (first
     | (go_at_call 31;refine(jThe wr).mono ?_;rintro r ua ⟨rfl,hBa⟩)
     | (go_at_call 32;refine(w_sh nd 3 2 a _ _ ua hnd q1 q4 s_In s_In (n3.out.up (Z7 HBr hBa)) (n4.out.up (Z7 HBr hBa))).mono ?_;rintro r ub ⟨rfl,hBb⟩))
    go_meet
    have hBd:=Z7 hBa hBb
    exact⟨ub.heap.size,rfl,hBd.size,by simp,CV.new ub _ _,rfl,Z5 hBd _⟩
   case rest=>
   obtain⟨b12,rfl,lo12,l12,K12,rfl,HBs⟩:=hcut
   obtain⟨wf,rfl⟩:=Zr wc
   have HBf:=Z7 HBr HBs
   go_upto_region 10 with fail
   go_cut [14,15] (fun s v wx=> ∃c,s= .pointer (some ⟨c,0,none⟩)/\wf.heap.size<=c/\c<wx.heap.size/\CV wx c (SE nd b 0)/\v=iI 0/\Bw wf wx)
   case first=>
    go_wp2_with (first
     | (go_at_call 31;refine(jThe wf).mono ?_;rintro r ua ⟨rfl,hBa⟩)
     | (go_at_call 32;refine(w_sh nd 4 9 b _ _ ua hnd q2 q4 s_In s_In (n6.out.up (Z7 HBf hBa)) (n7.out.up (Z7 HBf hBa))).mono ?_;rintro r ub ⟨rfl,hBb⟩))
    go_meet
    have hBd:=Z7 hBa hBb
    exact⟨ub.heap.size,rfl,hBd.size,by simp,CV.new ub _ _,rfl,Z5 hBd _⟩
   case rest=>
   obtain⟨b14,rfl,lo14,l14,K14,rfl,HBt⟩:=hcut
   obtain⟨wg,rfl⟩:=Zr wc
   have HBg:=Z7 HBf HBt
   have hTg:=Z7 hTc HBg
   have KO:=Hid.on (KO.out.below (Z7 HBs HBt) hlt)
   have hlt:=Nat.lt_of_lt_of_le hlt (Z7 HBs HBt).size
   have K12:=K12.below HBt l12
   have K8r:=K8r.below (Z7 HBs HBt) l8r
   have hne1:b8≠b12:=Z1
   have hne2:b8≠b14:=by have:=HBs.size;omega
   have hne3:b12≠b14:=Z1
   have l8r:=Nat.lt_of_lt_of_le l8r (Z7 HBs HBt).size
   have l12:=Nat.lt_of_lt_of_le l12 HBt.size
   have n8g:=n8.out.up HBg
   have HBo:Bw wg wg:=Below.refl _ _
   have hjS:Hid (∀u y,Bw wg u->P2c 2 (SE nd a 0++SE nd b 0) u y->CC 8 #[GX P0 Q0 4 H0,y] u (.tuple #[SX nd s 0,iI 0])):=fun u y hB hy=>w_js nd a b s y u (hG.below (Z7 hTg hB)) hnd q5 q6 ia ib (two_ShL hy)
   have hwV:Hid (∀u,Bw wg u->CC 33 #[GX P0 Q0 4 H0,DX 1 (.slice t8 (cD).length k8),SX nd s 0] u (iI 0)):=fun u hB=>w_ve nd s _ u hnd q3 q4 is (n8g.up hB)
   clear lo12 lo14 HBs HBt HBf n8g
   have K1_2:Bk wg.heap.size wg [(false,b8,DE (1) (.slice t8 (cD).length k8)),(false,b12,SE nd a (0)),(false,b14,SE nd b (0))]:=⟨.c l8r K8r<| .c l12 K12<| .c l14 K14<|trivial,by simp<;>omega⟩
   go_upto_region 11 with fail
   refine Re K1_2 HBo [] [(8,16,L0h,some (9,SE nd s (0)))] (cG 0 73 [_,_,_] [(4,77,_),(5,72,_),(6,78,_),(7,79,_),(10,17,_)]) [(9,8)] [] [⟨3,76,some 4,P2c 2 (SE nd a 0++SE nd b 0)⟩] [] (Od8 (g_cl ent_H1 jThe) (g_ld 1 Tryz.underlying39 Zb) (g_ld 2 Tryz.underlying39 Zb) (g_bR 0 (P2c 2 (SE nd a 0++SE nd b 0)) [0,1] [SX nd a 0,SX nd b 0] (SE nd a 0++SE nd b 0) (bsS2 nd a 0 nd b 0) (fun u hu=>P2c.new u)) (g_cWg 0 (P2c 2 (SE nd a 0++SE nd b 0)) (fun y=>[GX P0 Q0 4 H0,y]) ent_E3 (fun u y bZ hy=>hjS.out u y bZ hy)) g_mv g_ex g_ex<|Oc3 (g_al 0 Xy) (g_sn 0 Zb) g_as) fun u2 b2_8 v2_3 hv2_3 HB2 sz2 K2=>?_
   simp only[sQ] at K2⊢
   go_upto_region 12 with fail
   refine Rm K2 HB2 (cG 0 80 [_,_,_,_,_,_,_,_,_] []) (Oc9 g_mv (g_bn (fun uZ=>Y7 _ _ _ 0 0 _ uZ rfl)) g_mv (g_cl ent_H1 jThe) (g_ld 0 Tryz.underlying33 Z8) (g_ld 3 Tryz.underlying39 Zb) (g_cb ent_E4 hwV.out) (g_bn (fun uZ=>Y7 _ _ _ 0 0 _ uZ rfl)) g_pk) fun u3 HB3 _ K3=>?_
   simp only[sQ] at K3⊢
   have lo16:=K3.lo 3
   have c16:CV u3 b2_8 (SE nd s 0):=(K3.cv 3)
   have l16:b2_8<u3.heap.size:=(K3.lt 3)
   have KB:=KO.out.below HB3 hlt
   have hne16:b2_8≠bo:=Z1
   have ltB:=Nat.lt_of_lt_of_le hlt HB3.size
   have HBh:=Z7 HBg HB3
   obtain⟨ti,hti,htm⟩:=Option.map_eq_some_iff.1 infoSh
   simp only[Prod.mk.injEq] at htm
   obtain⟨hzv,hsz,hby⟩:=htm
   have K3_3:Bk wd.heap.size u3 [(false,b2_8,SE nd s (0)),(true,bo,flS (lsW.take i)++zs)]:=⟨.c l16 c16<| .o ltB Z1 KB<|trivial,by simp<;>omega⟩
   go_upto_region 14 with fail
   refine Rf K3_3 HBh [.no,.all 3 ([])] [] [(0,89,_),(1,90,_)] [(4,0),(4,3)] [(4,10)] [⟨2,91,some 3,P2c 1 (SE nd s 0)⟩,⟨3,92,some 4,PH u3.heap.size bo ti.size (i+1) (flS (lsW.take i)++(SE nd s 0))⟩,⟨4,10,none,PH u3.heap.size bo ti.size (i+1) (flS (lsW.take i)++(SE nd s 0))⟩] [true,false] (Oc5 g_mv (g_ld 0 Tryz.underlying39 Zb) (g_bR 0 (P2c 1 (SE nd s 0)) [0] [SX nd s 0] (SE nd s 0) (bsS1z nd s 0) (fun u hu=>P2c.new u)) (g_pE 1 0 1 (P2c 1 (SE nd s 0)) (flS (lsW.take i)) zs (SE nd s 0) Tryz.underlying28 hti hzv (by rw[hsz];rfl) rfl P2c.nw (one_S nd s 0) (by rw[hsz];rfl) (by rw[hsz,flS_len,hln.out];omega) (by rw[hsz];omega) hic (by rw[hby];omega) Z1) (g_sE 1 2 (PH u3.heap.size bo ti.size (i+1) (flS (lsW.take i)++(SE nd s 0))))) fun u4 v4_2 hv4_2 v4_3 hv4_3 v4_4 hv4_4 HB4 _ K4=>?_
   simp only[sQ] at K4⊢
   obtain⟨d2,c2,y2,rfl,f1,f2,f3,f4,f5⟩:=hv4_4 rfl
   rw[hsz] at f4
   rw[<-flS_snoc,<-hnx.out] at f5
   have hws:=HBh.size
   go_wp2_with fail
   refine⟨⟨i+1,d2,c2,y2,Z1,by first | rfl | (simp[e3];omega),rfl,f3,by rw[f4];omega,by rcases f1 with h | h<;>omega,f2,f5,HB4⟩,?_⟩
   simp[intOf]<;>omega
  ·obtain rfl:i=2:=Z1
   have hsl:ShL wr (.slice (some ⟨bo,0,none⟩) 2 co) lsW:=sh_row hlt KO.out rfl hic
   go_upto_region 15 with fail
   go_cut [18,20] (fun s v wx=> ∃b,s= .pointer (some ⟨b,0,none⟩)/\b<wx.heap.size/\CV wx b (LN 7)/\v=iI 0/\Bw wr wx)
   case first=>
    go_wp2_with (first
     | (go_at_call 31;refine(jThe wr).mono ?_;rintro r ua ⟨rfl,hBa⟩)
     | (go_at_call 34;refine(w_op _ ua (hsl.up hBa)).mono ?_;rintro r ub ⟨rfl,hBb⟩))
    go_meet
    have hBd:=Z7 hBa hBb
    exact⟨ub.heap.size,rfl,by simp<;>omega,(CV.new ub (LN 7) 24).below (Z5 (Zf _) _) (by simp),rfl,Z5 (Z5 hBd _) _⟩
   case rest=>
   obtain⟨b18,rfl,l18,K18,rfl,HBs⟩:=hcut
   obtain⟨wf,rfl⟩:=Zr wc
   have hTf:=Z7 hTr HBs
   have HBo:Bw wf wf:=Below.refl _ _
   have K1_2:Bk wf.heap.size wf [(false,b18,LN 7)]:=⟨.c l18 K18<|trivial,by simp⟩
   go_upto_region 16 with fail
   refine Rm K1_2 HBo (cG 0 100 [_,_,_,_,_,_,_,_,_,_,_,_] [(12,0,_)]) (Od8 g_mv (g_bn (fun uZ=>Ue _ _ _ 0 0 _ uZ rfl)) g_mv g_mv (g_bn (fun uZ=>Ue _ _ _ 0 0 _ uZ rfl)) g_pk g_mv (g_ld 0 uN iN)<|Oc5 g_mv (g_cv (first:=[]) ent_NA (fun fZ uZ kZ sZ=>Vj 7 uZ Z1 Z1)) (g_bn (fun uZ=>eql_n _ _ (s_In:In 7) (s_In:In 7) true Z2 uZ)) g_pk g_as) fun u2 HB2 sz2 K2=>?_
   simp only[sQ] at K2⊢
   go_wp2
   refine bodyPost_ret (v:= .bool true) (by simp[results,Tryz.results11,go_sem,]) rfl ⟨rfl,(Z7 hTf HB2)⟩
end Go.Proofs.YtoffgfhilkpdpaaGreatDoor
