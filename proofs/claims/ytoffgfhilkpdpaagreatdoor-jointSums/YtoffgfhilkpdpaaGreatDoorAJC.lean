import Derived.Test.YtoffgfhilkpdpaaGreatDoorAJ8
namespace Go.Proofs.YtoffgfhilkpdpaaGreatDoor
set_option linter.unusedVariables false
set_option linter.unusedSimpArgs false
set_option maxRecDepth 100000
set_option maxHeartbeats 4000000
open Go.RowKit
theorem ent_C1:EnT 19:=fun _ _=>by kernel_rfl
theorem ent_C2:EnT 18:=fun _ _=>by kernel_rfl
theorem fdDz(b o:Nat)(w:World):(Instr.fieldAt 33 (.pointer (some ⟨b,o,none⟩)) 0).run Tryz.prog w= .ok (.pointer (some ⟨b,o,none⟩)) w:=by go_simp
theorem fdD1o(b o:Nat)(w:World):(Instr.fieldAt 33 (.pointer (some ⟨b,o,none⟩)) 1).run Tryz.prog w= .ok (.pointer (some ⟨b,o+1,none⟩)) w:=by go_simp
theorem flN_mid(l:List Int)(k:Nat)(h:k<l.length):flN l=flN (l.take k)++LN (l.getD k 0)++flN (l.drop (k+1)):=by
 conv=>lhs;rw[<-List.take_append_drop k l,List.drop_eq_getElem_cons h]
 rw[Xn,List.getD_eq_getElem?_getD,List.getElem?_eq_getElem h,List.append_assoc];rfl
theorem flN_set(l:List Int)(k:Nat)(x:Int)(h:k<l.length):flN (l.set k x)=flN (l.take k)++LN x++flN (l.drop (k+1)):=by
 rw[List.set_eq_take_append_cons_drop,if_pos h,Xn,List.append_assoc];rfl
theorem OR.set{lo sz m b c k:Nat}{xs:List Value}{u:World}{v x:Value}(h:OR lo sz m xs b u v)(hc:c<lo):OR lo sz m xs b (u.setCell ⟨c,k,none⟩ x) v:=by
 obtain⟨h1,h3⟩:=h
 refine⟨h1,h3.imp id ?_⟩
 rintro⟨h2,co,zs,e,g1,g2,g3,g4⟩
 exact⟨h2,co,zs,e,by simpa using g1,g2,g3,g4.oset ⟨c,k,none⟩ x (by show b≠c;omega)⟩
theorem OR.low{lo sz m b:Nat}{xs:List Value}{u:World}{v:Value}(h:OR lo sz m xs b u v): ∃c,lo<=c/\OR lo sz m xs c u v:=by
 obtain⟨h1,h3 | h3⟩:=h
 ·exact⟨lo,Nat.le_refl _,h1,.inl h3⟩
 ·exact⟨b,h3.1,h1,.inr h3⟩
theorem OR.row{lo sz m b:Nat}{xs:List Value}{u:World}{v:Value}(h:OR lo sz m xs b u v)(hm:0<m):lo<=b/\b<u.heap.size/\ ∃co zs,v= .slice (some ⟨b,0,none⟩) m co/\m<=co/\zs.length=(co -m)*sz/\CV u b (xs++zs):=by
 obtain⟨_,⟨h0,_⟩ | ⟨h2,co,zs,e,g1,g2,g3,g4⟩⟩:=h
 ·omega
 ·exact⟨h2,g1,co,zs,e,g2,g3,g4⟩
theorem ysu_c(p q g h:Int)(sl:Option Addr)(n cap:Nat)(w:World)(hC:Hid (∀u,CC 17 #[GX p q g h] u (iI 90))):
 CC 7 #[GX p q g h,.slice sl n cap] w (.tuple #[DZ,iI 90]):=by
 go_enter Tryz.func7,Tryz.ntmps7
 go_upto_region 1 with fail
 obtain⟨v0,hC,HB0,K0⟩:=bx2 w (GE p q g h) 26 L0d 33
 rw[hC]
 clear hC
 refine Rn K0 HB0 (cG 0 9 [GX p q g h,iI 90,.bool true] []) (Oc3 (g_ld 0 Tryz.underlying26 Z4) (g_cl Z6 hC.out) (g_bn (fun uZ=>Y7 _ _ _ 90 0 _ uZ rfl))) fun u1 HB1 _ K1=>?_
 simp only[sQ] at K1⊢
 go_upto_region 2 with fail
 refine Rp K1 HB1 [.no,.all 1 L0d] [] [(0,12,DZ),(2,5,(Go.Value.int Go.IntKind.i64 90))] [] [] [] (Oc3 (g_bd zDl) (g_st 1 Z8) g_as) fun u2 HB2 _ K2=>?_
 simp only[sQ] at K2⊢
 have c4_0:=((K2.cv 1) 0 _ rfl).1
 have c4_1:=((K2.cv 1) 1 _ rfl).1
 go_wp2
 refine bodyPost_ret (v:= .tuple #[DZ,iI 90]) (by simp[results,Tryz.results7,go_sem,c4_0,c4_1]) rfl ⟨rfl,HB2⟩
theorem ysu_l(p q g h:Int)(sl:Option Addr)(n cap:Nat)(w:World)(hC:Hid (∀u,CC 17 #[GX p q g h] u (iI 0)))(ha:decide ((n:Int)<1)=true):
 CC 7 #[GX p q g h,.slice sl n cap] w (.tuple #[DZ,iI 2]):=by
 go_enter Tryz.func7,Tryz.ntmps7
 go_upto_region 1 with fail
 obtain⟨v0,hC,HB0,K0⟩:=bx2 w (GE p q g h) 26 L0d 33
 rw[hC]
 clear hC
 refine Rn K0 HB0 (cG 0 9 [GX p q g h,iI 0,.bool false] []) (Oc3 (g_ld 0 Tryz.underlying26 Z4) (g_cl Z6 hC.out) (g_bn (fun uZ=>Y7 _ _ _ 0 0 _ uZ rfl))) fun u1 HB1 _ K1=>?_
 simp only[sQ] at K1⊢
 go_upto_region 3 with fail
 refine Rn K1 HB1 (cG 0 13 [.slice sl n cap,iI (n:Int),.bool true,.bool true,undef,undef,undef,(Go.Value.bool Bool.true)] []) (Oc8 g_mv (g_ln Tryz.underlying27) (g_bn (fun uZ=>Za _ _ (n:Int) 1 _ uZ ha)) g_mv g_sk g_sk g_sk g_pk) fun u2 HB2 _ K2=>?_
 simp only[sQ] at K2⊢
 go_upto_region 4 with fail
 refine Rp K2 HB2 [.no,.all 1 L0d] [] [(0,21,DZ),(2,5,(Go.Value.int Go.IntKind.i64 2))] [] [] [] (Oc3 (g_bd zDl) (g_st 1 Z8) g_as) fun u3 HB3 _ K3=>?_
 simp only[sQ] at K3⊢
 have c4_0:=((K3.cv 1) 0 _ rfl).1
 have c4_1:=((K3.cv 1) 1 _ rfl).1
 go_wp2
 refine bodyPost_ret (v:= .tuple #[DZ,iI 2]) (by simp[results,Tryz.results7,go_sem,c4_0,c4_1]) rfl ⟨rfl,HB3⟩
theorem ysu_m(p q g h:Int)(sl:Option Addr)(n cap:Nat)(w:World)(hC:Hid (∀u,CC 17 #[GX p q g h] u (iI 0)))(ha:decide ((n:Int)<1)=false)(hb:decide (16<(n:Int))=true):
 CC 7 #[GX p q g h,.slice sl n cap] w (.tuple #[DZ,iI 2]):=by
 go_enter Tryz.func7,Tryz.ntmps7
 go_upto_region 1 with fail
 obtain⟨v0,hC,HB0,K0⟩:=bx2 w (GE p q g h) 26 L0d 33
 rw[hC]
 clear hC
 refine Rn K0 HB0 (cG 0 9 [GX p q g h,iI 0,.bool false] []) (Oc3 (g_ld 0 Tryz.underlying26 Z4) (g_cl Z6 hC.out) (g_bn (fun uZ=>Y7 _ _ _ 0 0 _ uZ rfl))) fun u1 HB1 _ K1=>?_
 simp only[sQ] at K1⊢
 go_upto_region 3 with fail
 refine Rn K1 HB1 (cG 0 13 [.slice sl n cap,iI (n:Int),.bool false,.bool false,.slice sl n cap,iI (n:Int),.bool true,.bool true] []) (Oc8 g_mv (g_ln Tryz.underlying27) (g_bn (fun uZ=>Za _ _ (n:Int) 1 _ uZ ha)) g_mv g_mv (g_ln Tryz.underlying27) (g_bn (fun uZ=>V8 _ _ (n:Int) 16 _ uZ hb)) g_pk) fun u2 HB2 _ K2=>?_
 simp only[sQ] at K2⊢
 go_upto_region 4 with fail
 refine Rp K2 HB2 [.no,.all 1 L0d] [] [(0,21,DZ),(2,5,(Go.Value.int Go.IntKind.i64 2))] [] [] [] (Oc3 (g_bd zDl) (g_st 1 Z8) g_as) fun u3 HB3 _ K3=>?_
 simp only[sQ] at K3⊢
 have c4_0:=((K3.cv 1) 0 _ rfl).1
 have c4_1:=((K3.cv 1) 1 _ rfl).1
 go_wp2
 refine bodyPost_ret (v:= .tuple #[DZ,iI 2]) (by simp[results,Tryz.results7,go_sem,c4_0,c4_1]) rfl ⟨rfl,HB3⟩
theorem ysu_k(p q g h e:Int)(sl:Option Addr)(gb go n cap:Nat)(dn:Nat->Int)(sy:Nat->Option Addr)(ns:Nat->List Int)(cy gy oy:Nat->Nat)(cs:Nat->List Int)(cc ex:Nat->Nat->List Int)(ec:Nat->Int)(D:Int)(w:World)(hC:Hid (∀u,CC 17 #[GX p q g h] u (iI 0)))(ha:decide ((n:Int)<1)=false)(hb:decide (16<(n:Int))=false)(hD:Hid (DM w sl gb go n cap dn sy ns cy gy oy))(hn0:0<n)(hcs0:cs 0=[])(hCk:Hid (∀i,i<n-> ∀u,Bw w u->CC 18 #[GX p q g h,DX (dn i) (.slice (sy i) (ns i).length (cy i))] u (iI (ec i))))(hnl:Hid (∀i,i<n->(ns i).length<=1000))(hcc:Hid (∀i,i<n->cc i 0=cs i/\ ∀k,k<(ns i).length->k<=(cc i k).length/\ex i k=(if k=(cc i k).length then cc i k++[1] else cc i k)/\cc i (k+1)=(ex i k).set k ((ex i k).getD k 0*(ns i).getD k 0%p)))(hcn:Hid (∀i,i<n->cs (i+1)=cc i (ns i).length))(hM:Hid (∀i,i<n-> ∀k,k<(ns i).length-> ∀u,CC 19 #[NV ((ex i k).getD k 0),NV ((ns i).getD k 0),NV p] u (.tuple #[NV ((ex i k).getD k 0*(ns i).getD k 0%p),iI 0])))(hlc:Hid (∀i,i<n-> ∀k,k<=(ns i).length->(cc i k).length<=10000))(hno:Hid (∀k,k<n->(ec k !=0)=true->D=0/\e=110))(hye:Hid ((∀k,k<n->ec k=0)->D=dn 0/\e=0)):
 Calls Tryz.prog 7 #[GX p q g h,.slice sl n cap] w fun e' w'=> ∃y,e'= .returned (.tuple #[DX D y,iI e])/\NL w' y (if e=0 then cs n else [])/\Bw w w':=by
 go_enter Tryz.func7,Tryz.ntmps7
 go_upto_region 1 with fail
 obtain⟨v0,hC,HB0,K0⟩:=bx2 w (GE p q g h) 26 L0d 33
 rw[hC]
 clear hC
 refine Rn K0 HB0 (cG 0 9 [GX p q g h,iI 0,.bool false] []) (Oc3 (g_ld 0 Tryz.underlying26 Z4) (g_cl Z6 hC.out) (g_bn (fun uZ=>Y7 _ _ _ 0 0 _ uZ rfl))) fun u1 HB1 _ K1=>?_
 simp only[sQ] at K1⊢
 go_upto_region 3 with fail
 refine Rn K1 HB1 (cG 0 13 [.slice sl n cap,iI (n:Int),.bool false,.bool false,.slice sl n cap,iI (n:Int),.bool false,.bool false] []) (Oc8 g_mv (g_ln Tryz.underlying27) (g_bn (fun uZ=>Za _ _ (n:Int) 1 _ uZ ha)) g_mv g_mv (g_ln Tryz.underlying27) (g_bn (fun uZ=>V8 _ _ (n:Int) 16 _ uZ hb)) g_pk) fun u2 HB2 _ K2=>?_
 simp only[sQ] at K2⊢
 have hX0:Hid (∀W,(Instr.indexAt 27 (.slice sl n cap) (iI 0)).run Tryz.prog W= .ok (.pointer (some ⟨gb,go,none⟩)) W):=fun W=>hD.out.ix 0 hn0 W
 have hg:=hD.out.lt.resolve_left Z1
 have hc0:Hid (w.cell? ⟨gb,go,none⟩=some (iI (dn 0))):=(hD.out.at_ 0 hn0) 0 _ rfl
 go_upto_region 5 with fail
 refine Rp K2 HB2 [] [(5,6,L0d,some (6,DE ((dn 0)) (.slice none 0 0)))] (cG 0 22 [.slice sl n cap,.pointer (some ⟨gb,go,none⟩),.pointer (some ⟨gb,go,none⟩),iI (dn 0),DX ((dn 0)) (.slice none 0 0)] []) [(6,5)] [] [] (Oc7 g_mv (g_ix hX0.out) (g_fd (fdDz _ _)) (V9 gb go lI hc0.out hg) (g_bd (bdDl (dn 0))) (g_al 0 Yd) (g_sn 0 Z8)) fun u3 b3_5 HB3 _ K3=>?_
 simp only[sQ] at K3⊢
 go_upto_region 6 with fail
 refine Rn K3 HB3 [(0,7,(Go.Value.int Go.IntKind.i64 0))] (Oc1 g_as) fun u4 HB4 _ K4=>?_
 simp only[sQ] at K4⊢
 obtain⟨L,eL⟩:=Zr u4.heap.size
 obtain⟨bd,ebd⟩:=Zr b3_5
 have hL0:w.heap.size<L:=by rw[eL];exact(K4.lt 0)
 have hL4:w.heap.size+1<L:=by rw[eL];exact(K4.lt 1)
 have hL6:bd<L:=by rw[eL,ebd];exact(K4.lt 2)
 have hl6:w.heap.size<=bd:=by rw[ebd];exact(K4.lo 2)
 have hd0:bd≠w.heap.size/\bd≠w.heap.size+1:=by
  have hnd:=K4.n
  simp at hnd
  rw[ebd]
  omega
 have J0:=(K4.cv 0)
 have J4:=(K4.cv 1)
 have J6:=(K4.cv 2)
 rw[<-ebd] at J6⊢
 clear ebd
 have hn16:n<=16:=by have:=of_decide_eq_false hb;omega
 go_wp2_with fail
 go_loopw [7] (fun s7 wr=> ∃(i b:Nat) (v:Value),i<=n/\s7=iI (i:Int)/\Hid (∀j,j<i->ec j=0)/\OR L 4 (cs i).length (flN (cs i)) b wr v/\CV wr w.heap.size (GE p q g h)/\CV wr (w.heap.size+1) L0d/\CV wr bd (DE (dn 0) v)/\L<=wr.heap.size/\Bw w wr) (fun s7 _=>n -(intOf s7).toNat)
 case atStart=>exact⟨0,0,_,Z1,rfl,fun j hj=>absurd hj Z1,by rw[hcs0];exact OR.nil _ _ _ _,J0,J4,J6,Z1,HB4⟩
 case round=>
  obtain⟨i,b,v,hi,rfl,hall,hO,C0,C4,C6,hLw,HBr⟩:=hrel
  obtain⟨wo,rfl⟩:=Zr wr
  obtain⟨so,co,eo⟩:=hO.sl
  subst eo
  clear J0 J4 J6 HB4
  have kk0:=Nat.lt_of_lt_of_le hL0 hLw
  have kk4:=Nat.lt_of_lt_of_le hL4 hLw
  have kk6:=Nat.lt_of_lt_of_le hL6 hLw
  by_cases hj:i<n
  ·have hl:decide ((i:Int)<(n:Int))=true:=by simp;omega
   have hX:Hid _:=hD.out.ix i hj
   have hR0:=hD.out.at_ i hj
   have hV:=hCk.out i hj
   have hbad:=hno.out i hj
   cases hce:(ec i !=0)
   case true=>
    have hR:Hid _:=hR0
    obtain⟨rfl,rfl⟩:=hbad hce
    clear hye hno hbad
    have K4_1:Bk w.heap.size wo [(false,w.heap.size,GE p q g h),(true,w.heap.size+1,L0d),(true,bd,DE (dn 0) (.slice so (cs i).length co))]:=⟨.c kk0 C0<| .o kk4 Z1 C4<| .o kk6 Z1 C6<|trivial,by simp<;>omega⟩
    go_upto_region 7 with fail
    refine Rn K4_1 HBr (cG 0 27 [iI (i:Int),.slice sl n cap,iI (n:Int),.bool true] []) (Oc4 g_mv g_mv (g_ln Tryz.underlying27) (g_bn (fun uZ=>Za _ _ (i:Int) (n:Int) _ uZ hl))) fun u5 HB5 sz5 K5=>?_
    simp only[sQ] at K5⊢
    go_upto_region 9 with fail
    refine Rm K5 HB5 (cG 0 33 [GX p q g h,.slice sl n cap,iI (i:Int),.pointer (some ⟨gb,go+2*i,none⟩),DX (dn i) (.slice (sy i) (ns i).length (cy i)),iI (ec i),.bool true] []) (Oc7 (g_ld 0 Tryz.underlying26 Z4) g_mv g_mv (g_ix hX.out) (g_lf hR.out hg Tryz.underlying33 Z8) (g_cb ent_C2 hV) (g_bn (fun uZ=>Y7 _ _ _ (ec i) 0 _ uZ hce))) fun u6 HB6 sz6 K6=>?_
    simp only[sQ] at K6⊢
    go_upto_region 10 with fail
    refine Rp K6 HB6 [.no,.all 1 L0d] [] [(0,40,DZ),(2,5,(Go.Value.int Go.IntKind.i64 110))] [] [] [] (Oc3 (g_bd zDl) (g_st 1 Z8) g_as) fun u7 HB7 sz7 K7=>?_
    simp only[sQ] at K7⊢
    have c4_0:=((K7.cv 1) 0 _ rfl).1
    have c4_1:=((K7.cv 1) 1 _ rfl).1
    go_wp2
    refine bodyPost_ret (v:= .tuple #[DZ,iI 110]) (by simp[results,Tryz.results7,go_sem,c4_0,c4_1]) rfl ⟨.slice none 0 0,rfl,NL.nilI _,HB7⟩
   case false=>
    have hR1:=hR0 1 _ rfl
    have hR:Hid (wo.rangeAt gb (go+2*i) _):=fun c v hc=>(HBr.cell (p:=⟨gb,go+2*i+c,none⟩) hg).trans (hR0 c v hc)
    have hgw:=Nat.lt_of_lt_of_le hg HBr.size
    have hG0:Hid (wo.rangeAt w.heap.size 0 (GE p q g h)):=fun j v hj=>by rw[Nat.zero_add];exact(C0 j v hj).1
    have HBo:Bw wo wo:=Below.refl _ _
    have hV':Hid _:=fun u (hB:Bw wo u)=>hV u (Z7 HBr hB)
    have K4_1:=Bk.nil (wo.heap.size) wo
    go_upto_region 7 with fail
    refine Rn K4_1 HBo (cG 0 27 [iI (i:Int),.slice sl n cap,iI (n:Int),.bool true] []) (Oc4 g_mv g_mv (g_ln Tryz.underlying27) (g_bn (fun uZ=>Za _ _ (i:Int) (n:Int) _ uZ hl))) fun u5 HB5 sz5 K5=>?_
    simp only[sQ] at K5⊢
    go_upto_region 9 with fail
    refine Rm K5 HB5 (cG 0 33 [GX p q g h,.slice sl n cap,iI (i:Int),.pointer (some ⟨gb,go+2*i,none⟩),DX (dn i) (.slice (sy i) (ns i).length (cy i)),iI (ec i),.bool false] []) (Oc7 (g_lf hG0.out kk0 Tryz.underlying26 Z4) g_mv g_mv (g_ix hX.out) (g_lf hR.out hgw Tryz.underlying33 Z8) (g_cb ent_C2 hV'.out) (g_bn (fun uZ=>Y7 _ _ _ (ec i) 0 _ uZ hce))) fun u6 HB6 sz6 K6=>?_
    simp only[sQ] at K6⊢
    go_upto_region 11 with fail
    refine Rn K6 HB6 [(0,8,(Go.Value.int Go.IntKind.i64 0))] (Oc1 g_as) fun u7 HB7 sz7 K7=>?_
    simp only[sQ] at K7⊢
    have hall':Hid (∀j,j<i+1->ec j=0):=fun j hjk=>by
     by_cases ej:j=i
     ·subst ej;simpa using hce
     ·exact hall.out j Z1
    have hO1:=hO.stab HB7
    have D0:=C0.below HB7 kk0
    have D4:=C4.below HB7 kk4
    have D6:=C6.below HB7 kk6
    have hL1:=Nat.le_trans hLw HB7.size
    have HBt:=Z7 HBr HB7
    have hns:=hnl.out i hj
    have hcc0:=hcc.out i hj
    have hY:=hD.out.ixn i hj
    have hNt:=hD.out.atn i hj
    have hNg:=hD.out.ltn i hj
    generalize u7=u1 at *
    clear hO C0 C4 C6 hLw HBo HB7 hV hV' hbad hall hR hG0 kk0 kk4 kk6
    go_wp2_with fail
    go_loopw [8] (fun s8 wr=> ∃(k b:Nat) (v:Value),k<=(ns i).length/\s8=iI (k:Int)/\OR L 4 (cc i k).length (flN (cc i k)) b wr v/\CV wr w.heap.size (GE p q g h)/\CV wr (w.heap.size+1) L0d/\CV wr bd (DE (dn 0) v)/\L<=wr.heap.size/\Bw w wr) (fun s8 _=>(ns i).length -(intOf s8).toNat)
    case atStart=>exact⟨0,b,_,Z1,rfl,by rw[hcc0.1];exact hO1,D0,D4,D6,hL1,HBt⟩
    case round=>
     clear hO1 D0 D4 D6 hL1 HBt
     obtain⟨k,b2,v2,hk,rfl,hO,C0,C4,C6,hLw,HBr⟩:=hrel
     obtain⟨wq,rfl⟩:=Zr wr
     obtain⟨s2,c2,eo⟩:=hO.sl
     subst eo
     have kk0:=Nat.lt_of_lt_of_le hL0 hLw
     have kk4:=Nat.lt_of_lt_of_le hL4 hLw
     have kk6:=Nat.lt_of_lt_of_le hL6 hLw
     have hgw:=Nat.lt_of_lt_of_le hg HBr.size
     have hc1:Hid (w.cell? ⟨gb,go+2*i+1,none⟩=_):=hR1
     have hcq:Hid (wq.cell? ⟨gb,go+2*i+1,none⟩=_):=(HBr.cell (p:=⟨gb,go+2*i+1,none⟩) hg).trans hR1
     have HBo:Bw wq wq:=Below.refl _ _
     by_cases hkj:k<(ns i).length
     ·have hlk:decide ((k:Int)<((ns i).length:Int))=true:=by simp;omega
      obtain⟨hle,hex,hnx⟩:=hcc0.2 k hkj
      have hc6:=Hid.on (C6 1 _ rfl).1
      have K7_2:=Bk.nil (wq.heap.size) wq
      go_upto_region 12 with fail
      refine Rn K7_2 HBo (cG 0 41 [iI (k:Int),.slice sl n cap,iI (i:Int),.pointer (some ⟨gb,go+2*i,none⟩),.pointer (some ⟨gb,go+2*i+1,none⟩),.slice (sy i) (ns i).length (cy i),iI ((ns i).length:Int),.bool true] []) (Oc8 g_mv g_mv g_mv (g_ix hX.out) (g_fd (fdD1o _ _)) (V9 gb (go+2*i+1) lSN hcq.out hgw) (g_ln Tryz.underlying31) (g_bn (fun uZ=>Za _ _ (k:Int) ((ns i).length:Int) _ uZ hlk))) fun u8 HB8 sz8 K8=>?_
      simp only[sQ] at K8⊢
      obtain⟨r,er⟩:=Z3 (((k:Int)==((cc i k).length:Int)))
      go_upto_region 14 with fail
      refine Rn K8 HB8 (cG 0 51 [iI (k:Int),.pointer (some ⟨bd,1,none⟩),.slice s2 (cc i k).length c2,iI ((cc i k).length:Int),.bool r] []) (Oc5 g_mv (g_fd (fdD1 _)) (V9 bd 1 lSN hc6.out kk6) (g_ln Tryz.underlying31) (g_bn (fun uZ=>Ue _ _ _ (k:Int) ((cc i k).length:Int) _ uZ er))) fun u9 HB9 sz9 K9=>?_
      simp only[sQ] at K9⊢
      have hO1:=hO.stab HB9
      have D0:=C0.below HB9 kk0
      have D4:=C4.below HB9 kk4
      have D6:=C6.below HB9 kk6
      have hL1:=Nat.le_trans hLw HB9.size
      have HBt:=Z7 HBr HB9
      have hlk2:=hlc.out i hj k hk
      generalize u9=u2 at *
      clear hO C0 C4 C6 hLw HBo HB9 hc6 hcq HBr kk0 kk4 kk6 hgw
      by_cases hkm:k=(cc i k).length
      case' pos=>
       obtain rfl:r=true:=by rw[<-er,beq_iff_eq];omega
       rw[if_pos hkm] at hex
       clear hkm er
       have d1:=(D6 1 _ rfl).1
       have hb1:=bsNj 1
       obtain⟨bq,hbq,hO1⟩:=hO1.low
       obtain⟨v',uc,b',r2,hg2,hO2,hb2,hn2,hB2⟩:=app_or (T:=31) (E:=24) (ty:=31) Tryz.underlying31 infoN rfl Z2 hO1 hL1 Z1 (news:=LN 1) rfl (one_N 1)
       obtain⟨s3,c3,eo⟩:=hO2.sl
       subst eo
       have hL2:L<=uc.heap.size:=Nat.le_trans hL1 hB2.size
       have hbl: ∀c,c<L-> ∀l,CV u2 c l->CV uc c l:=fun c hc l h=>(h.below (Z5 (Zf u2) _) Z1).grow hg2 (by simp;omega) (fun e=>by cases e;omega)
       have E6:=hbl _ hL6 _ D6
       have r3:=E6 1 _ rfl
       have hjn:OR L 4 (ex i k).length (flN (ex i k)) b' (uc.setCell ⟨bd,1,none⟩ (.slice s3 ((cc i k).length+1) c3)) (.slice s3 ((cc i k).length+1) c3)/\CV (uc.setCell ⟨bd,1,none⟩ (.slice s3 ((cc i k).length+1) c3)) w.heap.size (GE p q g h)/\CV (uc.setCell ⟨bd,1,none⟩ (.slice s3 ((cc i k).length+1) c3)) (w.heap.size+1) L0d/\CV (uc.setCell ⟨bd,1,none⟩ (.slice s3 ((cc i k).length+1) c3)) bd (DE (dn 0) (.slice s3 ((cc i k).length+1) c3))/\L<=(uc.setCell ⟨bd,1,none⟩ (.slice s3 ((cc i k).length+1) c3)).heap.size/\Bw w (uc.setCell ⟨bd,1,none⟩ (.slice s3 ((cc i k).length+1) c3)):=
        ⟨by rw[hex,Xn,List.length_append];exact hO2.set hL6,(hbl _ hL0 _ D0).oset _ _ (by show w.heap.size≠bd;omega),(hbl _ hL4 _ D4).oset _ _ (by show w.heap.size+1≠bd;omega),E6.setC 1 (by simp) _,by simpa using hL2,(HBt.trans (hB2.mono (Nat.le_of_lt (Nat.lt_of_lt_of_le hL0 (Nat.le_refl _))))).setCell hl6 _⟩
       have hkx:k<(ex i k).length:=by rw[hex,List.length_append];simp;omega
       clear hO2 hg2 hbl hB2 hex hO1 D0 D4 D6 E6 HBt hL1 hL2
       replace hjn:=Hid.on hjn
       go_upto_region 16 with(at_builtin;refine Y2 rfl _ _ 31 rfl _ _ _ rfl rfl r2 ?_;clear r2)
       clear r3 d1
       obtain⟨hO,C0,C4,C6,hLw,HBr⟩:=hjn.out
       obtain⟨hlb,hbx,co3,zs3,ev,hmc,hzl,Cr⟩:=hO.row Z1
       clear hO hjn
       generalize uc.setCell ⟨bd,1,none⟩ (.slice s3 ((cc i k).length+1) c3)=wx at *
       rw[ev] at C6
       clear ev
       obtain⟨b3,rfl⟩:=Zr b'
      case' neg=>
       obtain rfl:r=false:=by rw[<-er,beq_eq_false_iff_ne];omega
       rw[if_neg hkm] at hex
       have hkx:k<(ex i k).length:=by rw[hex];omega
       clear hkm er
       have hjn:OR L 4 (ex i k).length (flN (ex i k)) b2 u2 (.slice s2 (cc i k).length c2)/\CV u2 w.heap.size (GE p q g h)/\CV u2 (w.heap.size+1) L0d/\CV u2 bd (DE (dn 0) (.slice s2 (cc i k).length c2))/\L<=u2.heap.size/\Bw w u2:=⟨by rw[hex];exact hO1,D0,D4,D6,hL1,HBt⟩
       clear hO1 D0 D4 D6 HBt hL1 hex
       replace hjn:=Hid.on hjn
       go_upto_region 16 with fail
       obtain⟨hO,C0,C4,C6,hLw,HBr⟩:=hjn.out
       obtain⟨hlb,hbx,co3,zs3,ev,hmc,hzl,Cr⟩:=hO.row Z1
       rw[ev] at C6
       clear hO hjn ev
       obtain⟨wx,rfl⟩:=Zr u2
       obtain⟨b3,rfl⟩:=Zr b2
      all_goals
       have kk0:=Nat.lt_of_lt_of_le hL0 hLw
       have kk4:=Nat.lt_of_lt_of_le hL4 hLw
       have kk6:=Nat.lt_of_lt_of_le hL6 hLw
       have hY1:=Hid.on (hY k hkj)
       have hRx:=Hid.on (hNt.at k hkj)
       have hgy:=hNg.resolve_left Z1
       have hM1:=hM.out i hj k hkj
       have hXL:(flN ((ex i k).take k)).length=4*k:=by rw[Xf,List.length_take];omega
       rw[flN_mid _ k hkx,List.append_assoc] at Cr
       have hst:=fun z=>flN_set (ex i k) k z hkx
       obtain⟨y,ey⟩:=Z3 ((ex i k).getD k 0)
       obtain⟨x,exx⟩:=Z3 ((ns i).getD k 0)
       rw[ey,exx] at hM1 hnx
       rw[ey] at Cr
       rw[exx] at hRx
       obtain⟨z,ez⟩:=Z3 (y*x%p)
       rw[ez] at hM1 hnx
       replace hst:=hst z
       have hl4:(flN ((ex i k).set k z)).length=(ex i k).length*4:=by rw[Xf,List.length_set];omega
       rw[hst] at hl4
       clear ey exx ez
       obtain⟨X,eX⟩:=Z3 (flN ((ex i k).take k))
       obtain⟨Z,eZ⟩:=Z3 (flN ((ex i k).drop (k+1)))
       rw[eX] at hXL hst hl4 Cr
       rw[eZ] at hst hl4 Cr
       clear eX eZ
       have hM1:=Hid.on hM1
       have hXL:=Hid.on hXL
       replace hst:=Hid.on hst
       replace hl4:=Hid.on hl4
       replace hnx:=Hid.on hnx
       have K9_3:Bk w.heap.size wx [(false,w.heap.size,GE p q g h),(true,w.heap.size+1,L0d),(true,bd,DE (dn 0) (.slice (some ⟨b3,0,none⟩) (ex i k).length co3)),(true,b3,X++LN y++(Z++zs3))]:=⟨.c kk0 C0<| .o kk4 Z1 C4<| .o kk6 Z1 C6<| .o hbx Z1 Cr<|trivial,by simp<;>omega⟩
       go_upto_region 16 with fail
       refine Rd K9_3 HBr [.no,.no,.no,.all 23 (X++LN z++(Z++zs3))] [] (cG 0 63 [.pointer (some ⟨bd,1,none⟩),.slice (some ⟨b3,0,none⟩) (ex i k).length co3,iI (k:Int),.pointer (some ⟨bd,1,none⟩),.slice (some ⟨b3,0,none⟩) (ex i k).length co3,iI (k:Int),.pointer (some ⟨b3,4*k,none⟩),NV y,.slice sl n cap,iI (i:Int),.pointer (some ⟨gb,go+2*i,none⟩),.pointer (some ⟨gb,go+2*i+1,none⟩),.slice (sy i) (ns i).length (cy i),iI (k:Int),.pointer (some ⟨gy i,oy i+4*k,none⟩),NV x,.pointer (some ⟨w.heap.size,0,none⟩),NV p,.tuple #[NV z,iI 0]] [(19,62,.tuple #[NV z,iI 0]),(20,82,NV z),(21,83,iI 0),(22,84,.pointer (some ⟨b3,4*k,none⟩))]) [(23,7)] [] [] (Od8 (g_fd (fdD1 _)) (g_lc 2 1 lSN) g_mv (g_fd (fdD1 _)) (g_lc 2 1 lSN) g_mv (g_ix (ixZ _ _ _ k hkx)) (g_lR 3 (4*k) (cs:=LN y) (mid_at hXL.out) uN iN)<|Od8 g_mv g_mv (g_ix hX.out) (g_fd (fdD1o _ _)) (V9 gb (go+2*i+1) lSN hc1.out hg) g_mv (g_ix hY1.out) (g_lf hRx.out hgy uN iN)<|Oc8 (g_fd (fdG0 _)) (g_lo 0 0 uN iN) (g_cl ent_C1 hM1.out) g_mv g_ex g_ex (g_ix (ixZ _ _ _ k hkx)) (g_sm 3 (4*k) X (LN y) (Z++zs3) (post:=LN z) (hxc:=hXL.out) iN)) fun u10 HB10 _ K10=>?_
       simp only[sQ] at K10⊢
       go_upto_region 13 with fail
       refine Rp K10 HB10 [] [] [(0,49,iI (k:Int)),(1,50,iI ((k+1:Nat):Int)),(2,8,iI ((k+1:Nat):Int))] [(2,0)] [(2,8)] [] (Oc3 g_mv (g_bn (fun uZ=>Zu _ _ (k:Int) 1 ((k+1:Nat):Int) uZ Z1 Z1 Z1)) g_as) fun u11 HB11 _ K11=>?_
       simp only[sQ] at K11⊢
       go_wp2
       refine⟨⟨k+1,b3,_,Z1,rfl,by rw[hnx.out,hst.out,List.length_set];exact⟨hl4.out,.inr ⟨hlb,co3,zs3,rfl,(K11.lt 3),hmc,hzl,by rw[List.append_assoc];exact(K11.cv 3)⟩⟩,(K11.cv 0),(K11.cv 1),(K11.cv 2),by have:=(K11.lt 3);omega,HB11⟩,?_⟩
       simp[intOf]<;>omega
     ·have hlk:decide ((k:Int)<((ns i).length:Int))=false:=by simp;omega
      have hke:k=(ns i).length:=Z1
      rw[hke,<-hcn.out i hj] at hO
      rw[hke,<-hcn.out i hj] at C6
      have K7_2:=Bk.nil (wq.heap.size) wq
      go_upto_region 12 with fail
      refine Rn K7_2 HBo (cG 0 41 [iI (k:Int),.slice sl n cap,iI (i:Int),.pointer (some ⟨gb,go+2*i,none⟩),.pointer (some ⟨gb,go+2*i+1,none⟩),.slice (sy i) (ns i).length (cy i),iI ((ns i).length:Int),.bool false] []) (Oc8 g_mv g_mv g_mv (g_ix hX.out) (g_fd (fdD1o _ _)) (V9 gb (go+2*i+1) lSN hcq.out hgw) (g_ln Tryz.underlying31) (g_bn (fun uZ=>Za _ _ (k:Int) ((ns i).length:Int) _ uZ hlk))) fun u8 HB8 sz8 K8=>?_
      simp only[sQ] at K8⊢
      go_upto_region 8 with fail
      refine Rp K8 HB8 [] [] [(0,31,iI (i:Int)),(1,32,iI ((i+1:Nat):Int)),(2,7,iI ((i+1:Nat):Int))] [(2,0)] [(2,7)] [] (Oc3 g_mv (g_bn (fun uZ=>Zu _ _ (i:Int) 1 ((i+1:Nat):Int) uZ Z1 Z1 Z1)) g_as) fun u9 HB9 sz9 K9=>?_
      simp only[sQ] at K9⊢
      go_wp2
      refine⟨⟨i+1,b2,_,Z1,rfl,hall',hO.stab HB9,C0.below HB9 kk0,C4.below HB9 kk4,C6.below HB9 kk6,Nat.le_trans hLw HB9.size,Z7 HBr HB9⟩,?_⟩
      simp[intOf]<;>omega
  ·have hl: ¬(i:Int)<(n:Int):=Z1
   obtain⟨rfl,rfl⟩:=hye.out (fun k hk=>hall.out k Z1)
   have hin:Hid (i=n):=by show i=n;omega
   have hN:NL ((wo.setCell ⟨w.heap.size+1,0,none⟩ (iI (dn 0))).setCell ⟨w.heap.size+1,1,none⟩ (.slice so (cs i).length co)) (.slice so (cs i).length co) (cs i):=((hO.set hL4).set hL4).nl
   have d0:=(C6 0 _ rfl).1
   have d1:=(C6 1 _ rfl).1
   have z0:=C4 0 _ rfl
   have z1:=C4 1 _ rfl
   have hk:=Vp (v0:=iI (dn 0)) (v1:= .slice so (cs i).length co) C4
   have k0:=(hk 0 _ rfl).1
   have k1:=(hk 1 _ rfl).1
   have hN:=Hid.on hN
   go_wp2
   exact bodyPost_ret (v:= .tuple #[DX (dn 0) (.slice so (cs i).length co),iI 0]) (by simp[results,Tryz.results7,go_sem,k0,k1]) rfl ⟨_,rfl,by first | (rw[<-hin.out];exact hN.out) | (rw[if_pos rfl,<-hin.out];exact hN.out),Vq HBr Z1⟩
def NLq(ns:List Int)(u:World)(v:Value):Prop:=NL u v ns
theorem NLq.stab{ns:List Int}{u u2:World}{x:Value}(hB:Bw u u2)(h:NLq ns u x):NLq ns u2 x:=NL.up h hB
def faE(q:Int)(ns:List Int):Int:=if ns.length=0 then 2 else if alG q ns then 0 else 100
theorem alG_iff{q:Int}{ns:List Int}:alG q ns=true↔ ∀i,i<ns.length->gI q (dsN q ns i ns.length%q)=1:=decide_eq_true_iff
def GdV(q:Int)(ns vs:List Int):Prop:=vs.length=ns.length/\ ∀i,i<ns.length->gI q (dsN q ns i ns.length%q)=1->IsInv (dsN q ns i ns.length%q) q (vs.getD i 0)
theorem frS_len(q t:Int)(ns vs:List Int):(frS q t ns vs).length=ns.length:=Wy _ _
theorem xFac(q t:Int)(ns vs:List Int)(v:Value)(w:World)(hq:In q)(hq2:2<=q)(ht:In t)(hv:NL w v ns)(hns: ∀z∈ns,In z)(hl:ns.length<=256)(hg:GdV q ns vs):Calls Tryz.prog 83 #[NV q,NV t,v] w fun e u=> ∃y,e= .returned (.tuple #[y,iI (faE q ns)])/\FRw w.heap.size (faE q ns) (frS q t ns vs) u y/\Bw w u:=by
 obtain⟨sl,gb,go,cap,rfl,h2,h3,h4,h5,h6⟩:=hv
 have hR:=fun u=>xRight q u hq
 rw[decide_eq_true hq2] at hR
 have hM:=fun u=>xMany ns.length u hl
 unfold faE
 by_cases c:ns.length=0
 ·rw[if_pos c]
  rw[decide_eq_false Z1] at hM
  exact(xfac_n q t sl cap ns w hR hM).mono fun e u h=>⟨_,h.1,⟨⟨_,_,_,rfl⟩,fun e=>absurd e Z2⟩,h.2⟩
 ·rw[if_neg c]
  rw[decide_eq_true Z1] at hM
  refine xfac_core q t _ sl gb go cap ns vs (frS q t ns vs) w hq Z1 ht hR hM (NL.ix (u:=w) h4) h5 h6 (Yb hns) Z1 (frS_len _ _ _ _) (fun i hi=>by rw[frS,W0 hi]) hg.2 (fun i hi hb=>?_) (fun h=>?_)
  ·rw[if_neg (fun e=>hb (alG_iff.1 e i hi))]
  ·rw[if_pos (alG_iff.2 h)]
def cbX(q t:Int)(vs:List Int)(ps:List (Int×Int)):Int:=if faE q (ps.map Prod.fst)=0 then smN q (fac q t (ps.map Prod.fst) vs) ps ps.length else 0
theorem ixR'{ps:List (Int×Int)}{sl:Option Addr}{gb go cap:Nat}(h:ps=[]\/sl=some ⟨gb,go,none⟩): ∀j,j<ps.length-> ∀W,(Instr.indexAt 108 (.slice sl ps.length cap) (iI j)).run Tryz.prog W= .ok (.pointer (some ⟨gb,go+8*j,none⟩)) W:=fun j hj W=>by
 have e:=h.resolve_left (fun e=>by subst e;simp at hj)
 subst e
 exact ixR gb go ps.length cap j hj W
theorem getP{ps:List (Int×Int)}{k:Nat}(h:k<ps.length):ps.getD k (0,0)∈ps:=by simp[List.getElem?_eq_getElem h]
theorem xCmb(q t:Int)(vs:List Int)(ps:List (Int×Int))(v:Value)(w:World)(hq:In q)(hq2:2<=q)(ht:In t)(hv:PtL w v ps)(hps: ∀p∈ps,In p.1/\In p.2)(hl:ps.length<=256)(hg:GdV q (ps.map Prod.fst) vs):CC 60 #[NV q,NV t,v] w (.tuple #[NV (cbX q t vs ps),iI (faE q (ps.map Prod.fst))]):=by
 obtain⟨sl,gb,go,cap,rfl,h2,h3,h4,h5,h6⟩:=hv
 have hxl:(ps.map Prod.fst).length=ps.length:=by simp
 have hxs: ∀z∈ps.map Prod.fst,In z:=fun z hz=>by
  obtain⟨p,hp,rfl⟩:=List.mem_map.1 hz
  exact(hps p hp).1
 have hF:=fun u v (_:Bw w u) (hv:NL u v (ps.map Prod.fst))=>xFac q t _ vs v u hq hq2 ht hv hxs Z1 hg
 have hget: ∀i,i<ps.length->(ps.map Prod.fst).getD i 0=(ps.getD i (0,0)).1:=fun i hi=>by simp[List.getElem?_map,List.getElem?_eq_getElem hi]
 have hfe:frS q t (ps.map Prod.fst) vs=fac q t (ps.map Prod.fst) vs:=frS_fac Z1 hg.1
 rw[hfe] at hF
 have hfl:(fac q t (ps.map Prod.fst) vs).length=ps.length:=by rw[fac_len,hxl]
 exact xcmb q t _ _ sl gb go cap ps (ps.map Prod.fst) (fac q t (ps.map Prod.fst) vs) w (fun e=>if_neg (by simpa using e)) (fun e=>if_pos (by simpa using e)) hfl (fun k hk=>by rw[hfl] at hk;have:=fac_rng (q:=q) Z1 (t:=t) (xs:=ps.map Prod.fst) (vs:=vs) (i:=k) Z1;exact⟨this.1,by have:=hq.2;omega⟩) (fun k hk=>(hps _ (getP hk)).2) hq Z1 (ixR' h4) h5 h6 Z1 hxl hget hF
def oE(p q:Int)(l:List (Int×Int×Int)):Int:=if gOk p q then (if ndsB l then faE q (l.map (·.1)) else 2) else 90
def oX(p q:Int)(vs:List Int)(l:List (Int×Int×Int))(ps:List (Int×Int)):Int:=if oE p q l=0 then cbX q 0 vs ps else 0
theorem nd_In{l:List (Int×Int×Int)}(hn:ndsB l=true)(hl: ∀x∈l,In x.2.1/\In x.2.2): ∀x∈l,(1<=x.1/\x.1<=16)/\In x.2.1/\In x.2.2:=fun x hx=>⟨ndB_iff.1 (List.all_eq_true.1 hn x hx),hl x hx⟩
theorem xOpenK(p q g h:Int)(vs:List Int)(l:List (Int×Int×Int))(v:Value)(w:World)(hp:In p)(hq:In q)(hv:ShL w v l)(hl: ∀x∈l,In x.2.1/\In x.2.2)(hn:l.length<=16)(c1:gOk p q)(hg:GdV q (l.map (·.1)) vs):CC 34 #[GX p q g h,v] w (.tuple #[NV (oX p q vs l (opS l)),NV (oX p q vs l (opT l)),iI (oE p q l)]):=by
 obtain⟨sl,gb,go,cap,rfl,h2,h3,h4,h5,h6⟩:=hv
 have hC:=fun u=>Vz p q g h u hp hq c1
 unfold oX
 have hq3:=c1.q3
 have e1:oE p q l=if ndsB l then faE q (l.map (·.1)) else 2:=by rw[oE,if_pos c1]
 refine xopn_k p q g h (cbX q 0 vs (opS l)) (cbX q 0 vs (opT l)) (faE q (l.map (·.1))) (faE q (l.map (·.1))) _ _ _ sl gb go cap l w hC (sh_ix h4) h5 (sh_pt h6) Z1 (fun u c o z hB hc ho hcv hnd=>?_) (fun u c o z hB hc ho hcv hnd=>?_) (fun k hk hb=>?_) (fun hnd he=>?_) (fun hnd he=>?_)
 ·have hin:=op_In (nd_In (nds_get.2 hnd) hl)
  have h:=xCmb q 0 vs (opS l) _ u hq Z1 In_0 (pl_rw hc hcv op_len.1 ho) hin.1 (by rw[op_len.1];omega) (by rw[op_fst.1];exact hg)
  rw[NV_0,op_fst.1] at h;exact h
 ·have hin:=op_In (nd_In (nds_get.2 hnd) hl)
  have h:=xCmb q 0 vs (opT l) _ u hq Z1 In_0 (pl_rw hc hcv op_len.2 ho) hin.2 (by rw[op_len.2];omega) (by rw[op_fst.2];exact hg)
  rw[NV_0,op_fst.2] at h;exact h
 ·have c3:ndsB l=false:=by
   rw[Bool.eq_false_iff];intro e
   rw[nds_get.1 e k hk] at hb;cases hb
  have e0:oE p q l=2:=by rw[e1,c3];rfl
  rw[e0,if_neg Z2,if_neg Z2];exact⟨rfl,rfl,rfl⟩
 ·rw[nds_get.2 hnd,if_pos rfl] at e1
  have he: ¬faE q (l.map (·.1))=0:=by simpa using he
  rw[e1,if_neg he,if_neg he];exact⟨rfl,rfl,rfl⟩
 ·rw[nds_get.2 hnd,if_pos rfl] at e1
  have he:faE q (l.map (·.1))=0:=by simpa using he
  rw[e1,he,if_pos rfl,if_pos rfl];exact⟨rfl,rfl,rfl⟩
def exC(c:List Int)(k:Nat):List Int:=if k=c.length then c++[1] else c
def inC(p:Int)(ns c:List Int):Nat->List Int
 | 0=>c
 | k+1=>(exC (inC p ns c k) k).set k ((exC (inC p ns c k) k).getD k 0*ns.getD k 0%p)
abbrev dN(ds:List (Int×List Int))(i:Nat):List Int:=(ds.getD i (0,[])).2
def csC(p:Int)(ds:List (Int×List Int)):Nat->List Int
 | 0=>[]
 | i+1=>inC p (dN ds i) (csC p ds i) (dN ds i).length
def mxC(ds:List (Int×List Int)):Nat->Nat
 | 0=>0
 | i+1=>max (mxC ds i) (dN ds i).length
def aaC(ds:List (Int×List Int))(k:Nat):Nat->List Int
 | 0=>[]
 | i+1=>if k<(dN ds i).length then aaC ds k i++[(dN ds i).getD k 0] else aaC ds k i
theorem exC_len{c:List Int}{k:Nat}(h:k<=c.length):(exC c k).length=max c.length (k+1):=by
 unfold exC;split
 ·rw[List.length_append];simp;omega
 ·omega
theorem exC_get(c:List Int)(k j:Nat):(exC c k).getD j 1=c.getD j 1:=by
 unfold exC;split
 ·rw[List.getD_eq_getElem?_getD,List.getD_eq_getElem?_getD]
  by_cases h:j<c.length
  ·rw[List.getElem?_append_left h]
  ·rw[List.getElem?_append_right Z1,List.getElem?_eq_none (l:=c) Z1]
   by_cases h2:j=c.length
   ·subst h2;simp
   ·rw[List.getElem?_eq_none (by simp;omega)]
 ·rfl
theorem U2(p:Int)(ns c:List Int): ∀k,(inC p ns c k).length=max c.length k
 | 0=>by rw[inC];omega
 | k+1=>by rw[inC,List.length_set,exC_len (by rw[U2 p ns c k];omega),U2 p ns c k];omega
theorem getD_lt{l:List Int}{k:Nat}(h:k<l.length)(a b:Int):l.getD k a=l.getD k b:=by
 rw[List.getD_eq_getElem?_getD,List.getD_eq_getElem?_getD,List.getElem?_eq_getElem h];rfl
theorem inC_get(p:Int)(ns c:List Int)(j:Nat): ∀k,(inC p ns c k).getD j 1=if j<k then c.getD j 1*ns.getD j 0%p else c.getD j 1
 | 0=>by rw[inC,if_neg Z1]
 | k+1=>by
  have hl:=U2 p ns c k
  have hx:=exC_len (c:=inC p ns c k) (k:=k) Z1
  have hi:=inC_get p ns c j k
  rw[inC,List.getD_eq_getElem?_getD]
  by_cases h:j=k
  ·subst h
   rw[List.getElem?_set_self Z1,if_pos Z1,getD_lt Z1 0 1,exC_get,hi,if_neg Z1];rfl
  ·rw[List.getElem?_set_ne Z1,<-List.getD_eq_getElem?_getD,exC_get,hi]
   by_cases h2:j<k
   ·rw[if_pos h2,if_pos Z1]
   ·rw[if_neg h2,if_neg Z1]
theorem Uw(p:Int)(ds:List (Int×List Int)): ∀i,(csC p ds i).length=mxC ds i
 | 0=>rfl
 | i+1=>by rw[csC,mxC,U2,Uw p ds i]
theorem gat_app(op:Int->Int->Int)(x:Int)(l:List Int)(a:Int):gat op x (l++[a]) (l++[a]).length=op (gat op x l l.length) a:=by
 have key: ∀k,k<=l.length->gat op x (l++[a]) k=gat op x l k:=by
  intro k
  induction k with
  | zero=>intro _;rfl
  | succ k ih=>
   intro h
   rw[gat,gat,ih Z1,List.getD_eq_getElem?_getD,List.getD_eq_getElem?_getD,List.getElem?_append_left Z1]
 rw[List.length_append,List.length_singleton,gat,key _ (Nat.le_refl _),List.getD_eq_getElem?_getD,List.getElem?_append_right (Nat.le_refl _)]
 simp
theorem csC_get{p:Int}(hp:2<=p)(ds:List (Int×List Int))(j:Nat): ∀i,(csC p ds i).getD j 1=gat (fun a b=>(a*b)%p) (1%p) (aaC ds j i) (aaC ds j i).length
 | 0=>by rw[csC,aaC];simp[gat,Int.emod_eq_of_lt (show (0:Int)<=1 by omega) (show 1<p by omega)]
 | i+1=>by
  rw[csC,inC_get,csC_get hp ds j i,aaC]
  by_cases h:j<(dN ds i).length
  ·rw[if_pos h,if_pos h,gat_app]
  ·rw[if_neg h,if_neg h]
theorem aaC_mem{ds:List (Int×List Int)}{k:Nat}{q:Int->Prop}(h: ∀i,i<ds.length-> ∀z∈dN ds i,q z): ∀i,i<=ds.length-> ∀z∈aaC ds k i,q z
 | 0,_=>fun z hz=>by simp[aaC] at hz
 | i+1,hi=>fun z hz=>by
  rw[aaC] at hz
  split at hz
  ·rename_i hk
   rcases List.mem_append.1 hz with hz | hz
   ·exact aaC_mem h i Z1 z hz
   ·rw[List.mem_singleton.1 hz]
    exact h i Z1 _ (by rw[List.getD_eq_getElem?_getD,List.getElem?_eq_getElem hk];exact List.getElem_mem hk)
  ·exact aaC_mem h i Z1 z hz
theorem aaC_len(ds:List (Int×List Int))(k:Nat): ∀i,(aaC ds k i).length<=i
 | 0=>Nat.le_refl _
 | i+1=>by
  have:=aaC_len ds k i
  rw[aaC];split
  ·rw[List.length_append];simp;omega
  ·omega
def alD(p q:Int)(ds:List (Int×List Int)):Prop:= ∀i,i<ds.length->dcE p q (ds.getD i (0,[])).1 (dN ds i)=0
theorem alD.mem{p q:Int}{ds:List (Int×List Int)}(h:alD p q ds)(i:Nat)(hi:i<ds.length):gOk p q/\1<=(dN ds i).length/\(dN ds i).length<=6/\ ∀z∈dN ds i,isB p q z=true:=by
 obtain⟨h1,_,h3,h4,h5⟩:=dcE_0 (h i hi)
 exact⟨h1,h3,h4,List.all_eq_true.1 h5⟩
theorem mxC_le{ds:List (Int×List Int)}{m:Nat}(h: ∀i,i<ds.length->(dN ds i).length<=m): ∀i,i<=ds.length->mxC ds i<=m
 | 0,_=>Nat.zero_le _
 | i+1,hi=>by
  have:=mxC_le h i Z1
  have:=h i Z1
  rw[mxC];omega
theorem alD.mlB{p q:Int}{ds:List (Int×List Int)}(h:alD p q ds)(hg:gOk p q)(k i:Nat)(hi:i<=ds.length):mlB p q (aaC ds k i)=true:=by
 rw[Go.Proofs.YtoffgfhilkpdpaaGreatDoor.mlB,decide_eq_true hg,Bool.true_and]
 exact List.all_eq_true.2 (aaC_mem (fun i hi=>(h.mem i hi).2.2.2) i hi)
theorem csC_is{p q:Int}{ds:List (Int×List Int)}(h:alD p q ds)(hg:gOk p q)(k:Nat)(hk:k<mxC ds ds.length):(csC p ds ds.length).getD k 0=mlX p q (aaC ds k ds.length):=by
 have hp:=hg.2
 rw[getD_lt (by rw[Uw];exact hk) 0 1,csC_get Z1,mlX,if_pos (h.mlB hg k _ (Nat.le_refl _))]
theorem jTold(v:Value)(es os:List Int)(T:TypeId)(w:World)(hv:EJN w v es)(hn:os.length<=1000):Calls Tryz.prog 15 #[v,.slice (some ⟨w.heap.size,0,none⟩) os.length os.length] (w.alloc (.cells (os.map (Value.int .i64)).toArray T)) fun r u=>r= .returned (iI (tdE es os))/\Bw w u:=by
 have hB:Bw w (w.alloc (.cells (os.map (Value.int .i64)).toArray T)):=Z5 (Zf w) _
 refine(told_core v es os _ w.heap.size os.length _ (EJN.up hB hv) (by simp) (fun i hi=>?_) hn rfl).mono fun r u ⟨e1,e2⟩=>⟨e1,Z7 hB e2⟩
 exact(CV.new w (os.map (Value.int .i64)) T i _ (by rw[List.getElem?_map,List.getElem?_eq_getElem hi,List.getD_eq_getElem?_getD,List.getElem?_eq_getElem hi];rfl)).1
theorem ge_0{u:World}{b:Nat}{p q g h:Int}(hc:CV u b (GE p q g h)):u.cell? ⟨b,0,none⟩=some (iU (D0 p))/\u.cell? ⟨b,1,none⟩=some (iU (D1 p))/\u.cell? ⟨b,2,none⟩=some (iU (D2 p))/\u.cell? ⟨b,3,none⟩=some (iU (D3 p))/\u.cell? ⟨b,4,none⟩=some (iU (D0 q))/\u.cell? ⟨b,5,none⟩=some (iU (D1 q))/\u.cell? ⟨b,6,none⟩=some (iU (D2 q))/\u.cell? ⟨b,7,none⟩=some (iU (D3 q))/\u.cell? ⟨b,8,none⟩=some (iU (D0 g))/\u.cell? ⟨b,9,none⟩=some (iU (D1 g))/\u.cell? ⟨b,10,none⟩=some (iU (D2 g))/\u.cell? ⟨b,11,none⟩=some (iU (D3 g))/\u.cell? ⟨b,12,none⟩=some (iU (D0 h))/\u.cell? ⟨b,13,none⟩=some (iU (D1 h))/\u.cell? ⟨b,14,none⟩=some (iU (D2 h))/\u.cell? ⟨b,15,none⟩=some (iU (D3 h)):=
 ⟨(hc 0 _ rfl).1,(hc 1 _ rfl).1,(hc 2 _ rfl).1,(hc 3 _ rfl).1,(hc 4 _ rfl).1,(hc 5 _ rfl).1,(hc 6 _ rfl).1,(hc 7 _ rfl).1,(hc 8 _ rfl).1,(hc 9 _ rfl).1,(hc 10 _ rfl).1,(hc 11 _ rfl).1,(hc 12 _ rfl).1,(hc 13 _ rfl).1,(hc 14 _ rfl).1,(hc 15 _ rfl).1⟩
theorem NL.sl{u:World}{y:Value}{ns:List Int}(h:NL u y ns): ∃s c,y= .slice s ns.length c:=by
 obtain⟨sl,_,_,cap,e,_⟩:=h
 exact⟨sl,cap,e⟩
theorem jsum_core(p q g h D e:Int)(sl:Option Addr)(n cap:Nat)(es cs:List Int)(w:World)(hDl:Hid (∀u,Bw w u->Calls Tryz.prog 14 #[GX p q g h,.slice sl n cap] u fun r u'=> ∃v,r= .returned v/\EJN u' v es/\Bw u u'))(hTo:Hid (es=[]->e=0/\ ∀u,Bw w u->Calls Tryz.prog 16 #[GX p q g h,.slice sl n cap] u fun r u'=> ∃y,r= .returned (DX D y)/\PRw u.heap.size cs u' y/\Bw u u'))(hno:Hid (es≠[]->tdE es [90,2,110]=e/\D=0/\cs=[])):
 Calls Tryz.prog 6 #[GX p q g h,.slice sl n cap] w fun r u=> ∃y,r= .returned (.tuple #[DX D y,iI e])/\NL u y cs/\Bw w u:=by
 go_enter Tryz.func6,Tryz.ntmps6
 go_upto_region 1 with fail
 generalize hW:World.alloc (World.alloc w _) _=v0
 have hz0:w.heap.size+1<v0.heap.size:=by rw[<-hW];simp
 have hB0:Bw w v0:=by rw[<-hW];exact Z5 (Z5 (Zf w) _) _
 have hC0:CV v0 w.heap.size (GE p q g h):=by rw[<-hW];exact(CV.new w (GE p q g h) 26).below (Z5 (Zf _) _) (by simp)
 have hC1:CV v0 (w.heap.size+1) L0d:=by rw[<-hW];exact CVn L0d 33 (by simp)
 clear hW
 have hC1:=Hid.on hC1
 have hg0:=ge_0 hC0
 have hC0:=Hid.on hC0
 go_cut [6] (fun s6 wx=>Hid (EJN wx s6 es)/\Bw v0 wx)
 case first=>
  go_wp2_with (go_at_call 14;refine(hDl.out _ hB0).mono ?_;clear hDl;rintro r ua ⟨v,rfl,hv,hBa⟩;replace hv:=Hid.on hv)
  go_meet
  exact⟨hv.out,hBa⟩
 case rest=>
 obtain⟨hv,hBv⟩:=hcut
 clear hg0
 have hg0:=ge_0 (hC0.out.below hBv Z1)
 have hC1:=Hid.on (hC1.out.below hBv hz0)
 have hz1:w.heap.size+1<wc.heap.size:=Nat.lt_of_lt_of_le hz0 hBv.size
 have hBw:=Z7 hB0 hBv
 clear hC0 hBv hDl hz0
 by_cases hes:es=[]
 ·obtain rfl:=hv.out.no hes
  obtain⟨rfl,hT⟩:=hTo.out hes
  replace hT:=Hid.on (hT wc hBw)
  clear hv hno hTo hes
  go_wp2_with (go_at_call 16;refine hT.out.mono ?_;clear hT;rintro r ub ⟨y,rfl,hy,hBb⟩;obtain⟨b,rfl,hlo,hlt,hcv⟩:=hy;have hC2:=Hid.on (hC1.out.below hBb hz1);have z0:=hC2.out 0 _ rfl;have z1:=hC2.out 1 _ rfl;clear hC1 hg0;have hk:=Vp (v0:=iI D) (v1:= .slice (some ⟨b,0,none⟩) cs.length cs.length) hC2.out;have k0:=(hk 0 _ rfl).1;have k1:=(hk 1 _ rfl).1;clear hk;replace hcv:=Hid.on hcv)
  exact bodyPost_ret (v:= .tuple #[DX D (.slice (some ⟨b,0,none⟩) cs.length cs.length),iI 0]) (by simp[results,Tryz.results6,go_sem,k0,k1]) rfl ⟨_,rfl,PRw.nl (lo:=w.heap.size) ⟨b,rfl,Z1,by simpa using hlt,(hcv.out.oset ⟨w.heap.size+1,0,none⟩ _ (by show b≠w.heap.size+1;omega)).oset ⟨w.heap.size+1,1,none⟩ _ (by show b≠w.heap.size+1;omega)⟩,Vq (Z7 hBw hBb) Z1⟩
 ·obtain⟨h1,rfl,rfl⟩:=hno.out hes
  obtain⟨T,x,rfl⟩:=hv.out.yes hes
  have hT:=jTold _ es [90,2,110] 34 wc hv.out Z2
  rw[h1] at hT
  replace hT:=Hid.on hT
  clear hv hno hTo hes hg0
  go_wp2_with (go_at_call 15;refine hT.out.mono ?_;clear hT;rintro r ub ⟨rfl,hBb⟩;have hC2:=Hid.on (hC1.out.below hBb hz1);have z0:=hC2.out 0 _ rfl;have z1:=hC2.out 1 _ rfl;clear hC1;have hk:=Vp (v0:=iI 0) (v1:= .slice none 0 0) hC2.out;have k0:=(hk 0 _ rfl).1;have k1:=(hk 1 _ rfl).1;clear hk)
  exact bodyPost_ret (v:= .tuple #[DX 0 (.slice none 0 0),iI e]) (by simp[results,Tryz.results6,go_sem,k0,k1]) rfl ⟨_,rfl,NL.nilI _,Vq (Z7 hBw hBb) Z1⟩
def smE(p q:Int)(ds:List (Int×List Int)):Int:=if gOk p q then (if 1<=ds.length/\ds.length<=16 then (if fdE p q ds=[] then 0 else 110) else 2) else 90
def smD(p q:Int)(ds:List (Int×List Int)):Int:=if smE p q ds=0 then (ds.getD 0 (0,[])).1 else 0
def smC(p q:Int)(ds:List (Int×List Int)):List Int:=if smE p q ds=0 then csC p ds ds.length else []
theorem dcE_or{p q d:Int}{ns:List Int}(hg:gOk p q):dcE p q d ns=0\/dcE p q d ns=110:=by
 unfold dcE;rw[if_pos hg];split
 ·exact .inl rfl
 ·exact .inr rfl
theorem fdE_or{p q:Int}(hg:gOk p q): ∀ds:List (Int×List Int),fdE p q ds=[]\/fdE p q ds=[110]
 | []=>.inl rfl
 | d::l=>by
  rw[fdE]
  rcases dcE_or (d:=d.1) (ns:=d.2) hg with h | h
  ·rw[h,if_neg Z2];exact fdE_or hg l
  ·rw[h,if_pos Z2];exact .inr rfl
theorem fdE_al{p q:Int}: ∀{ds:List (Int×List Int)},fdE p q ds=[]↔ ∀d∈ds,dcE p q d.1 d.2=0
 | []=>by simp[fdE]
 | d::l=>by
  rw[fdE]
  by_cases h:dcE p q d.1 d.2=0
  ·rw[if_neg (fun e=>e h),fdE_al];simp[h]
  ·rw[if_pos h];simp[h]
theorem fdE_alD{p q:Int}{ds:List (Int×List Int)}(h:fdE p q ds=[]):alD p q ds:=fun i hi=>fdE_al.1 h _ (by rw[List.getD_eq_getElem?_getD,List.getElem?_eq_getElem hi];exact List.getElem_mem hi)
theorem dgE_no{p q:Int}{ds:List (Int×List Int)}(h:dgE p q ds=[]):smE p q ds=0/\gOk p q/\1<=ds.length/\ds.length<=16/\fdE p q ds=[]:=by
 unfold dgE at h
 by_cases c:hdE p q ds.length=[]
 ·rw[if_pos c] at h
  obtain⟨h1,h2,h3⟩:=hd_0 c
  exact⟨by rw[smE,if_pos h1,if_pos ⟨h2,h3⟩,if_pos h],h1,h2,h3,h⟩
 ·rw[if_neg c] at h;exact absurd h c
theorem dgE_td{p q:Int}{ds:List (Int×List Int)}(h:dgE p q ds≠[]):tdE (dgE p q ds) [90,2,110]=smE p q ds/\smE p q ds≠0:=by
 unfold dgE at h⊢
 by_cases c1:gOk p q
 ·by_cases c2:1<=ds.length/\ds.length<=16
  ·have c:hdE p q ds.length=[]:=by
    unfold hdE
    rw[decide_eq_true c1,decide_eq_false Z1,decide_eq_true Z1];rfl
   rw[if_pos c] at h⊢
   have e:=(fdE_or c1 ds).resolve_left h
   rw[smE,if_pos c1,if_pos c2,if_neg h,e]
   exact⟨Z2,Z2⟩
  ·rw[smE,if_pos c1,if_neg c2]
   refine⟨?_,Z2⟩
   unfold hdE
   rw[decide_eq_true c1]
   by_cases c3:(ds.length:Int)<1
   ·rw[decide_eq_true c3,decide_eq_true Z1,if_neg Z2];decide
   ·rw[decide_eq_false c3,decide_eq_false Z1,if_neg Z2];decide
 ·rw[smE,if_neg c1]
  refine⟨?_,Z2⟩
  unfold hdE
  rw[decide_eq_false c1,if_neg (by simp[bE])]
  simp[bE,tdE]
theorem jTogether(p q g h:Int)(ds:List (Int×List Int))(v:Value)(w:World)(hG:GP w)(hp:In p)(hq:In q)(hv:DL w v ds)(hg:gOk p q)(h1:1<=ds.length)(hl:ds.length<=16)(ha:alD p q ds)(hIn: ∀i,i<ds.length-> ∀z∈dN ds i,In z):Calls Tryz.prog 16 #[GX p q g h,v] w fun r u=> ∃y,r= .returned (DX (ds.getD 0 (0,[])).1 y)/\PRw w.heap.size (csC p ds ds.length) u y/\Bw w u:=by
 obtain⟨sl,gb,go,cap,sy,cy,gy,oy,rfl,h2,h3,h4,h5⟩:=hv
 have hm6:=mxC_le (fun i hi=>(ha.mem i hi).2.2.1) ds.length (Nat.le_refl _)
 refine together_core p q g h sl gb go ds.length cap (mxC ds ds.length) _ sy _ (fun k=>aaC ds k ds.length) cy gy oy (mxC ds) _ w h5 Z1 Z1 rfl (fun j hj=>?_) rfl Z1 (Uw _ _ _) (fun k hk u hB=>?_) (fun k hk u y hB hy=>?_)
 ·rw[mxC];simp only[dN];omega
 ·refine(allAt_core sl gb go ds.length cap k _ sy _ cy gy oy (aaC ds k) u (h5.up hB) Z1 Z1 rfl (aaC_len ds k) (fun j hj=>rfl)).mono ?_
  rintro e u' ⟨v,rfl,⟨b,hO⟩,hB'⟩
  exact⟨v,rfl,hO.nl,hB'⟩
 ·have hc:=cMulG p q g h (aaC ds k ds.length) y u ((hG.below hB).gt) (by have:=aaC_len ds k ds.length;omega) hp hq (Yb (aaC_mem hIn ds.length (Nat.le_refl _))) hy
  rw[csC_is ha hg k hk]
  rw[mlE,if_pos (ha.mlB hg k _ (Nat.le_refl _))] at hc
  exact hc
theorem DL.in2{ds:List (Int×List Int)}(hIn: ∀d∈ds,d.2.length<=50/\ ∀z∈d.2,In z)(i:Nat)(hi:i<ds.length):(dN ds i).length<=50/\ ∀z∈dN ds i,In z:=hIn _ (by rw[List.getD_eq_getElem?_getD,List.getElem?_eq_getElem hi];exact List.getElem_mem hi)
theorem jSum(p q g h:Int)(ds:List (Int×List Int))(v:Value)(w:World)(hG:GP w)(hp:In p)(hq:In q)(hv:DL w v ds)(hl:ds.length<=1000)(hIn: ∀d∈ds,d.2.length<=50/\ ∀z∈d.2,In z):Calls Tryz.prog 6 #[GX p q g h,v] w fun r u=> ∃y,r= .returned (.tuple #[DX (smD p q ds) y,iI (smE p q ds)])/\NL u y (smC p q ds)/\Bw w u:=by
 have hv2:=hv
 obtain⟨sl,gb,go,cap,sy,cy,gy,oy,rfl,_⟩:=hv2
 refine jsum_core p q g h (smD p q ds) (smE p q ds) sl ds.length cap (dgE p q ds) _ w (fun u hB=>jDealings p q g h ds _ u (hG.below hB) hp hq (hv.up hB) hl hIn) (fun e=>?_) (fun e=>?_)
 ·obtain⟨e0,hg,h1,h16,hf⟩:=dgE_no e
  rw[smD,smC,e0,if_pos rfl,if_pos rfl]
  exact⟨rfl,fun u hB=>jTogether p q g h ds _ u (hG.below hB) hp hq (hv.up hB) hg h1 h16 (fdE_alD hf) fun i hi=>(DL.in2 hIn i hi).2⟩
 ·obtain⟨e1,e2⟩:=dgE_td e
  rw[smD,smC,if_neg e2,if_neg e2]
  exact⟨e1,rfl,rfl⟩
end Go.Proofs.YtoffgfhilkpdpaaGreatDoor
