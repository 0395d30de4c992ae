import Derived.Test.YtoffgfhilkpdpaaGreatDoorAKX
namespace Go.Proofs.YtoffgfhilkpdpaaGreatDoor
set_option linter.unusedVariables false
set_option linter.unusedSimpArgs false
set_option maxRecDepth 100000
set_option maxHeartbeats 4000000
open Go.RowKit
theorem infoRq:(Tryz.prog.info? 110).map (fun i=>(i.zero,i.size,i.bytes))=some (some (.agg #[iU 0,iU 0,iU 0,iU 0,iU 0,iU 0,iU 0,iU 0]),8,64):=by kernel_rfl
theorem bsRq0(w:World):(Instr.buildSlice 108 0 #[]).run Tryz.prog w= .ok (.slice (some ⟨w.heap.size,0,none⟩) 0 0) (w.alloc (.cells #[] 110)):=by kernel_rfl
theorem bsRq1(x y:Int)(w:World):(Instr.buildSlice 108 1 #[(0,PtX x y)]).run Tryz.prog w= .ok (.slice (some ⟨w.heap.size,0,none⟩) 1 1) (w.alloc (.cells (LN x++LN y:List Value).toArray 110)):=by kernel_rfl
theorem bsRz(x y:Int)(w:World):(Instr.buildSlice 108 1 ([0].zip [PtX x y]).toArray).run Tryz.prog w= .ok (.slice (some ⟨w.heap.size,0,none⟩) 1 1) (w.alloc (.cells (LN x++LN y:List Value).toArray 110)):=by kernel_rfl
theorem bdRp(x y:Int)(w:World):(Instr.build 110 [(0,NV x),(1,NV y)].toArray).run Tryz.prog w= .ok (PtX x y) w:=by kernel_rfl
def P1q(x y:Int)(u:World)(v:Value):Prop:= ∃b,v= .slice (some ⟨b,0,none⟩) 1 1/\b<u.heap.size/\CV u b (LN x++LN y)
theorem P1q.stab{x y:Int}{u u2:World}{v:Value}(hB:Bw u u2)(h:P1q x y u v):P1q x y u2 v:=by
 obtain⟨b,e,h1,h2⟩:=h
 exact⟨b,e,Nat.lt_of_lt_of_le h1 hB.size,h2.below hB h1⟩
theorem P1q.new(x y:Int){T:TypeId}(u:World):P1q x y (u.alloc (.cells (LN x++LN y:List Value).toArray T)) (.slice (some ⟨u.heap.size,0,none⟩) 1 1):=⟨_,rfl,by simp,CV.new u _ _⟩
theorem P1q.nw{x y:Int}(u:World)(v:Value)(h:P1q x y u v):NW 1 (LN x++LN y) u v:=by
 obtain⟨b,rfl,h1,h2⟩:=h
 exact⟨_,1,rfl,.inr ⟨_,rfl,fun j v hj=>by rw[Addr.add0];exact(h2 j v hj).1⟩⟩
theorem one_P(x y:Int): ∀v∈LN x++LN y,v.oneCell'=true:=fun v hv=>by simp at hv;rcases hv with h | h | h | h | h | h | h | h<;>(subst h;rfl)
theorem fdS1o(b o:Nat)(w:World):(Instr.fieldAt 39 (.pointer (some ⟨b,o,none⟩)) 1).run Tryz.prog w= .ok (.pointer (some ⟨b,o+1,none⟩)) w:=by go_simp
theorem fdS2o(b o:Nat)(w:World):(Instr.fieldAt 39 (.pointer (some ⟨b,o,none⟩)) 2).run Tryz.prog w= .ok (.pointer (some ⟨b,o+5,none⟩)) w:=by go_simp
theorem sh_S{w:World}{g o:Nat}{n s t:Int}(h:w.rangeAt g o (SE n s t)):w.rangeAt g (o+1) (LN s)/\w.rangeAt g (o+5) (LN t):=by
 constructor<;>intro c v hc
 ·have:=h (1+c) v (by
   match c,hc with
   | 0,hc=>exact hc
   | 1,hc=>exact hc
   | 2,hc=>exact hc
   | 3,hc=>exact hc)
  rwa [<-Nat.add_assoc] at this
 ·have:=h (5+c) v (by
   match c,hc with
   | 0,hc=>exact hc
   | 1,hc=>exact hc
   | 2,hc=>exact hc
   | 3,hc=>exact hc)
  rwa [<-Nat.add_assoc] at this
theorem fdS0o(b o:Nat)(w:World):(Instr.fieldAt 39 (.pointer (some ⟨b,o,none⟩)) 0).run Tryz.prog w= .ok (.pointer (some ⟨b,o,none⟩)) w:=by go_simp
theorem ent_Y1:EnT 60:=fun _ _=>by kernel_rfl
theorem xopn_k(p q g h a b er f ra rb re:Int)(sl:Option Addr)(gb go cap:Nat)(l:List (Int×Int×Int))(w:World)(hC:Hid (∀u,CC 17 #[GX p q g h] u (iI 0)))(hix:Hid (∀j,j<l.length-> ∀W,(Instr.indexAt 28 (.slice sl l.length cap) (iI j)).run Tryz.prog W= .ok (.pointer (some ⟨gb,go+9*j,none⟩)) W))(hg:l.length=0\/gb<w.heap.size)(hS:Hid (∀j,j<l.length->w.rangeAt gb (go+9*j) (SE (l.getD j (0,0,0)).1 (l.getD j (0,0,0)).2.1 (l.getD j (0,0,0)).2.2)))(hl0:l.length<=256)(hC1:Hid (∀(u:World) (c o:Nat) z,Bw w u->c<u.heap.size->l.length<=o->CV u c (flN (flt (opS l))++z)->(∀k,k<l.length->ndB (l.getD k (0,0,0)).1=true)->CC 60 #[NV q,A4 0 0 0 0,.slice (some ⟨c,0,none⟩) l.length o] u (.tuple #[NV a,iI er])))(hC2:Hid (∀(u:World) (c o:Nat) z,Bw w u->c<u.heap.size->l.length<=o->CV u c (flN (flt (opT l))++z)->(∀k,k<l.length->ndB (l.getD k (0,0,0)).1=true)->CC 60 #[NV q,A4 0 0 0 0,.slice (some ⟨c,0,none⟩) l.length o] u (.tuple #[NV b,iI f])))(hno:Hid (∀k,k<l.length->ndB (l.getD k (0,0,0)).1=false->ra=0/\rb=0/\re=2))(hE1:Hid ((∀k,k<l.length->ndB (l.getD k (0,0,0)).1=true)->(er !=0)=true->ra=0/\rb=0/\re=er))(hE0:Hid ((∀k,k<l.length->ndB (l.getD k (0,0,0)).1=true)->(er !=0)=false->ra=a/\rb=b/\re=0)):
 CC 34 #[GX p q g h,.slice sl l.length cap] w (.tuple #[NV ra,NV rb,iI re]):=by
 go_enter Tryz.func34,Tryz.ntmps34
 go_upto_region 1 with fail
 obtain⟨v0,hC,HB0,K0⟩:=bx3 w (GE p q g h) 26 L0s 24 L0s 24
 rw[hC]
 clear hC
 refine Rn K0 HB0 (cG 0 15 [_,_,_] []) (Oc3 (g_ld 0 Tryz.underlying26 Z4) (g_cl Td hC.out) (g_bn (fun uZ=>Y7 _ _ _ 0 0 _ uZ rfl))) fun u1 HB1 _ K1=>?_
 simp only[sQ] at K1⊢
 have hTu:=HB1
 have J0:Hid (CV u1 (w.heap.size) (GE p q g h)):=(K1.cv 0)
 have J4:Hid (CV u1 (w.heap.size+1) L0s):=(K1.cv 1)
 have J5:Hid (CV u1 (w.heap.size+1+1) L0s):=(K1.cv 2)
 have j5:w.heap.size+1+1<u1.heap.size:=(K1.lt 2)
 have hbs:=bsRq0
 have hb1:=bsRq1
 have h256: ¬(256<(l.length:Int)):=Z1
 go_wp2_with fail
 go_loopw [9,7,8] (fun s9 s7 s8 wr=> ∃(i b2 b3 c2 c3:Nat) (z2 z3:List Value),i<=l.length/\s9=iI (i:Int)/\s7= .slice (some ⟨b2,0,none⟩) i c2/\s8= .slice (some ⟨b3,0,none⟩) i c3/\i<=c2/\i<=c3/\z2.length=8*(c2 -i)/\z3.length=8*(c3 -i)/\u1.heap.size<=b2/\u1.heap.size<=b3/\b2≠b3/\b2<wr.heap.size/\b3<wr.heap.size/\Hid (CV wr b2 (flN (flt ((opS l).take i))++z2))/\Hid (CV wr b3 (flN (flt ((opT l).take i))++z3))/\u1.heap.size<=wr.heap.size/\Bw w wr/\Hid (CV wr (w.heap.size) (GE p q g h))/\Hid (CV wr (w.heap.size+1) L0s)/\Hid (CV wr (w.heap.size+1+1) L0s)/\Hid (∀j,j<i->ndB (l.getD j (0,0,0)).1=true)) (fun s9 _ _ _=>l.length -(intOf s9).toNat)
 case atStart=>exact⟨0,u1.heap.size,u1.heap.size+1,0,0,[],[],Z1,rfl,rfl,by simp,Z1,Z1,rfl,rfl,Nat.le_refl _,Z1,Z1,by simp<;>omega,by simp<;>omega,(fun j v h=>by simp[flN,flt] at h),(fun j v h=>by simp[flN,flt] at h),by simp<;>omega,Z5 (Z5 hTu _) _,CV.below (CV.below J0.out (Z5 (Zf u1) _) Z1) (Z5 (Zf _) _) (by simp<;>omega),CV.below (CV.below J4.out (Z5 (Zf u1) _) Z1) (Z5 (Zf _) _) (by simp<;>omega),CV.below (CV.below J5.out (Z5 (Zf u1) _) j5) (Z5 (Zf _) _) (by simp<;>omega),fun j hj=>Z1⟩
 case round=>
  obtain⟨i,b2,b3,c2,c3,z2,z3,hi,rfl,rfl,rfl,hc2,hc3,hz2,hz3,hlo2,hlo3,hne,hlt2,hlt3,KV2,KV3,gsz,hTw,Q0,Q4,Q5,hall⟩:=hrel
  obtain⟨wo,rfl⟩:=Zr wr
  have hTu':=hTu.size
  have R0:=Q0.out
  have R4:=Q4.out
  have R5:=Q5.out
  have i0:w.heap.size<wo.heap.size:=Z1
  have i4:w.heap.size+1<wo.heap.size:=Z1
  have i5:w.heap.size+1+1<wo.heap.size:=Z1
  have KV2':=KV2.out
  have KV3':=KV3.out
  by_cases hj:i<l.length
  ·have hl:decide ((i:Int)<(l.length:Int))=true:=by simp;omega
   have hX:=hix.out _ hj
   have hX:Hid _:=hX
   have hg':=hg.resolve_left Z1
   have hR0:=hS.out _ hj
   have hN:Hid (∀u,CC 44 #[iI (l.getD i (0,0,0)).1] u (.bool (ndB (l.getD i (0,0,0)).1))):=fun u=>xNode _ u
   have t2:Hid ((opS l).take (i+1)=(opS l).take i++[((l.getD i (0,0,0)).1,(l.getD i (0,0,0)).2.1)]):=by
    show (opS l).take (i+1)=_
    rw[List.take_add_one];simp[opS,List.getElem?_eq_getElem hj]
   have t3:Hid ((opT l).take (i+1)=(opT l).take i++[((l.getD i (0,0,0)).1,(l.getD i (0,0,0)).2.2)]):=by
    show (opT l).take (i+1)=_
    rw[List.take_add_one];simp[opT,List.getElem?_eq_getElem hj]
   have hbad:=hno.out i hj
   have hok:Hid (ndB (l.getD i (0,0,0)).1=true-> ∀j,j<i+1->ndB (l.getD j (0,0,0)).1=true):=fun e j hjk=>by
    by_cases ej:j=i
    ·subst ej;exact e
    ·exact hall.out j Z1
   obtain⟨n,en⟩:=Z3 ((l.getD i (0,0,0)).1)
   obtain⟨s,es⟩:=Z3 ((l.getD i (0,0,0)).2.1)
   obtain⟨t,et⟩:=Z3 ((l.getD i (0,0,0)).2.2)
   rw[en,es,et] at hR0
   rw[en] at hN t2 t3 hbad hok
   rw[es] at t2
   rw[et] at t3
   clear en es et
   have hcn:=hR0 0 _ rfl
   rw[Nat.add_zero] at hcn
   have hcn:Hid _:=hcn
   by_cases hb:ndB n=true
   ·rw[hb] at hN
    have K1_1:Bk w.heap.size wo [(false,w.heap.size,GE p q g h),(true,w.heap.size+1,L0s),(true,w.heap.size+1+1,L0s),(true,b2,flN (flt ((opS l).take i))++z2),(true,b3,flN (flt ((opT l).take i))++z3)]:=⟨.c i0 R0<| .o i4 Z1 R4<| .o i5 Z1 R5<| .o hlt2 Z1 KV2'<| .o hlt3 Z1 KV3'<|trivial,by simp<;>omega⟩
    go_upto_region 7 with fail
    refine Rn K1_1 hTw (cG 0 27 [_,_,_,_] []) (Oc4 g_mv g_mv (g_ln Tryz.underlying28) (g_bn (fun uZ=>Za _ _ (i:Int) (l.length:Int) _ uZ hl))) fun u2 HB2 sz2 K2=>?_
    simp only[sQ] at K2⊢
    go_upto_region 9 with fail
    refine Rn K2 HB2 (cG 0 33 [_,_,_,_,_,_,_] []) (Oc7 g_mv g_mv (g_ix hX.out) (g_fd (fdS0o _ _)) (V9 gb (go+9*i) lI hcn.out hg') (g_cl Zc hN.out) (g_un Xe)) fun u3 HB3 sz3 K3=>?_
    simp only[sQ] at K3⊢
    have hnb:=ndB_iff.1 hb
    have hok':=hok.out hb
    go_upto_region 11 with fail
    refine Rp K3 HB3 [] [(7,10,L0s,some (8,LN n))] (cG 0 42 [_,_,_,_,_,_,_] []) [(8,7)] [] [] (Oc9 g_mv g_mv (g_ix hX.out) (g_fd (fdS0o _ _)) (V9 gb (go+9*i) lI hcn.out hg') (g_op (fun ev uZ he=>cviP uZ Z1 Z1 rfl (he _ _ rfl))) (g_bd (fun uZ=>bdNk n Z1 Z1 uZ)) (g_al 0 aN) (g_sn 0 iN)) fun u4 b4_7 HB4 sz4 K4=>?_
    simp only[sQ] at K4⊢
    obtain⟨hRs,hRt⟩:=sh_S hR0
    have hRs:Hid _:=hRs
    have hRt:Hid _:=hRt
    obtain⟨ti,hti,htm⟩:=Option.map_eq_some_iff.1 infoRq
    simp only[Prod.mk.injEq] at htm
    obtain⟨hzv,hsz,hby⟩:=htm
    have L2:((opS l).take i).length=i:=by simp[opS];omega
    have L3:((opT l).take i).length=i:=by simp[opT];omega
    have hnd12:=K4.n
    simp at hnd12
    have lt12_0:=K4.lt 0
    have lt12_1:=K4.lt 1
    have lt12_2:=K4.lt 2
    have lt12_3:=K4.lt 3
    have lt12_4:=K4.lt 4
    have lt12_5:=K4.lt 5
    go_upto_region 12 with fail
    refine Re K4 HB4 [.no,.no,.no,.all 9 ([])] [] (cG 0 49 [_,_,_,_,_,_,_,_] []) [(10,0),(10,9)] [(10,7)] [⟨8,57,some 9,P1q n s⟩,⟨9,58,some 10,PH u4.heap.size b2 ti.size (i+1) (flN (flt ((opS l).take i))++(LN n++LN s))⟩,⟨10,7,none,PH u4.heap.size b2 ti.size (i+1) (flN (flt ((opS l).take i))++(LN n++LN s))⟩] [true,true,true,false] (Od8 g_mv (g_ld 5 uN iN) g_mv g_mv (g_ix hX.out) (g_fd (fdS1o _ _)) (g_lf hRs.out hg' uN iN) (g_bd (bdRp n s))<|Oc3 (g_bR 0 (P1q n s) [0] [PtX n s] (LN n++LN s) (bsRz n s) (fun u hu=>P1q.new n s u)) (g_pE 3 0 1 (P1q n s) (flN (flt ((opS l).take i))) z2 (LN n++LN s) Tryz.underlying108 hti hzv (by rw[hsz];rfl) rfl P1q.nw (one_P n s) (by rw[hsz];rfl) (by rw[hsz,Xf,Us,L2];omega) (by rw[hsz];omega) hc2 (by rw[hby];omega) Z1) (g_sE 1 2 (PH u4.heap.size b2 ti.size (i+1) (flN (flt ((opS l).take i))++(LN n++LN s))))) fun u5 v5_8 hv5_8 v5_9 hv5_9 v5_10 hv5_10 HB5 sz5 K5=>?_
    simp only[sQ] at K5⊢
    obtain⟨d2,e2,y2,rfl,f1,f2,f3,f4,f5⟩:=hv5_10 rfl
    rw[hsz] at f4
    have K5_2:Bk w.heap.size u5 [(false,w.heap.size,GE p q g h),(true,w.heap.size+1,L0s),(true,w.heap.size+1+1,L0s),(true,b3,flN (flt ((opT l).take i))++z3),(false,b4_7,LN n),(true,d2,(flN (flt ((opS l).take i))++(LN n++LN s))++y2)]:=⟨.c (K5.lt 0) (K5.cv 0)<| .o (K5.lt 1) Z1 (K5.cv 1)<| .o (K5.lt 2) Z1 (K5.cv 2)<| .o (K5.lt 3) Z1 (K5.cv 3)<| .c (K5.lt 4) (K5.cv 4)<| .o f2 Z1 f5<|trivial,by simp<;>omega⟩
    have hnd13:=K5_2.n
    simp at hnd13
    have lt13_0:=K5_2.lt 0
    have lt13_1:=K5_2.lt 1
    have lt13_2:=K5_2.lt 2
    have lt13_3:=K5_2.lt 3
    have lt13_4:=K5_2.lt 4
    have lt13_5:=K5_2.lt 5
    go_upto_region 13 with fail
    refine Re K5_2 HB5 [.no,.no,.no,.all 9 ([])] [] (cG 0 59 [_,_,_,_,_,_,_,_] []) [(10,0),(10,9)] [(10,8)] [⟨8,67,some 9,P1q n t⟩,⟨9,68,some 10,PH u5.heap.size b3 ti.size (i+1) (flN (flt ((opT l).take i))++(LN n++LN t))⟩,⟨10,8,none,PH u5.heap.size b3 ti.size (i+1) (flN (flt ((opT l).take i))++(LN n++LN t))⟩] [true,true,true,false] (Od8 g_mv (g_ld 4 uN iN) g_mv g_mv (g_ix hX.out) (g_fd (fdS2o _ _)) (g_lf hRt.out hg' uN iN) (g_bd (bdRp n t))<|Oc3 (g_bR 0 (P1q n t) [0] [PtX n t] (LN n++LN t) (bsRz n t) (fun u hu=>P1q.new n t u)) (g_pE 3 0 1 (P1q n t) (flN (flt ((opT l).take i))) z3 (LN n++LN t) Tryz.underlying108 hti hzv (by rw[hsz];rfl) rfl P1q.nw (one_P n t) (by rw[hsz];rfl) (by rw[hsz,Xf,Us,L3];omega) (by rw[hsz];omega) hc3 (by rw[hby];omega) Z1) (g_sE 1 2 (PH u5.heap.size b3 ti.size (i+1) (flN (flt ((opT l).take i))++(LN n++LN t))))) fun u6 v6_8 hv6_8 v6_9 hv6_9 v6_10 hv6_10 HB6 sz6 K6=>?_
    simp only[sQ] at K6⊢
    obtain⟨d3,e3,y3,rfl,g1,g2,g3,g4,g5⟩:=hv6_10 rfl
    rw[hsz] at g4
    have K6_3:Bk w.heap.size u6 [(false,w.heap.size,GE p q g h),(true,w.heap.size+1,L0s),(true,w.heap.size+1+1,L0s),(false,b4_7,LN n),(true,d2,(flN (flt ((opS l).take i))++(LN n++LN s))++y2),(false,d3,(flN (flt ((opT l).take i))++(LN n++LN t))++y3)]:=⟨.c (K6.lt 0) (K6.cv 0)<| .o (K6.lt 1) Z1 (K6.cv 1)<| .o (K6.lt 2) Z1 (K6.cv 2)<| .c (K6.lt 3) (K6.cv 3)<| .o (K6.lt 4) Z1 (K6.cv 4)<| .c g2 g5<|trivial,by simp<;>omega⟩
    go_upto_region 8 with fail
    refine Rp K6_3 HB6 [] [] [(0,31,_),(1,32,_),(2,9,_)] [(2,0)] [(2,9)] [] (Oc3 g_mv (g_bn (fun uZ=>Zu _ _ (i:Int) 1 ((i+1:Nat):Int) uZ Z1 Z1 Z1)) g_as) fun u7 HB7 _ K7=>?_
    simp only[sQ] at K7⊢
    go_wp2
    refine⟨⟨i+1,d2,d3,e2,e3,y2,y3,Z1,rfl,rfl,rfl,f3,g3,by rw[f4];omega,by rw[g4];omega,by rcases f1 with e | e<;>omega,by rcases g1 with e | e<;>omega,by rcases f1 with e | e<;>rcases g1 with e9 | e9<;>omega,(K7.lt 4),(K7.lt 5),by rw[t2.out,flt_sn];exact(K7.cv 4),by rw[t3.out,flt_sn];exact(K7.cv 5),by have:=(K7.lt 2);omega,HB7,(K7.cv 0),(K7.cv 1),(K7.cv 2),hok'⟩,?_⟩
    simp[intOf]<;>omega
   ·rw[Bool.not_eq_true] at hb
    rw[hb] at hN
    have K1_1:Bk w.heap.size wo [(false,w.heap.size,GE p q g h),(true,w.heap.size+1,L0s),(true,w.heap.size+1+1,L0s),(true,b2,flN (flt ((opS l).take i))++z2),(true,b3,flN (flt ((opT l).take i))++z3)]:=⟨.c i0 R0<| .o i4 Z1 R4<| .o i5 Z1 R5<| .o hlt2 Z1 KV2'<| .o hlt3 Z1 KV3'<|trivial,by simp<;>omega⟩
    go_upto_region 7 with fail
    refine Rn K1_1 hTw (cG 0 27 [_,_,_,_] []) (Oc4 g_mv g_mv (g_ln Tryz.underlying28) (g_bn (fun uZ=>Za _ _ (i:Int) (l.length:Int) _ uZ hl))) fun u2 HB2 sz2 K2=>?_
    simp only[sQ] at K2⊢
    go_upto_region 9 with fail
    refine Rn K2 HB2 (cG 0 33 [_,_,_,_,_,_,_] []) (Oc7 g_mv g_mv (g_ix hX.out) (g_fd (fdS0o _ _)) (V9 gb (go+9*i) lI hcn.out hg') (g_cl Zc hN.out) (g_un not_f)) fun u3 HB3 sz3 K3=>?_
    simp only[sQ] at K3⊢
    go_upto_region 10 with fail
    refine Rp K3 HB3 [.no,.all 2 ([iU (0),iU (0),iU (0),iU (0)]),.all 3 ([iU (0),iU (0),iU (0),iU (0)])] [] [(0,40,_),(1,41,_),(4,6,_)] [] [] [] (Oc5 (g_bd zN) (g_bd zN) (g_st 1 iN) (g_st 2 iN) g_as) fun u4 HB4 sz4 K4=>?_
    simp only[sQ] at K4⊢
    have c4:=(K4.cv 1).n4
    have c5:=(K4.cv 2).n4
    go_wp2
    refine bodyPost_ret (v:= .tuple #[A4 0 0 0 0,A4 0 0 0 0,iI 2]) (by simp[results,Tryz.results34,go_sem,c4,c5]) rfl ⟨by obtain⟨ea,eb,ee⟩:=hbad hb;rw[ea,eb,ee,NV_0],HB4⟩
  ·have hl:decide ((i:Int)<(l.length:Int))=false:=by simp;omega
   have hio:i=l.length:=Z1
   rw[hio,List.take_of_length_le (by simp[opS])] at KV2'
   rw[hio,List.take_of_length_le (by simp[opT])] at KV3'
   have hall':Hid (∀j,j<l.length->ndB (l.getD j (0,0,0)).1=true):=fun j hj2=>hall.out j Z1
   have hco2:l.length<=c2:=Z1
   have hco3:l.length<=c3:=Z1
   clear KV2 KV3 hall
   subst hio
   have K1_1:Bk w.heap.size wo [(false,w.heap.size,GE p q g h),(true,w.heap.size+1,L0s),(true,w.heap.size+1+1,L0s),(true,b2,flN (flt (opS l))++z2),(true,b3,flN (flt (opT l))++z3)]:=⟨.c i0 R0<| .o i4 Z1 R4<| .o i5 Z1 R5<| .o hlt2 Z1 KV2'<| .o hlt3 Z1 KV3'<|trivial,by simp<;>omega⟩
   go_upto_region 7 with fail
   refine Rn K1_1 hTw (cG 0 27 [_,_,_,_] []) (Oc4 g_mv g_mv (g_ln Tryz.underlying28) (g_bn (fun uZ=>Za _ _ (l.length:Int) (l.length:Int) _ uZ hl))) fun u2 HB2 sz2 K2=>?_
   simp only[sQ] at K2⊢
   go_upto_region 14 with fail
   refine Rp K2 HB2 [] [(8,11,L0s,some (9,LN a))] (cG 0 70 [_,_,_,_,_] [(5,69,_),(6,75,_),(7,76,_),(10,12,_)]) [(9,8)] [] [] (Od8 (g_fd (fdG1 _)) (g_lo 0 4 uN iN) (g_bd zN) g_mv (g_cK ent_Y1 (fun fZ uZ kZ sZ bZ=>hC1.out uZ b2 c2 z2 bZ (kZ.lb sZ 3) hco2 (kZ.cv 3) hall'.out)) g_mv g_ex g_ex<|Oc3 (g_al 0 aN) (g_sn 0 iN) g_as) fun u3 b3_8 HB3 sz3 K3=>?_
   simp only[sQ] at K3⊢
   cases hne0:(er !=0)
   ·skip
    go_upto_region 15 with fail
    refine Rn K3 HB3 [(0,77,_),(1,78,_)] (Oc2 g_mv (g_bn (fun uZ=>Y7 _ _ _ er 0 _ uZ hne0))) fun u4 HB4 sz4 K4=>?_
    simp only[sQ] at K4⊢
    go_upto_region 17 with fail
    refine Rp K4 HB4 [] [(8,13,L0s,some (9,LN b))] (cG 0 83 [_,_,_,_,_] [(5,82,_),(6,88,_),(7,89,_),(10,14,_)]) [(9,8)] [] [] (Od8 (g_fd (fdG1 _)) (g_lo 0 4 uN iN) (g_bd zN) g_mv (g_cK ent_Y1 (fun fZ uZ kZ sZ bZ=>hC2.out uZ b3 c3 z3 bZ (kZ.lb sZ 4) hco3 (kZ.cv 4) hall'.out)) g_mv g_ex g_ex<|Oc3 (g_al 0 aN) (g_sn 0 iN) g_as) fun u5 b5_8 HB5 sz5 K5=>?_
    simp only[sQ] at K5⊢
    go_upto_region 18 with fail
    refine Rd K5 HB5 [.no,.all 2 (LN a),.all 3 (LN b)] [] [(0,90,_),(1,91,_),(4,6,_)] [] [] [] (Oc5 (g_ld 5 uN iN) (g_ld 6 uN iN) (g_st 1 iN) (g_st 2 iN) g_as) fun u6 HB6 sz6 K6=>?_
    simp only[sQ] at K6⊢
    have c4:=(K6.cv 1).n4
    have c5:=(K6.cv 2).n4
    go_wp2
    refine bodyPost_ret (v:= .tuple #[NV a,NV b,iI 0]) (by simp[results,Tryz.results34,go_sem,c4,c5]) rfl ⟨by obtain⟨ea,eb,ee⟩:=hE0.out hall'.out hne0;rw[ea,eb,ee],HB6⟩
   ·skip
    go_upto_region 15 with fail
    refine Rn K3 HB3 [(0,77,_),(1,78,_)] (Oc2 g_mv (g_bn (fun uZ=>Y7 _ _ _ er 0 _ uZ hne0))) fun u4 HB4 sz4 K4=>?_
    simp only[sQ] at K4⊢
    go_upto_region 16 with fail
    refine Rp K4 HB4 [.no,.all 3 ([iU (0),iU (0),iU (0),iU (0)]),.all 4 ([iU (0),iU (0),iU (0),iU (0)])] [] (cG 0 79 [_,_,_] [(5,6,_)]) [] [] [] (Oc6 (g_bd zN) (g_bd zN) g_mv (g_st 1 iN) (g_st 2 iN) g_as) fun u5 HB5 sz5 K5=>?_
    simp only[sQ] at K5⊢
    have c4:=(K5.cv 1).n4
    have c5:=(K5.cv 2).n4
    go_wp2
    refine bodyPost_ret (v:= .tuple #[A4 0 0 0 0,A4 0 0 0 0,iI er]) (by simp[results,Tryz.results34,go_sem,c4,c5]) rfl ⟨by obtain⟨ea,eb,ee⟩:=hE1.out hall'.out hne0;rw[ea,eb,ee,NV_0],HB5⟩
end Go.Proofs.YtoffgfhilkpdpaaGreatDoor
