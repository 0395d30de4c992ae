import Derived.Test.YtclafkfelkmigaaGreatDoorSD
namespace Go.Proofs.YtclafkfelkmigaaGreatDoor
set_option linter.unusedVariables false
set_option linter.unusedSimpArgs false
set_option maxRecDepth 100000
set_option maxHeartbeats 4000000
open Go.RowKit
theorem slQw(b:Nat)(w:World):(Instr.sliceAt 115 (.pointer (some ⟨b,0,none⟩)) (some (iI 4)) none none).run Tryz.prog w= .ok (.slice (some ⟨b,4,none⟩) 4 4) w:=by
 simp[Instr.sliceAt,Instr.slice,go_sem,Tryz.underlying115,Addr.add]
theorem lQ{b c:Nat}{v:Int}(w:World)(h:w.cell? ⟨b,c,none⟩=some (iU v)):(Instr.loadAt 34 (.pointer (some ⟨b,c,none⟩))).run Tryz.prog w= .ok (iU v) w:=by go_simp
theorem eMv0(vs:Array Value)(w:World):(callFunc 147 vs).run Tryz.prog w= .ok (.enter 147 vs) w:=by kernel_rfl
theorem eMv1(vs:Array Value)(w:World):(callFunc 130 vs).run Tryz.prog w= .ok (.enter 130 vs) w:=by kernel_rfl
theorem mul_core(a P:Int)(bs:List Nat)(uF sF rw_ tpF cyF tcF:Nat->Int)(pd:Nat->Nat)(pF:Nat->List Nat)(w:World)(hbl:bs.length=4)(hp0:Hid (pF 0=List.replicate 8 0))(hu0:Hid (uF 0=0))(hS:Hid (∀i,i<4-> ∀u,CC 147 #[NV a,iU ((bs.getD i 0:Nat):Int)] u (.tuple #[NV (rw_ i),iU (tpF i)])))(hA:Hid (∀i,i<4-> ∀u,CC 130 #[NV (uF i),NV (rw_ i)] u (.tuple #[NV (sF i),iU (cyF i)])))(hC:Hid (∀i,i<4-> ∀p q u,(do eqGuard .add 34 p q (iU (tpF i)) (iU (cyF i));binOp .add 34 (iU (tpF i)) (iU (cyF i)):Sem Value).run Tryz.prog u= .ok (iU (tcF i)) u))(hB:Hid (∀i,i<4-> ∀u,(Instr.build 36 ([0,1,2,3].zip [iU (D1 (sF i)),iU (D2 (sF i)),iU (D3 (sF i)),iU (tcF i)]).toArray).run Tryz.prog u= .ok (NV (uF (i+1))) u))(hPl:Hid (∀i,(pF i).length=8))(hP:Hid (∀i,i<4->pF (i+1)=(pF i).set i (pd i)))(hD:Hid (∀i,i<4->D0 (sF i)=((pd i:Nat):Int)))(hP4:Hid (U64 (pF 4)=LN P++Lq))(hU4:Hid (uF 4=D4 P)):
 CC 131 #[NV a,.agg (U64 bs).toArray] w (WV P):=by
 go_enter Tryz.func131,Tryz.ntmps131
 go_upto_region 1 with fail
 obtain⟨v0,hC,HB0,K0⟩:=bx3 w (LN a) 36 (U64 bs) 36 Lqw 115
 rw[hC]
 clear hC
 go_upto_region 1 with fail
 refine Rp K0 HB0 [] [(0,5,Lqw,none)] [] [] [] [] (Oc1 (g_al 0 aQw)) fun u1 b1_0 HB1 _ K1=>?_
 simp only[sQ] at K1⊢
 clear K0 HB0
 go_upto_region 2 with fail
 refine Rp K1 HB1 [] [(0,6,Lq,none)] [] [] [] [] (Oc1 (g_al 0 aQ)) fun u2 b2_0 HB2 _ K2=>?_
 simp only[sQ] at K2⊢
 clear K1 HB1
 go_upto_region 3 with fail
 refine Rn K2 HB2 [(0,12,_)] (Oc1 g_mv) fun u3 HB3 _ K3=>?_
 simp only[sQ] at K3⊢
 clear K2 HB2
 go_wp2_with fail
 go_loopw [12] (fun s12 wr=> ∃(i:Nat),i<=4/\s12=iI (i:Int)/\Bw w wr/\CV wr (w.heap.size) (LN a)/\w.heap.size<wr.heap.size/\CV wr (w.heap.size+1) (U64 bs)/\w.heap.size+1<wr.heap.size/\CV wr (w.heap.size+1+1) (Lqw)/\w.heap.size+1+1<wr.heap.size/\CV wr b1_0 (U64 (pF i))/\b1_0<wr.heap.size/\CV wr b2_0 (LN (uF i))/\b2_0<wr.heap.size) (fun s12 _=>4 -(intOf s12).toNat)
 case atStart=>exact⟨0,by omega,rfl,HB3,(K3.cv 0),(K3.lt 0),(K3.cv 1),(K3.lt 1),(K3.cv 2),(K3.lt 2),by rw[hp0.out];exact(K3.cv 3),(K3.lt 3),by rw[hu0.out];exact(K3.cv 4),(K3.lt 4)⟩
 case round=>
  obtain⟨i,hk,rfl,HBr,C0,lC0,C1,lC1,C2,lC2,C3,lC3,C4,lC4⟩:=hrel
  clear HB3
  have hnK:=K3.n
  simp at hnK
  have hoK3:=K3.lo 3
  have hoK4:=K3.lo 4
  by_cases hj:i<4
  ·have hl:decide ((i:Int)<4)=true:=by simp;omega
   have hsc:=hS.out i hj
   have had:=hA.out i hj
   have hac:=hC.out i hj
   have hbd:=hB.out i hj
   have hpl:=hPl.out i
   have hgb:=Zu bs i (by omega)
   have hgp:=Zu (pF i) i (by omega)
   have hps:=hP.out i hj
   have hd0:=hD.out i hj
   obtain⟨ps,eq⟩: ∃ps,pF i=ps:=⟨_,rfl⟩
   rw[eq] at hgp hps C3
   obtain⟨x,ex⟩: ∃x,bs.getD i 0=x:=⟨_,rfl⟩
   rw[ex] at hgb hsc
   obtain⟨u,eu⟩: ∃u,uF i=u:=⟨_,rfl⟩
   rw[eu] at had C4
   obtain⟨v,ev⟩: ∃v,uF (i+1)=v:=⟨_,rfl⟩
   rw[ev] at hbd
   obtain⟨s,es⟩: ∃s,sF i=s:=⟨_,rfl⟩
   rw[es] at had hbd hd0
   obtain⟨r,er⟩: ∃r,rw_ i=r:=⟨_,rfl⟩
   rw[er] at had hsc
   obtain⟨tp,et⟩: ∃r,tpF i=r:=⟨_,rfl⟩
   rw[et] at hsc hac
   obtain⟨cy,ec⟩: ∃r,cyF i=r:=⟨_,rfl⟩
   rw[ec] at had hac
   obtain⟨tc,etc⟩: ∃r,tcF i=r:=⟨_,rfl⟩
   rw[etc] at hbd hac
   obtain⟨d,ed⟩: ∃r,pd i=r:=⟨_,rfl⟩
   rw[ed] at hd0 hps
   have hps:Hid _:=hps
   have hac:Hid _:=hac
   have hbd:Hid _:=hbd
   have hsc:Hid _:=hsc
   have had:Hid _:=had
   have ev:Hid _:=ev
   clear eq ex eu es er et ec etc ed
   have K3_1:Bk w.heap.size wr [(false,w.heap.size,LN a),(false,w.heap.size+1,U64 bs),(true,w.heap.size+1+1,Lqw),(true,b1_0,U64 ps),(true,b2_0,LN u)]:=⟨.c lC0 C0<| .c lC1 C1<| .o lC2 (K3.lo 2) C2<| .o lC3 (K3.lo 3) C3<| .o lC4 (K3.lo 4) C4<|trivial,by simp<;>omega⟩
   go_upto_region 4 with fail
   refine Rn K3_1 HBr [(0,13,_)] (Oc1 (g_bn (fun uZ=>Z8 _ _ (i:Int) 4 _ uZ hl))) fun u4 HB4 sz4 K4=>?_
   simp only[sQ] at K4⊢
   go_upto_region 5 with fail
   refine Rn K4 HB4 [(0,14,_),(1,7,_)] (Oc2 g_mv g_as) fun u5 HB5 sz5 K5=>?_
   simp only[sQ] at K5⊢
   clear K4 HB4
   go_upto_region 6 with fail
   refine Rd K5 HB5 [] [(8,8,Lq,some (9,LN r))] (cG 0 16 [_,_,_,_,_] [(5,15,_),(6,21,_),(7,22,_),(10,9,_)]) [(9,8)] [] [] (Od8 (g_ld 0 uQ iQ) g_mv (g_ix (fun uZ=>xbN (w.heap.size+1) i uZ hj)) (g_lw 1 i l64 hgb) (g_cl eMv0 hsc.out) g_mv g_ex g_ex<|Oc3 (g_al 0 aQ) (g_sn 0 iQ) g_as) fun u6 b6_8 HB6 sz6 K6=>?_
   simp only[sQ] at K6⊢
   clear K5 HB5
   go_upto_region 7 with fail
   refine Rp K6 HB6 [] [(6,10,Lq,some (7,LN s))] (cG 0 24 [_,_,_] [(3,23,_),(4,27,_),(5,28,_),(8,11,_)]) [(7,6)] [] [] (Oc9 (g_ld 4 uQ iQ) (g_ld 5 uQ iQ) (g_cl eMv1 had.out) g_mv g_ex g_ex (g_al 0 aQ) (g_sn 0 iQ) g_as) fun u7 b7_6 HB7 _ K7=>?_
   simp only[sQ] at K7⊢
   clear K6 HB6
   go_upto_region 8 with fail
   refine Rp K7 HB7 [.no,.no,.no,.all 4 ((U64 ps).set i (iU (D0 s)))] [] (cG 0 29 [_,_,_,_] []) [] [] [] (Oc5 g_mv (g_ix (fun uZ=>xbN b7_6 0 uZ (by decide))) (g_lc 6 0 lQ) (g_ix (fun uZ=>xbW b1_0 i uZ (by omega))) (g_sw 3 i s64 hgp rfl)) fun u8 HB8 _ K8=>?_
   simp only[sQ] at K8⊢
   clear K7 HB7
   go_upto_region 9 with fail
   refine Rp K8 HB8 [.no,.no,.no,.no,.all 10 (LN v)] [] (cG 0 33 [_,_,_,_,_,_,_,_,_,_] []) [] [] [] (Od8 (g_ix (fun uZ=>xbN b7_6 1 uZ (by decide))) (g_lc 6 1 lQ) (g_ix (fun uZ=>xbN b7_6 2 uZ (by decide))) (g_lc 6 2 lQ) (g_ix (fun uZ=>xbN b7_6 3 uZ (by decide))) (g_lc 6 3 lQ) g_mv g_mv<|Oc3 (g_bn (hac.out _ _)) (g_bd hbd.out) (g_st 4 iQ)) fun u9 HB9 _ K9=>?_
   simp only[sQ] at K9⊢
   clear K8 HB8
   go_upto_region 10 with fail
   refine Rp K9 HB9 [] [] [(0,43,_),(1,12,_)] [(1,0)] [(1,12)] [] (Oc2 (g_bn (fun uZ=>Zl _ _ (i:Int) 1 ((i+1:Nat):Int) uZ (by omega) (by omega) (by omega))) g_mv) fun u10 HB10 _ K10=>?_
   simp only[sQ] at K10⊢
   clear K9 HB9
   go_wp2
   refine⟨⟨i+1,by omega,rfl,HB10,(K10.cv 0),(K10.lt 0),(K10.cv 1),(K10.lt 1),(K10.cv 2),(K10.lt 2),by rw[hps.out,Uh,<-hd0];exact(K10.cv 3),(K10.lt 3),by rw[ev.out];exact(K10.cv 4),(K10.lt 4)⟩,?_⟩
   simp[intOf]<;>omega
  ·have hl:decide ((i:Int)<4)=false:=by simp;omega
   have hi8:i=4:=by omega
   subst hi8
   have e8:=hP4.out
   rw[e8] at C3
   have e9:=hU4.out
   rw[e9] at C4
   clear e8 e9
   have K3_1:Bk w.heap.size wr [(false,w.heap.size,LN a),(false,w.heap.size+1,U64 bs),(true,w.heap.size+1+1,Lqw),(true,b1_0,LN P++Lq),(true,b2_0,LN (D4 P))]:=⟨.c lC0 C0<| .c lC1 C1<| .o lC2 (K3.lo 2) C2<| .o lC3 (K3.lo 3) C3<| .o lC4 (K3.lo 4) C4<|trivial,by simp<;>omega⟩
   go_upto_region 4 with fail
   refine Rn K3_1 HBr [(0,13,_)] (Oc1 (g_bn (fun uZ=>Z8 _ _ ((4:Nat):Int) 4 _ uZ hl))) fun u4 HB4 sz4 K4=>?_
   simp only[sQ] at K4⊢
   go_upto_region 11 with fail
   refine Rd K4 HB4 [.no,.no,.no,.all 2 (LW P)] [] (cG 0 44 [_,_,_] []) [] [] [] (Oc3 (g_sl (slQw b1_0)) (g_sl (slQ b2_0)) (g_cp 3 (sl:=4) (dl:=4) (LN P) Lq [] (LN (D4 P)) Tryz.underlying138 jQ rfl (fun f u kZ bZ j v hj=>by rw[Addr.add0];exact((KC.cv kZ 4) j v hj).1) (one_Q (D4 P)) rfl rfl)) fun u5 HB5 sz5 K5=>?_
   simp only[sQ] at K5⊢
   clear K4 HB4
   go_upto_region 12 with fail
   refine Rp K5 HB5 [.no,.no,.all 1 (LW P)] [] [(0,47,_)] [] [] [] (Oc2 (g_ld 3 uQw iQw) (g_st 2 iQw)) fun u6 HB6 sz6 K6=>?_
   simp only[sQ] at K6⊢
   clear K5 HB5
   have c4_0:=((K6.cv 2) 0 _ rfl).1
   have c4_1:=((K6.cv 2) 1 _ rfl).1
   have c4_2:=((K6.cv 2) 2 _ rfl).1
   have c4_3:=((K6.cv 2) 3 _ rfl).1
   have c4_4:=((K6.cv 2) 4 _ rfl).1
   have c4_5:=((K6.cv 2) 5 _ rfl).1
   have c4_6:=((K6.cv 2) 6 _ rfl).1
   have c4_7:=((K6.cv 2) 7 _ rfl).1
   go_wp2
   refine bodyPost_ret (v:=WV P) (by simp[results,Tryz.results131,go_sem,c4_0,c4_1,c4_2,c4_3,c4_4,c4_5,c4_6,c4_7]) rfl ⟨rfl,HB6⟩
end Go.Proofs.YtclafkfelkmigaaGreatDoor
