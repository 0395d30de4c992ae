import Derived.Test.YtclafkfelkmigaaGreatDoorSL
import Derived.Test.YtclafkfelkmigaaGreatDoorV3
import Derived.Test.YtclafkfelkmigaaGreatDoorD0
import Derived.Test.YtclafkfelkmigaaGreatDoorM3
namespace Go.Proofs.YtclafkfelkmigaaGreatDoor
set_option linter.unusedVariables false
set_option linter.unusedSimpArgs false
set_option maxRecDepth 100000
set_option maxHeartbeats 4000000
open Go.RowKit
abbrev Lqw:List Value:=[iU 0,iU 0,iU 0,iU 0,iU 0,iU 0,iU 0,iU 0]
theorem uQw:Tryz.prog.underlying 115=some (.array 8 34):=Tryz.underlying115
theorem iQw:(Tryz.prog.info? 115).map (·.size)=some 8:=by kernel_rfl
theorem aQw(w:World):(Instr.alloc 115 true (.tuple #[])).run Tryz.prog w= .ok (.pointer (some ⟨w.heap.size,0,none⟩)) (w.alloc (.cells Lqw.toArray 115)):=by kernel_rfl
theorem zQ(w:World):(Instr.build 36 [].toArray).run Tryz.prog w= .ok (A4 0 0 0 0) w:=by kernel_rfl
theorem jQ:(Tryz.prog.info? 34).map (·.size)=some 1:=by kernel_rfl
theorem slQ(b:Nat)(w:World):(Instr.sliceAt 36 (.pointer (some ⟨b,0,none⟩)) none none none).run Tryz.prog w= .ok (.slice (some ⟨b,0,none⟩) 4 4) w:=by
 simp[Instr.sliceAt,Instr.slice,go_sem,Tryz.underlying36]
theorem slQ4(b:Nat)(w:World):(Instr.sliceAt 176 (.pointer (some ⟨b,0,none⟩)) none (some (iI 4)) none).run Tryz.prog w= .ok (.slice (some ⟨b,0,none⟩) 4 12) w:=by
 simp[Instr.sliceAt,Instr.slice,go_sem,Tryz.underlying176]
theorem slQ8(b:Nat)(w:World):(Instr.sliceAt 176 (.pointer (some ⟨b,0,none⟩)) (some (iI 8)) none none).run Tryz.prog w= .ok (.slice (some ⟨b,8,none⟩) 4 4) w:=by
 simp[Instr.sliceAt,Instr.slice,go_sem,Tryz.underlying176,Addr.add]
theorem adK(b o j:Nat):(⟨b,o,none⟩:Addr).add j=⟨b,o+j,none⟩:=by simp[Addr.add]
theorem one_Q(n:Int): ∀v∈LN n,v.oneCell'=true:=fun v hv=>by simp at hv;rcases hv with h | h | h | h<;>(subst h;rfl)
theorem eDv0(vs:Array Value)(w:World):(callFunc 121 vs).run Tryz.prog w= .ok (.enter 121 vs) w:=by kernel_rfl
theorem eDv1(vs:Array Value)(w:World):(callFunc 122 vs).run Tryz.prog w= .ok (.enter 122 vs) w:=by kernel_rfl
theorem eDv2(vs:Array Value)(w:World):(callFunc 85 vs).run Tryz.prog w= .ok (.enter 85 vs) w:=by kernel_rfl
theorem eDv3(vs:Array Value)(w:World):(callFunc 123 vs).run Tryz.prog w= .ok (.enter 123 vs) w:=by kernel_rfl
theorem eDv4(vs:Array Value)(w:World):(callFunc 124 vs).run Tryz.prog w= .ok (.enter 124 vs) w:=by kernel_rfl
theorem divide_core(n m ln dv Q rr:Int)(up:Nat)(ds es:List Nat)(rF:Nat->Int)(qd:Nat->Nat)(qF:Nat->List Nat)(w:World)(hds:ds.length=12)(hes:es.length=12)(hup:(up:Int)=256 -ln)(hu2:up<=255)(heq:Hid (∀p q u,(do eqGuard .eql 36 p q (NV m) (A4 0 0 0 0);binOp .eql 36 (NV m) (A4 0 0 0 0):Sem Value).run Tryz.prog u= .ok (.bool false) u))(hL:Hid (∀u,CC 121 #[NV m] u (iI ln)))(hA:Hid (∀u,CC 122 #[WV n,iI (up:Int)] u (.agg (U64 ds).toArray)))(hWd:Hid (∀u,CC 85 #[NV m] u (WV m)))(hD:Hid (∀u,CC 122 #[WV m,iI (up:Int)] u (.agg (U64 es).toArray)))(hes4:Hid (∀(j:Nat) v,(LN dv)[j]?=some v->(U64 es)[j]?=some v))(hds4:Hid (∀(j:Nat) v,(LN (rF 0))[j]?=some v->(U64 ds)[8+j]?=some v))(hS:Hid (∀i,i<8-> ∀u,CC 123 #[NV (rF i),iU ((ds.getD (7 -i) 0:Nat):Int),NV dv] u (.tuple #[iU ((qd i:Nat):Int),NV (rF (i+1))])))(hlo:Hid (∀u,CC 124 #[NV (rF 8),iI (up:Int)] u (NV rr)))(hQ0:Hid (qF 0=List.replicate 8 0))(hQl:Hid (∀i,(qF i).length=8))(hQs:Hid (∀i,i<8->qF (i+1)=(qF i).set (7 -i) (qd i)))(hQ8:Hid (U64 (qF 8)=LW Q)):
 CC 96 #[WV n,NV m] w (.tuple #[WV Q,NV rr,iI 0]):=by
 go_enter Tryz.func96,Tryz.ntmps96
 go_upto_region 1 with fail
 obtain⟨v0,hC,HB0,K0⟩:=bx4 w (LW n) 115 (LN m) 36 Lqw 115 Lq 36
 rw[hC]
 clear hC
 go_upto_region 1 with fail
 refine Rn K0 HB0 (cG 0 15 [_,_,_] []) (Oc3 (g_ld 1 uQ iQ) (g_bd zQ) (g_bn (heq.out _ _))) fun u1 HB1 _ K1=>?_
 simp only[sQ] at K1⊢
 clear K0 HB0
 go_upto_region 3 with fail
 refine Rn K1 HB1 (cG 0 20 [_,_,_] [(3,7,_)]) (Oc4 (g_ld 1 uQ iQ) (g_cl eDv0 hL.out) (g_bn (fun uZ=>Xf _ _ 256 ln (up:Int) uZ (by omega) (by omega) (by omega))) g_as) fun u2 HB2 _ K2=>?_
 simp only[sQ] at K2⊢
 clear K1 HB1
 go_upto_region 4 with fail
 refine Rd K2 HB2 [] [(7,8,U64 z12,some (9,U64 ds)),(8,9,U64 z12,some (10,U64 es))] (cG 0 23 [_,_,_,_,_,_,_] []) [(9,7),(10,8)] [] [] (Od8 (g_ld 0 uQw iQw) g_mv (g_cl eDv1 hA.out) (g_ld 1 uQ iQ) (g_cl eDv2 hWd.out) g_mv (g_cl eDv1 hD.out) (g_al 0 Ws)<|Oc3 (g_al 1 Ws) (g_sn 0 Yb (h1:=U64_a1 _) (hm:=by rw[Zz,hds]) (hl:=by first | rw[Zz,Zz,hds,show z12.length=12 from rfl] | rfl)) (g_sn 1 Yb (h1:=U64_a1 _) (hm:=by rw[Zz,hes]) (hl:=by first | rw[Zz,Zz,hes,show z12.length=12 from rfl] | rfl))) fun u3 b3_7 b3_8 HB3 _ K3=>?_
 simp only[sQ] at K3⊢
 clear K2 HB2
 go_upto_region 5 with fail
 refine Rp K3 HB3 [] [(0,10,Lq,none),(1,11,Lq,none)] [] [] [] [] (Oc2 (g_al 0 aQ) (g_al 1 aQ)) fun u4 b4_0 b4_1 HB4 _ K4=>?_
 simp only[sQ] at K4⊢
 clear K3 HB3
 go_upto_region 6 with fail
 refine Rd K4 HB4 [.no,.no,.no,.no,.no,.no,.all 2 (LN dv)] [] (cG 0 30 [_,_,_] []) [] [] [] (Oc3 (g_sl (slQ b4_0)) (g_sl (slQ4 b3_8)) (g_cp 6 (sl:=4) (dl:=4) [] Lq [] (LN dv) Tryz.underlying138 jQ rfl (fun f u kZ bZ j v hj=>by rw[Addr.add0];exact((KC.cv kZ 5) j v (hes4.out j v hj)).1) (one_Q dv) rfl rfl)) fun u5 HB5 _ K5=>?_
 simp only[sQ] at K5⊢
 clear K4 HB4
 go_upto_region 7 with fail
 refine Rd K5 HB5 [.no,.no,.no,.no,.no,.no,.no,.all 2 (LN (rF 0))] [] (cG 0 33 [_,_,_] []) [] [] [] (Oc3 (g_sl (slQ b4_1)) (g_sl (slQ8 b3_7)) (g_cp 7 (sl:=4) (dl:=4) [] Lq [] (LN (rF 0)) Tryz.underlying138 jQ rfl (fun f u kZ bZ j v hj=>by rw[adK];exact((KC.cv kZ 4) (8+j) v (hds4.out j v hj)).1) (one_Q (rF 0)) rfl rfl)) fun u6 HB6 _ K6=>?_
 simp only[sQ] at K6⊢
 clear K5 HB5
 go_upto_region 8 with fail
 refine Rp K6 HB6 [] [(0,12,Lqw,none)] [] [] [] [] (Oc1 (g_al 0 aQw)) fun u7 b7_0 HB7 _ K7=>?_
 simp only[sQ] at K7⊢
 clear K6 HB6
 go_upto_region 9 with fail
 refine Rn K7 HB7 [(0,36,_)] (Oc1 g_mv) fun u8 HB8 _ K8=>?_
 simp only[sQ] at K8⊢
 clear K7 HB7
 go_wp2_with fail
 go_loopw [36] (fun s36 wr=> ∃(i:Nat),i<=8/\s36=iI (i:Int)/\Bw w wr/\CV wr (w.heap.size+1+1) (Lqw)/\w.heap.size+1+1<wr.heap.size/\CV wr (w.heap.size+1+1+1) (Lq)/\w.heap.size+1+1+1<wr.heap.size/\CV wr b3_7 (U64 ds)/\b3_7<wr.heap.size/\CV wr b4_0 (LN dv)/\b4_0<wr.heap.size/\CV wr b4_1 (LN (rF i))/\b4_1<wr.heap.size/\CV wr b7_0 (U64 (qF i))/\b7_0<wr.heap.size) (fun s36 _=>8 -(intOf s36).toNat)
 case atStart=>exact⟨0,by omega,rfl,HB8,(K8.cv 2),(K8.lt 2),(K8.cv 3),(K8.lt 3),(K8.cv 4),(K8.lt 4),(K8.cv 6),(K8.lt 6),(K8.cv 7),(K8.lt 7),by rw[hQ0.out];exact(K8.cv 8),(K8.lt 8)⟩
 case round=>
  obtain⟨i,hk,rfl,HBr,C0,lC0,C1,lC1,C2,lC2,C3,lC3,C4,lC4,C5,lC5⟩:=hrel
  clear HB8
  have hnK:=K8.n
  simp at hnK
  have hoK4:=K8.lo 4
  have hoK5:=K8.lo 5
  have hoK6:=K8.lo 6
  have hoK7:=K8.lo 7
  have hoK8:=K8.lo 8
  by_cases hj:i<8
  ·have hl:decide ((i:Int)<8)=true:=by simp;omega
   have hst:=hS.out i hj
   have hgd:=Zu ds (7 -i) (by omega)
   have hql:=hQl.out i
   have hgq:=Zu (qF i) (7 -i) (by omega)
   have hqs:=hQs.out i hj
   obtain⟨qs,eq⟩: ∃qs,qF i=qs:=⟨_,rfl⟩
   rw[eq] at hgq hqs C5
   obtain⟨x,ex⟩: ∃x,ds.getD (7 -i) 0=x:=⟨_,rfl⟩
   rw[ex] at hgd hst
   obtain⟨r,er⟩: ∃r,rF i=r:=⟨_,rfl⟩
   rw[er] at hst C4
   obtain⟨s,es'⟩: ∃s,rF (i+1)=s:=⟨_,rfl⟩
   rw[es'] at hst
   obtain⟨d,ed⟩: ∃d,qd i=d:=⟨_,rfl⟩
   rw[ed] at hst hqs
   have hqs:Hid _:=hqs
   have es2:Hid _:=es'
   have hst:Hid _:=hst
   clear eq ex er ed es'
   have K8_1:Bk w.heap.size wr [(true,w.heap.size+1+1,Lqw),(true,w.heap.size+1+1+1,Lq),(true,b3_7,U64 ds),(true,b4_0,LN dv),(true,b4_1,LN r),(true,b7_0,U64 qs)]:=⟨.o lC0 (K8.lo 2) C0<| .o lC1 (K8.lo 3) C1<| .o lC2 (K8.lo 4) C2<| .o lC3 (K8.lo 6) C3<| .o lC4 (K8.lo 7) C4<| .o lC5 (K8.lo 8) C5<|trivial,by simp<;>omega⟩
   go_upto_region 10 with fail
   refine Rn K8_1 HBr [(0,37,_)] (Oc1 (g_bn (fun uZ=>Z8 _ _ (i:Int) 8 _ uZ hl))) fun u9 HB9 sz9 K9=>?_
   simp only[sQ] at K9⊢
   go_upto_region 11 with fail
   refine Rn K9 HB9 [(0,38,_),(1,13,_)] (Oc2 g_mv g_as) fun u10 HB10 sz10 K10=>?_
   simp only[sQ] at K10⊢
   clear K9 HB9
   go_upto_region 12 with fail
   refine Rn K10 HB10 [(0,39,_),(1,40,_),(2,14,_)] (Oc3 g_mv (g_bn (fun uZ=>Xf _ _ 7 (i:Int) ((7 -i:Nat):Int) uZ (by omega) (by omega) (by omega))) g_as) fun u11 HB11 _ K11=>?_
   simp only[sQ] at K11⊢
   clear K10 HB10
   go_upto_region 13 with fail
   refine Rd K11 HB11 [.no,.no,.no,.no,.all 12 (LN s),.all 11 (U64 (qs.set (7 -i) d))] [] (cG 0 42 [_,_,_,_,_,_,_] [(7,41,_),(8,49,_),(9,50,_),(10,51,_)]) [(12,1)] [] [] (Od8 g_mv (g_ld 4 uQ iQ) g_mv (g_ix (fun uZ=>xb12 b3_7 (7 -i) uZ (by omega))) (g_lw 2 (7 -i) l64 hgd) (g_ld 3 uQ iQ) (g_cl eDv3 hst.out) g_mv<|Oc5 g_ex g_ex (g_ix (fun uZ=>xbW b7_0 (7 -i) uZ (by omega))) (g_sw 5 (7 -i) s64 hgq (Uh _ _ _)) (g_st 4 iQ)) fun u12 HB12 _ K12=>?_
   simp only[sQ] at K12⊢
   clear K11 HB11
   go_upto_region 14 with fail
   refine Rp K12 HB12 [] [] [(0,52,_),(1,36,_)] [(1,0)] [(1,36)] [] (Oc2 (g_bn (fun uZ=>Zl _ _ (i:Int) 1 ((i+1:Nat):Int) uZ (by omega) (by omega) (by omega))) g_mv) fun u13 HB13 _ K13=>?_
   simp only[sQ] at K13⊢
   clear K12 HB12
   go_wp2
   refine⟨⟨i+1,by omega,rfl,HB13,(K13.cv 0),(K13.lt 0),(K13.cv 1),(K13.lt 1),(K13.cv 2),(K13.lt 2),(K13.cv 3),(K13.lt 3),by rw[es2.out];exact(K13.cv 4),(K13.lt 4),by rw[hqs.out];exact(K13.cv 5),(K13.lt 5)⟩,?_⟩
   simp[intOf]<;>omega
  ·have hl:decide ((i:Int)<8)=false:=by simp;omega
   have hi8:i=8:=by omega
   subst hi8
   have e8:=hQ8.out
   rw[e8] at C5
   obtain⟨r,er⟩: ∃r,rF 8=r:=⟨_,rfl⟩
   rw[er] at C4 hlo
   clear e8 er
   have K8_1:Bk w.heap.size wr [(true,w.heap.size+1+1,Lqw),(true,w.heap.size+1+1+1,Lq),(true,b3_7,U64 ds),(true,b4_0,LN dv),(true,b4_1,LN r),(true,b7_0,LW Q)]:=⟨.o lC0 (K8.lo 2) C0<| .o lC1 (K8.lo 3) C1<| .o lC2 (K8.lo 4) C2<| .o lC3 (K8.lo 6) C3<| .o lC4 (K8.lo 7) C4<| .o lC5 (K8.lo 8) C5<|trivial,by simp<;>omega⟩
   go_upto_region 10 with fail
   refine Rn K8_1 HBr [(0,37,_)] (Oc1 (g_bn (fun uZ=>Z8 _ _ ((8:Nat):Int) 8 _ uZ hl))) fun u9 HB9 sz9 K9=>?_
   simp only[sQ] at K9⊢
   go_upto_region 15 with fail
   refine Rd K9 HB9 [.all 4 (LW Q),.all 5 (LN rr)] [] (cG 0 53 [_,_,_,_] [(6,6,_)]) [] [] [] (Oc7 (g_ld 5 uQw iQw) (g_ld 4 uQ iQ) g_mv (g_cl eDv4 hlo.out) (g_st 0 iQw) (g_st 1 iQ) g_as) fun u10 HB10 sz10 K10=>?_
   simp only[sQ] at K10⊢
   clear K9 HB9
   have c4_0:=((K10.cv 0) 0 _ rfl).1
   have c4_1:=((K10.cv 0) 1 _ rfl).1
   have c4_2:=((K10.cv 0) 2 _ rfl).1
   have c4_3:=((K10.cv 0) 3 _ rfl).1
   have c4_4:=((K10.cv 0) 4 _ rfl).1
   have c4_5:=((K10.cv 0) 5 _ rfl).1
   have c4_6:=((K10.cv 0) 6 _ rfl).1
   have c4_7:=((K10.cv 0) 7 _ rfl).1
   have c5:=(K10.cv 1).n4
   go_wp2
   refine bodyPost_ret (v:= .tuple #[WV Q,NV rr,iI 0]) (by simp[results,Tryz.results96,go_sem,c4_0,c4_1,c4_2,c4_3,c4_4,c4_5,c4_6,c4_7,c5]) rfl ⟨rfl,HB10⟩
end Go.Proofs.YtclafkfelkmigaaGreatDoor
