import Derived.Test.YtknpepgonhdbgaaGreatDoorCT3
import Derived.Deep.OwnRows
namespace Go.Proofs.YtknpepgonhdbgaaGreatDoor
set_option linter.unusedVariables false
set_option linter.unusedSimpArgs false
set_option maxRecDepth 100000
set_option maxHeartbeats 4000000
open Go.RowKit
def byl (a b c d:Int):List Int:=(List.range 32).map fun j=>byp a b c d (31 -j)
theorem CB.get {w:World} {g:Nat} {a b c d:Int} (h:CB w g 32 a b c d): ∀i,i<32->w.cell? ⟨g,0+i,none⟩=some (.int .u8 ((byl a b c d).getD i 0)):=fun i hi=>by
 have:=(h i hi).1
 rw[if_pos (by omega)] at this
 rw[Nat.zero_add,this]
 unfold byl
 simp[List.getD,hi]
theorem Tryz.info5:(Tryz.prog.info? 5).map (fun i=>(i.zero,i.size,i.bytes))=some (some (.int .u8 0),1,1):=by kernel_rfl
def hexc (v:Int):Int:=if v<10 then 48+v else 87+v
def nib (a b c d:Int) (p:Nat):Int:=(if p/16=0 then a else if p/16=1 then b else if p/16=2 then c else d)/2^(p%16*4)%16
theorem hex_at (v:Int) (h0:0<=v) (h1:v<16) (hh:v.toNat<(ByteArray.mk #[48,49,50,51,52,53,54,55,56,57,97,98,99,100,101,102]).size):((((ByteArray.mk #[48,49,50,51,52,53,54,55,56,57,97,98,99,100,101,102])[v.toNat]'hh).toNat:Nat):Int)=hexc v:=by
 obtain⟨n,rfl⟩:=Int.eq_ofNat_of_zero_le h0
 have hn:n<16:=by omega
 have key: ∀m:Fin 16,((((ByteArray.mk #[48,49,50,51,52,53,54,55,56,57,97,98,99,100,101,102])[m.val]'(by have:=m.isLt;show m.val<16;omega)).toNat:Nat):Int)=hexc (m.val:Int):=by decide
 exact key ⟨n,hn⟩
theorem and15 (x:Int) (h:W64 x):bits .and .u64 x 15=x%16:=by
 obtain⟨h1,h2⟩:=h
 obtain⟨x,rfl⟩:=Int.eq_ofNat_of_zero_le h1
 have e:=bits_and_u64_nat x 15 (by omega) (by omega)
 have f:x&&&15=x%16:=Nat.and_two_pow_sub_one_eq_mod x 4
 rw[f] at e
 exact e.trans (by omega)
def CT (w:World) (n N k:Nat) (a b c d:Int):Prop:= ∀j,j<N->w.cell? ⟨n,j,none⟩=some (.int .u8 (if N<=j+k then hexc (nib a b c d (N -1 -j)) else 0))/\w.frozen? ⟨n,j,none⟩=false
theorem CT.set {w:World} {n N k o:Nat} {a b c d:Int} (h:CT w n N k a b c d) (hk:k<N) (ho:o=N -1 -k) (v:Int) (hv:v=hexc (nib a b c d k)):CT (w.setCell ⟨n,o,none⟩ (.int .u8 v)) n N (k+1) a b c d:=fun j hj=>by
 subst ho
 rw[World.frozen?_setCell]
 obtain⟨hc,hf⟩:=h (N -1 -k) (by omega)
 by_cases e:j=N -1 -k
 ·subst e
  refine⟨?_,hf⟩
  rw[if_pos (by omega),show N -1 -(N -1 -k)=k by omega,hv]
  simp[go_sem,hc]
 ·obtain⟨hc',hf'⟩:=h j hj
  refine⟨?_,hf'⟩
  rw[World.cell?_setCell_other _ _ _ _ (by simp<;>omega),hc']
  by_cases g:N<=j+k
  ·rw[if_pos g,if_pos (by omega)]
  ·rw[if_neg g,if_neg (by omega)]
theorem CT.new (w:World) (N:Nat) (a b c d:Int):CT (w.alloc (.cells (madeCells #[.int .u8 0] N) 5)) w.heap.size N 0 a b c d:=fun j hj=>by
 have hf:(w.alloc (.cells (madeCells #[.int .u8 0] N) 5)).frozen? ⟨w.heap.size,j,none⟩=false:=by simp[go_sem]
 refine⟨?_,hf⟩
 rw[cell_of_row _ w.heap.size j _ 5 (0,0) (heap_alloc_new _ _),if_neg (by omega)]
 simp[madeCells,hj,Nat.mod_one]
def txl (a b c d:Int) (N:Nat):List Int:=(List.range N).map fun j=>hexc (nib a b c d (N -1 -j))
theorem CT.get {w:World} {g N:Nat} {a b c d:Int} (h:CT w g N N a b c d): ∀i,i<N->w.cell? ⟨g,0+i,none⟩=some (.int .u8 ((txl a b c d N).getD i 0)):=fun i hi=>by
 have:=(h i hi).1
 rw[if_pos (by omega)] at this
 rw[Nat.zero_add,this]
 unfold txl
 simp[List.getD,hi]
def nd (a b c d:Int):Nat:=if blen a b c d=0 then 1 else ((blen a b c d+3)/4).toNat
theorem blen_bd (a b c d:Int) (ha:W64 a) (hb:W64 b) (hc:W64 c) (hd:W64 d):0<=blen a b c d/\blen a b c d<=256:=by
 have h1:=T7 a ha;have h2:=T7 b hb;have h3:=T7 c hc;have h4:=T7 d hd
 unfold blen;split
 ·omega
 ·split
  ·omega
  ·split
   ·omega
   ·split<;>omega
theorem Text_any (a b c d:Int) (w:World) (ha:W64 a) (hb:W64 b) (hc:W64 c) (hd:W64 d):
 CC 74 #[A4 a b c d] w (.string (strOfNums (txl a b c d (nd a b c d)))):=by
 have hbb:=blen_bd a b c d ha hb hc hd
 obtain⟨N,eN⟩: ∃N,nd a b c d=N:=⟨_,rfl⟩
 rw[eN]
 have hmax:(max 1 ((blen a b c d+3)/4):Int)=(N:Int):=by
  rw[<-eN];unfold nd;split<;>omega
 have hN1:1<=N:=by omega
 have hN2:N<=64:=by omega
 obtain⟨L,eL⟩: ∃L,blen a b c d=L:=⟨_,rfl⟩
 have hlen:=Tw a b c d
 simp only[eL] at hlen hbb hmax
 have HLEN:Hid _:=hlen
 clear hlen eL eN
 have hmk:=fun w=>run_make_row' (P:=Tryz.prog) 36 5 (.int .u8 0) 1 Tryz.underlying36 Tryz.info5 rfl .i64 .i64 N (by omega) (by omega) w
 go_enter Tryz.func74,Tryz.ntmps74
 go_wp2_with fail
 refine(HLEN.out _ ha hb hc hd).mono ?_
 rintro en w1 ⟨rfl,hB⟩
 have hA1:C4 w1 w.heap.size a b c d:=C4.below (by unfold C4;simp[go_sem]) hB (by simp)
 have hq1:Bw w w1:=Zz (Z1 (Z6 w) _) hB
 have hs1:=hB.size
 simp only[World.size_alloc] at hs1
 clear hB
 have HM:Hid _:=hmax
 go_wp2
 go_loopw [14] (fun i wr=> ∃k:Nat,k<=N/\i= .int .i64 k/\Bw w wr/\w1.heap.size<wr.heap.size/\C4 wr w.heap.size a b c d/\CT wr w1.heap.size N k a b c d) (fun i _=>N -(intOf i).toNat)
 case atStart=>
  exact⟨0,by omega,rfl,Z1 hq1 _,by simp,hA1.alloc (by omega) _,CT.new w1 N a b c d⟩
 case round=>
  clear hA1 hq1 hmk hmax
  obtain⟨k,hk,rfl,hB,hs,hA,hO⟩:=hrel
  by_cases hlt:k<N
  ·have hlt':(k:Int)<(N:Int):=by omega
   have hA':=hA
   obtain⟨⟨ac0,ac1,ac2,ac3⟩,_⟩:=hA'
   obtain⟨oc,of⟩:=hO (N -1 -k) (by omega)
   have hz:(if N<=N -1 -k+k then hexc (nib a b c d (N -1 -(N -1 -k))) else 0)=0:=if_neg (by omega)
   rw[hz] at oc
   clear hz
   have hq:k/16=0\/k/16=1\/k/16=2\/k/16=3:=by omega
   rcases hq with hq | hq | hq | hq
   ·have hq':(k:Int)/16=0:=by omega
    have hnd:=and15 _ (W_shr a (k%16*4) ha)
    have hv0:0<=a/2^(k%16*4)%16:=by omega
    have hv1:a/2^(k%16*4)%16<16:=by omega
    go_wp2
    refine⟨⟨k+1,by omega,by go_num,?_,by simpa using hs,hA.other _ (by dsimp only;omega) _,hO.set hlt (by omega) _ ?_⟩,by simp[intOf];omega⟩
    ·exact hB.setCell (by show _<=_;dsimp only;omega) _
    ·rw[hex_at _ hv0 hv1];unfold nib;simp[hq]
   ·have hq':(k:Int)/16=1:=by omega
    have hnd:=and15 _ (W_shr b (k%16*4) hb)
    have hv0:0<=b/2^(k%16*4)%16:=by omega
    have hv1:b/2^(k%16*4)%16<16:=by omega
    go_wp2
    refine⟨⟨k+1,by omega,by go_num,?_,by simpa using hs,hA.other _ (by dsimp only;omega) _,hO.set hlt (by omega) _ ?_⟩,by simp[intOf];omega⟩
    ·exact hB.setCell (by show _<=_;dsimp only;omega) _
    ·rw[hex_at _ hv0 hv1];unfold nib;simp[hq]
   ·have hq':(k:Int)/16=2:=by omega
    have hnd:=and15 _ (W_shr c (k%16*4) hc)
    have hv0:0<=c/2^(k%16*4)%16:=by omega
    have hv1:c/2^(k%16*4)%16<16:=by omega
    go_wp2
    refine⟨⟨k+1,by omega,by go_num,?_,by simpa using hs,hA.other _ (by dsimp only;omega) _,hO.set hlt (by omega) _ ?_⟩,by simp[intOf];omega⟩
    ·exact hB.setCell (by show _<=_;dsimp only;omega) _
    ·rw[hex_at _ hv0 hv1];unfold nib;simp[hq]
   ·have hq':(k:Int)/16=3:=by omega
    have hnd:=and15 _ (W_shr d (k%16*4) hd)
    have hv0:0<=d/2^(k%16*4)%16:=by omega
    have hv1:d/2^(k%16*4)%16<16:=by omega
    go_wp2
    refine⟨⟨k+1,by omega,by go_num,?_,by simpa using hs,hA.other _ (by dsimp only;omega) _,hO.set hlt (by omega) _ ?_⟩,by simp[intOf];omega⟩
    ·exact hB.setCell (by show _<=_;dsimp only;omega) _
    ·rw[hex_at _ hv0 hv1];unfold nib;simp[hq]
  ·have hkN:k=N:=by omega
   subst hkN
   have hcv:=run_convert_bytes_arg (P:=Tryz.prog) wr 36 5 Tryz.underlying36 Tryz.underlying5 w1.heap.size 0 k k (txl a b c d k) (by simp[txl]) hO.get 9 Tryz.underlying9
   go_wp2
   go_ret
   exact⟨rfl,hB⟩
theorem xaddG_lt (a b m0 m1 m2 m3 r0 r1 r2 r3 ec:Int) (w:World) (ha:In a) (hb:In b) (hR:Hid (∀u,CC 38 #[WV (a+b),A4 m0 m1 m2 m3] u (.tuple #[A4 r0 r1 r2 r3,.int .i64 ec]))) (hl:a+b<115792089237316195423570985008687907853269984665640564039457584007913129639936):CC 33 #[NV a,NV b,A4 m0 m1 m2 m3] w (.tuple #[A4 (r0) (r1) (r2) (r3),.int .i64 ec]):=by
 have hi:In (a+b):=⟨by have:=ha.1;have:=hb.1;omega,hl⟩
 go_enter Tryz.func33,Tryz.ntmps33
 go_upto_region 1 with fail
 generalize hC:((((w.alloc (.cells (LN a:List Value).toArray 24)).alloc (.cells (LN b:List Value).toArray 24)).alloc (.cells ([.int .u64 (m0),.int .u64 (m1),.int .u64 (m2),.int .u64 (m3)]:List Value).toArray 24)).alloc (.cells (L0s:List Value).toArray 24))=v0 at *
 have HB0:Bw w v0:=by rw[<-hC];exact Z1 (Z1 (Z1 (Z1 (Z6 w) _) _) _) _
 have K0:Bk w.heap.size v0 [(true,w.heap.size,LN a),(true,w.heap.size+1,LN b),(true,w.heap.size+1+1,[.int .u64 (m0),.int .u64 (m1),.int .u64 (m2),.int .u64 (m3)]),(true,w.heap.size+1+1+1,L0s)]:=by rw[<-hC];exact(Bk.nil _ w).ad.ad.ad.ad
 clear hC
 refine rgP K0 HB0 HB0.size [] [(6,8,L0s,some (7,LN (a+b)))] [(0,12,NV a),(1,13,NV b),(2,14,.tuple #[NV (a+b),.bool false]),(3,11,.tuple #[NV (a+b),.bool false]),(4,15,NV (a+b)),(5,16,.bool false),(8,9,.bool false)] [(7,6)] [] [false,false] ?_ ?_
 ·exact oc (g_ld 0 uN iN)<|oc (g_ld 1 uN iN)<|oc (g_cl Z9 (fun uZ=>Vc a b uZ ha hb hl))<|oc g_mv<|oc g_ex<|oc g_ex<|oc (g_al 0 aN)<|oc (g_sn 0 iN)<|oc g_as on
 intro u1 b1_6 HB1 sz1 K1
 simp only[sQ] at K1⊢
 clear K0 HB0
 go_upto_region 2 with fail
 refine rgP K1 HB1 HB1.size [] [(2,10,L0w,some (3,LW (a+b)))] [(0,17,NV (a+b)),(1,18,WV (a+b))] [(3,2)] [] [true,true,false] ?_ ?_
 ·exact oc (g_ld 2 uN iN)<|oc (g_cl Zd (fun uZ=>Vv (a+b) uZ hi))<|oc (g_al 0 aW)<|oc (g_sn 0 iW) on
 intro u2 b2_2 HB2 sz2 K2
 simp only[sQ] at K2⊢
 clear K1 HB1
 go_upto_region 5 with fail
 refine rgP K2 HB2 HB2.size [.no,.all 5 ([.int .u64 (r0),.int .u64 (r1),.int .u64 (r2),.int .u64 (r3)])] [] [(0,21,WV (a+b)),(1,22,.agg #[.int .u64 (m0),.int .u64 (m1),.int .u64 (m2),.int .u64 (m3)]),(2,23,.tuple #[A4 (r0) (r1) (r2) (r3),.int .i64 ec]),(3,24,A4 (r0) (r1) (r2) (r3)),(4,25,.int .i64 ec),(6,7,.int .i64 ec)] [] [] [false,true,false] ?_ ?_
 ·exact oc (g_ld 2 uW iW)<|oc (g_ld 0 uN iN)<|oc (g_cl Z7 (fun uZ=>hR.out uZ))<|oc g_ex<|oc g_ex<|oc (g_st 1 iN)<|oc g_as on
 intro u3 HB3 sz3 K3
 simp only[sQ] at K3⊢
 clear K2 HB2
 have c6:=(K3.cv 0).n4
 go_wp2
 refine bodyPost_ret (v:= .tuple #[A4 (r0) (r1) (r2) (r3),.int .i64 ec]) (by simp[results,Tryz.results33,go_sem,c6]) rfl ⟨rfl,HB3⟩
theorem xaddG_ge (a b m0 m1 m2 m3 r0 r1 r2 r3 ec:Int) (w:World) (ha:In a) (hb:In b) (hR:Hid (∀u,CC 38 #[WV (a+b),A4 m0 m1 m2 m3] u (.tuple #[A4 r0 r1 r2 r3,.int .i64 ec]))) (hl:115792089237316195423570985008687907853269984665640564039457584007913129639936<=a+b):CC 33 #[NV a,NV b,A4 m0 m1 m2 m3] w (.tuple #[A4 (r0) (r1) (r2) (r3),.int .i64 ec]):=by
 have ha2:=ha.2;have hb2:=hb.2
 obtain⟨s,hs⟩: ∃s,a+b -115792089237316195423570985008687907853269984665640564039457584007913129639936=s:=⟨_,rfl⟩
 have hA:WV (a+b)=A8 (D0 s) (D1 s) (D2 s) (D3 s) 1 0 0 0:=WV_of (a+b) (D0 s) (D1 s) (D2 s) (D3 s) 1 0 0 0 (W_D0 s) (W_D1 s) (W_D2 s) (W_D3 s) ⟨by omega,by omega⟩ W_0 W_0 W_0 (by rw[V_In ⟨by omega,by omega⟩];simp[V];omega)
 rw[hA] at hR
 have nA:Hid (∀u,CC 44 #[NV a,NV b] u (.tuple #[NV s,.bool true])):=fun u=>by rw[<-hs];exact nrAdd_ge a b u ha hb hl
 clear hs hA ha2 hb2
 go_enter Tryz.func33,Tryz.ntmps33
 go_upto_region 1 with fail
 generalize hC:((((w.alloc (.cells (LN a:List Value).toArray 24)).alloc (.cells (LN b:List Value).toArray 24)).alloc (.cells ([.int .u64 (m0),.int .u64 (m1),.int .u64 (m2),.int .u64 (m3)]:List Value).toArray 24)).alloc (.cells (L0s:List Value).toArray 24))=v0 at *
 have HB0:Bw w v0:=by rw[<-hC];exact Z1 (Z1 (Z1 (Z1 (Z6 w) _) _) _) _
 have K0:Bk w.heap.size v0 [(true,w.heap.size,LN a),(true,w.heap.size+1,LN b),(true,w.heap.size+1+1,[.int .u64 (m0),.int .u64 (m1),.int .u64 (m2),.int .u64 (m3)]),(true,w.heap.size+1+1+1,L0s)]:=by rw[<-hC];exact(Bk.nil _ w).ad.ad.ad.ad
 clear hC
 refine rgP K0 HB0 HB0.size [] [(6,8,L0s,some (7,LN s))] [(0,12,NV a),(1,13,NV b),(2,14,.tuple #[NV s,.bool true]),(3,11,.tuple #[NV s,.bool true]),(4,15,NV s),(5,16,.bool true),(8,9,.bool true)] [(7,6)] [] [false,false] ?_ ?_
 ·exact oc (g_ld 0 uN iN)<|oc (g_ld 1 uN iN)<|oc (g_cl Z9 (fun uZ=>nA.out uZ))<|oc g_mv<|oc g_ex<|oc g_ex<|oc (g_al 0 aN)<|oc (g_sn 0 iN)<|oc g_as on
 intro u1 b1_6 HB1 sz1 K1
 simp only[sQ] at K1⊢
 clear K0 HB0
 go_upto_region 2 with fail
 refine rgP K1 HB1 HB1.size [] [(2,10,L0w,some (3,[.int .u64 (D0 (s)),.int .u64 (D1 (s)),.int .u64 (D2 (s)),.int .u64 (D3 (s)),.int .u64 (0),.int .u64 (0),.int .u64 (0),.int .u64 (0)]))] [(0,17,NV s),(1,18,A8 (D0 (s)) (D1 (s)) (D2 (s)) (D3 (s)) (0) (0) (0) (0))] [(3,2)] [] [true,true,false] ?_ ?_
 ·exact oc (g_ld 2 uN iN)<|oc (g_cl Zd (fun uZ=>rWiden_any (D0 s) (D1 s) (D2 s) (D3 s) uZ (W_D0 s) (W_D1 s) (W_D2 s) (W_D3 s)))<|oc (g_al 0 aW)<|oc (g_sn 0 iW) on
 intro u2 b2_2 HB2 sz2 K2
 simp only[sQ] at K2⊢
 clear K1 HB1
 go_upto_region 4 with fail
 refine rgP K2 HB2 HB2.size [.no,.no,.cs [(4,1,(Go.Value.int Go.IntKind.u64 1))]] [] [(0,20,.pointer (some ⟨b2_2,4,none⟩))] [] [] [] ?_ ?_
 ·exact oc (g_ix (jW 4))<|oc (g_sc 2 0 sU) on
 intro u3 HB3 sz3 K3
 simp only[fX,nK,nP,Wr.f,aK,pM,List.foldl,List.set_cons_zero,List.set_cons_succ] at K3
 simp only[setG,setN,List.set_cons_zero,List.set_cons_succ]
 clear K2 HB2
 go_upto_region 5 with fail
 refine rgP K3 HB3 HB3.size [.no,.all 5 ([.int .u64 (r0),.int .u64 (r1),.int .u64 (r2),.int .u64 (r3)])] [] [(0,21,.agg #[.int .u64 (D0 (s)),.int .u64 (D1 (s)),.int .u64 (D2 (s)),.int .u64 (D3 (s)),(Go.Value.int Go.IntKind.u64 1),.int .u64 (0),.int .u64 (0),.int .u64 (0)]),(1,22,.agg #[.int .u64 (m0),.int .u64 (m1),.int .u64 (m2),.int .u64 (m3)]),(2,23,.tuple #[A4 (r0) (r1) (r2) (r3),.int .i64 ec]),(3,24,A4 (r0) (r1) (r2) (r3)),(4,25,.int .i64 ec),(6,7,.int .i64 ec)] [] [] [false,true,false] ?_ ?_
 ·exact oc (g_ld 2 uW iW)<|oc (g_ld 0 uN iN)<|oc (g_cl Z7 (fun uZ=>hR.out uZ))<|oc g_ex<|oc g_ex<|oc (g_st 1 iN)<|oc g_as on
 intro u4 HB4 sz4 K4
 simp only[sQ] at K4⊢
 clear K3 HB3
 have c6:=(K4.cv 0).n4
 go_wp2
 refine bodyPost_ret (v:= .tuple #[A4 (r0) (r1) (r2) (r3),.int .i64 ec]) (by simp[results,Tryz.results33,go_sem,c6]) rfl ⟨rfl,HB4⟩
theorem xaddG (a b m0 m1 m2 m3 r0 r1 r2 r3 ec:Int) (w:World) (ha:In a) (hb:In b) (hR:Hid (∀u,CC 38 #[WV (a+b),A4 m0 m1 m2 m3] u (.tuple #[A4 r0 r1 r2 r3,.int .i64 ec]))):CC 33 #[NV a,NV b,A4 m0 m1 m2 m3] w (.tuple #[A4 (r0) (r1) (r2) (r3),.int .i64 ec]):=by
 by_cases hl:a+b<115792089237316195423570985008687907853269984665640564039457584007913129639936
 ·exact xaddG_lt a b m0 m1 m2 m3 r0 r1 r2 r3 ec w ha hb hR hl
 ·exact xaddG_ge a b m0 m1 m2 m3 r0 r1 r2 r3 ec w ha hb hR (by omega)
theorem xAdd (a b m:Int) (w:World) (ha:In a) (hb:In b) (hm:In m) (h:m≠0):CC 33 #[NV a,NV b,NV m] w (.tuple #[NV ((a+b)%m),.int .i64 0]):=
 xaddG a b _ _ _ _ _ _ _ _ 0 w ha hb (fun u=>W5 (a+b) m u ⟨by have:=ha.1;have:=hb.1;omega,by have:=ha.2;have:=hb.2;omega⟩ hm h)
def gat (op:Int->Int->Int) (x:Int) (ns:List Int):Nat->Int
 | 0=>x
 | k+1=>op (gat op x ns k) (ns.getD k 0)
theorem gat_In {op:Int->Int->Int} {x:Int} {ns:List Int} (hx:In x) (ho: ∀a b,In a->In b->In (op a b)) (hn: ∀k,k<ns.length->In (ns.getD k 0)): ∀k,k<=ns.length->In (gat op x ns k)
 | 0,_=>hx
 | k+1,h=>ho _ _ (gat_In hx ho hn k (by omega)) (hn k (by omega))
theorem mgather (N:FuncId) (op:Int->Int->Int) (x m:Int) (sl:Option Addr) (gb go cap:Nat) (ns:List Int) (w:World) (hns:ns.length<=50) (hx:In x) (hm:In m) (h:m≠0) (hN: ∀(vs:Array Value) (w:World),(callFunc N vs).run Tryz.prog w= .ok (.enter N vs) w) (hT:Hid (∀a b,In a->In b-> ∀u,Calls Tryz.prog N #[NV a,NV b,NV m] u fun e u'=>e= .returned (.tuple #[NV (op a b),.int .i64 0])/\Bw u u')) (ho: ∀a b,In a->In b->In (op a b)) (hn:Hid (∀k,k<ns.length->In (ns.getD k 0))) (hix:Hid (∀j,j<ns.length-> ∀W,(Instr.indexAt 35 (.slice sl ns.length cap) (.int .i64 j)).run Tryz.prog W= .ok (.pointer (some ⟨gb,go+4*j,none⟩)) W)) (hg:ns.length=0\/gb<w.heap.size) (hS:Hid (SN w gb go ns)):
 CC 107 #[.func (.func N) #[] #[],NV x,NV m,.slice sl ns.length cap] w (.tuple #[NV (gat op (x%m) ns ns.length),.int .i64 0]):=by
 have hI:Hid (∀k,k<=ns.length->In (gat op (x%m) ns k)):=gat_In (Zw hm h) ho hn.out
 go_enter Tryz.func107,Tryz.ntmps107
 go_upto_region 1 with fail
 generalize hC:(((w.alloc (.cells (LN x:List Value).toArray 24)).alloc (.cells (LN m:List Value).toArray 24)).alloc (.cells (L0s:List Value).toArray 24))=v0 at *
 have HB0:Bw w v0:=by rw[<-hC];exact Z1 (Z1 (Z1 (Z6 w) _) _) _
 have K0:Bk w.heap.size v0 [(true,w.heap.size,LN x),(true,w.heap.size+1,LN m),(true,w.heap.size+1+1,L0s)]:=by rw[<-hC];exact(Bk.nil _ w).ad.ad.ad
 clear hC
 refine rgD K0 HB0 HB0.size [] [(7,10,L0s,some (8,LN (x%m)))] [(0,15,NV x),(1,16,WV x),(2,17,NV m),(3,18,.tuple #[NV (x%m),.int .i64 0]),(4,14,.tuple #[NV (x%m),.int .i64 0]),(5,19,NV (x%m)),(6,20,.int .i64 0),(9,11,.int .i64 0)] [(8,7)] [] [false] ?_ ?_
 ·exact oc (g_ld 0 uN iN)<|oc (g_cl Zj (fun uZ=>W9 x uZ hx))<|oc (g_ld 1 uN iN)<|oc (g_cl Zo (fun uZ=>Xw x m uZ hx.wide hm h))<|oc g_mv<|oc g_ex<|oc g_ex<|oc (g_al 0 aN)<|oc (g_sn 0 iN)<|oc g_as on
 intro u1 b1_7 HB1 sz1 K1
 simp only[sQ] at K1⊢
 clear K0 HB0
 go_upto_region 2 with fail
 refine rgP K1 HB1 HB1.size [] [] [(0,21,.int .i64 0),(1,22,.bool false)] [] [] [] ?_ ?_
 ·exact oc g_mv<|oc (g_bn (fun uZ=>Tu _ _ _ 0 0 _ uZ rfl)) on
 intro u2 HB2 sz2 K2
 simp only[sQ] at K2⊢
 clear K1 HB1
 go_upto_region 4 with fail
 refine rgP K2 HB2 HB2.size [] [] [(0,25,.slice sl ns.length cap),(1,26,.int .i64 (ns.length:Int)),(2,27,(Go.Value.int Go.IntKind.i64 0))] [] [] [] ?_ ?_
 ·exact oc g_mv<|oc (g_ln Tryz.underlying35)<|oc g_mv on
 intro u3 HB3 sz3 K3
 simp only[sQ] at K3⊢
 clear K2 HB2
 go_wp2_with fail
 go_loopw [27] (fun s27 wr=> ∃(k:Nat),k<=ns.length/\s27= .int .i64 (k:Int)/\Bw w wr/\CV wr (w.heap.size+1) (LN m)/\CV wr (w.heap.size+1+1) L0s/\CV wr b1_7 (LN (gat op (x%m) ns k))/\b1_7<wr.heap.size/\w.heap.size+1+1<wr.heap.size) (fun s27 _=>ns.length -(intOf s27).toNat)
 case atStart=>exact⟨0,by omega,rfl,HB3,(K3.cv 0),(K3.cv 1),(K3.cv 2),(K3.lt 2),(K3.lt 1)⟩
 case round=>
  obtain⟨k,hk,rfl,HBr,Km,Kr,Kg,lg,lr⟩:=hrel
  clear HB3
  have hnK:=K3.n
  simp at hnK
  have hoK2:=K3.lo 2
  by_cases hj:k<ns.length
  ·have hl:decide ((k:Int)<(ns.length:Int))=true:=by simp;omega
   have ik:=hI.out k hk
   have iy:=hn.out k hj
   have hC:=hT.out (gat op (x%m) ns k) (ns.getD k 0) ik iy
   have hC:Hid _:=hC
   have hX:=hix.out k hj
   have hX:Hid _:=hX
   have hR:=hS.out.at k hj
   have hR:Hid _:=hR
   have hlen:(k:Int)<1000:=by omega
   obtain⟨y,ey⟩: ∃y,ns.getD k 0=y:=⟨_,rfl⟩
   obtain⟨z,ez⟩: ∃z,gat op (x%m) ns k=z:=⟨_,rfl⟩
   rw[ey] at iy hR
   rw[ey,ez] at hC
   rw[ez] at ik Kg
   have EY:Hid _:=ey
   have EZ:Hid _:=ez
   clear ey ez
   have K3_1:Bk w.heap.size wr [(false,w.heap.size+1,LN m),(false,w.heap.size+1+1,L0s),(true,b1_7,LN z)]:=⟨.c (by omega) Km<| .c lr Kr<| .o lg (K3.lo 2) Kg<|trivial,by simp;omega⟩
   go_upto_region 5 with fail
   refine rgP K3_1 HBr HBr.size [] [] [(0,28,.bool true)] [] [] [] ?_ ?_
   ·exact oc (g_bn (fun uZ=>Zr _ _ (k:Int) (ns.length:Int) _ uZ hl)) on
   intro u4 HB4 sz4 K4
   simp only[sQ] at K4⊢
   go_upto_region 6 with fail
   refine rgP K4 HB4 HB4.size [] [(2,13,L0s,some (3,LN y))] [(0,29,.pointer (some ⟨gb,go+4*k,none⟩)),(1,30,NV y)] [(3,2)] [] [] ?_ ?_
   ·exact oc (g_ix (fun uZ=>hX.out uZ))<|oc (g_lf hR.out (hg.resolve_left (by omega)) uN iN)<|oc (g_al 0 aN)<|oc (g_sn 0 iN) on
   intro u5 b5_2 HB5 sz5 K5
   simp only[sQ] at K5⊢
   clear K4 HB4
   go_upto_region 7 with fail
   refine rgP K5 HB5 HB5.size [.no,.no,.all 8 (LN (op z y))] [] [(0,32,.func (.func N) #[] #[]),(1,33,NV z),(2,34,NV y),(3,35,NV m),(4,36,.tuple #[NV (op z y),.int .i64 0]),(5,31,.tuple #[NV (op z y),.int .i64 0]),(6,37,NV (op z y)),(7,38,.int .i64 0)] [(8,1)] [] [true,true,true,false] ?_ ?_
   ·exact oc g_mv<|oc (g_ld 2 uN iN)<|oc (g_ld 3 uN iN)<|oc (g_ld 0 uN iN)<|oc (g_cv (first:=[]) hN (fun fZ uZ kZ sZ=>hC.out uZ))<|oc g_mv<|oc g_ex<|oc g_ex<|oc (g_st 2 iN) on
   intro u6 HB6 sz6 K6
   simp only[sQ] at K6⊢
   clear K5 HB5
   go_upto_region 8 with fail
   refine rgP K6 HB6 HB6.size [] [] [(0,39,.int .i64 ((k+1:Nat):Int)),(1,27,.int .i64 ((k+1:Nat):Int))] [(1,0)] [(1,27)] [] ?_ ?_
   ·exact oc (g_bn (fun uZ=>Ys _ _ (k:Int) 1 ((k+1:Nat):Int) uZ (by omega) (by omega) (by omega)))<|oc g_mv on
   intro u7 HB7 sz7 K7
   simp only[sQ] at K7⊢
   clear K6 HB6
   go_wp2
   refine⟨⟨k+1,by omega,rfl,HB7,(K7.cv 0),(K7.cv 1),by rw[gat,EY.out,EZ.out];exact(K7.cv 2),(K7.lt 2),(K7.lt 1)⟩,?_⟩
   simp[intOf]<;>omega
  ·have hl:decide ((k:Int)<(ns.length:Int))=false:=by simp;omega
   have hkn:k=ns.length:=by omega
   have K3_1:Bk w.heap.size wr [(false,w.heap.size+1,LN m),(true,w.heap.size+1+1,L0s),(false,b1_7,LN (gat op (x%m) ns k))]:=⟨.c (by omega) Km<| .o lr (K3.lo 1) Kr<| .c lg Kg<|trivial,by simp;omega⟩
   go_upto_region 5 with fail
   refine rgP K3_1 HBr HBr.size [] [] [(0,28,.bool false)] [] [] [false] ?_ ?_
   ·exact oc (g_bn (fun uZ=>Zr _ _ (k:Int) (ns.length:Int) _ uZ hl)) on
   intro u4 HB4 sz4 K4
   simp only[sQ] at K4⊢
   go_upto_region 9 with fail
   refine rgP K4 HB4 HB4.size [.all 1 (LN (gat op (x%m) ns k))] [] [(0,40,NV (gat op (x%m) ns k)),(2,9,(Go.Value.int Go.IntKind.i64 0))] [] [] [true,false] ?_ ?_
   ·exact oc (g_ld 1 uN iN)<|oc (g_st 0 iN)<|oc g_as on
   intro u5 HB5 sz5 K5
   simp only[sQ] at K5⊢
   clear K4 HB4
   have c8:=(K5.cv 0).n4
   go_wp2
   refine bodyPost_ret (v:= .tuple #[NV (gat op (x%m) ns k),.int .i64 0]) (by simp[results,Tryz.results107,go_sem,c8]) rfl ⟨by rw[hkn],HB5⟩
theorem ent_mod_Mul' (vs:Array Value) (w:World):(callFunc 78 vs).run Tryz.prog w= .ok (.enter 78 vs) w:=by kernel_rfl
theorem mProduct (m:Int) (sl:Option Addr) (gb go cap:Nat) (ns:List Int) (w:World) (hns:ns.length<=50) (hm:In m) (h:m≠0) (hn:Hid (∀k,k<ns.length->In (ns.getD k 0))) (hix:Hid (∀j,j<ns.length-> ∀W,(Instr.indexAt 35 (.slice sl ns.length cap) (.int .i64 j)).run Tryz.prog W= .ok (.pointer (some ⟨gb,go+4*j,none⟩)) W)) (hg:ns.length=0\/gb<w.heap.size) (hS:Hid (SN w gb go ns)):
 CC 75 #[NV m,.slice sl ns.length cap] w (.tuple #[NV (gat (fun a b=>(a*b)%m) (1%m) ns ns.length),.int .i64 0]):=by
 go_enter Tryz.func75,Tryz.ntmps75
 go_upto_region 1 with fail
 generalize hC:((w.alloc (.cells (LN m:List Value).toArray 24)).alloc (.cells (L0s:List Value).toArray 24))=v0 at *
 have HB0:Bw w v0:=by rw[<-hC];exact Z1 (Z1 (Z6 w) _) _
 have K0:Bk w.heap.size v0 [(true,w.heap.size,LN m),(true,w.heap.size+1,L0s)]:=by rw[<-hC];exact(Bk.nil _ w).ad.ad
 clear hC
 refine rgD K0 HB0 HB0.size [.no,.all 6 (LN (gat (fun a b=>(a*b)%m) (1%m) ns ns.length))] [] [(0,6,NV 1),(1,7,NV m),(2,8,.slice sl ns.length cap),(3,9,.tuple #[NV (gat (fun a b=>(a*b)%m) (1%m) ns ns.length),.int .i64 0]),(4,10,NV (gat (fun a b=>(a*b)%m) (1%m) ns ns.length)),(5,11,.int .i64 0),(7,5,.int .i64 0)] [] [] [false] ?_ ?_
 ·exact oc (g_cl Zc (fun uZ=>nOf 1 uZ (by omega) (by omega)))<|oc (g_ld 0 uN iN)<|oc g_mv<|oc (g_cb ent_mod_gather (fun uZ bZ=>mgather 78 (fun a b=>(a*b)%m) 1 m sl gb go cap ns uZ hns In_1 hm h ent_mod_Mul' (fun a b ha hb u=>mMul a b m u ha hb hm h) (fun a b ha hb=>Zw hm h) hn hix (hg.imp id (fun h=>Nat.lt_of_lt_of_le h bZ.size)) (hS.out.below2 bZ hg)))<|oc g_ex<|oc g_ex<|oc (g_st 1 iN)<|oc g_as on
 intro u1 HB1 sz1 K1
 simp only[sQ] at K1⊢
 clear K0 HB0
 have c4:=(K1.cv 0).n4
 go_wp2
 refine bodyPost_ret (v:= .tuple #[NV (gat (fun a b=>(a*b)%m) (1%m) ns ns.length),.int .i64 0]) (by simp[results,Tryz.results75,go_sem,c4]) rfl ⟨rfl,HB1⟩
theorem Zi:EnT 16:=fun _ _=>by kernel_rfl
theorem In_7:In 7:=⟨by omega,by omega⟩
def chE (p q:Int):Int:=if gOk p q then 0 else 90
theorem xchk_o (p q g h:Int) (w:World) (hp:In p) (hq:In q) (i2:In (q+q -115792089237316195423570985008687907853269984665640564039457584007913129639936)) (h2:115792089237316195423570985008687907853269984665640564039457584007913129639936<=q+q):
 CC 16 #[GX p q g h] w (.int .i64 90):=by
 go_enter Tryz.func16,Tryz.ntmps16
 go_upto_region 1 with fail
 generalize hC:(w.alloc (.cells (GE (p) (q) (g) (h):List Value).toArray 26))=v0 at *
 have HB0:Bw w v0:=by rw[<-hC];exact Z1 (Z6 w) _
 have K0:Bk w.heap.size v0 [(true,w.heap.size,GE (p) (q) (g) (h))]:=by rw[<-hC];exact(Bk.nil _ w).ad
 clear hC
 refine rgP K0 HB0 HB0.size [] [(8,3,L0s,some (9,LN (q+q -115792089237316195423570985008687907853269984665640564039457584007913129639936)))] [(0,8,.pointer (some ⟨w.heap.size,4,none⟩)),(1,9,NV q),(2,10,.pointer (some ⟨w.heap.size,4,none⟩)),(3,11,NV q),(4,12,.tuple #[NV (q+q -115792089237316195423570985008687907853269984665640564039457584007913129639936),.bool true]),(5,7,.tuple #[NV (q+q -115792089237316195423570985008687907853269984665640564039457584007913129639936),.bool true]),(6,13,NV (q+q -115792089237316195423570985008687907853269984665640564039457584007913129639936)),(7,14,.bool true),(10,4,.bool true)] [(9,8)] [] [false] ?_ ?_
 ·exact oc (g_fd (fun uZ=>fdG1 _ uZ))<|oc (g_lo 0 4 uN iN)<|oc (g_fd (fun uZ=>fdG1 _ uZ))<|oc (g_lo 0 4 uN iN)<|oc (g_cl Z9 (fun uZ=>nrAdd_ge q q uZ hq hq h2))<|oc g_mv<|oc g_ex<|oc g_ex<|oc (g_al 0 aN)<|oc (g_sn 0 iN)<|oc g_as on
 intro u1 b1_8 HB1 sz1 K1
 simp only[sQ] at K1⊢
 clear K0 HB0
 go_upto_region 2 with fail
 refine rgP K1 HB1 HB1.size [] [(6,5,L0s,some (7,LN (q+q -115792089237316195423570985008687907853269984665640564039457584007913129639936+1)))] [(0,16,NV (q+q -115792089237316195423570985008687907853269984665640564039457584007913129639936)),(1,17,NV 1),(2,18,.tuple #[NV (q+q -115792089237316195423570985008687907853269984665640564039457584007913129639936+1),.bool (ovB (q+q -115792089237316195423570985008687907853269984665640564039457584007913129639936) 1)]),(3,15,.tuple #[NV (q+q -115792089237316195423570985008687907853269984665640564039457584007913129639936+1),.bool (ovB (q+q -115792089237316195423570985008687907853269984665640564039457584007913129639936) 1)]),(4,19,NV (q+q -115792089237316195423570985008687907853269984665640564039457584007913129639936+1)),(5,20,.bool (ovB (q+q -115792089237316195423570985008687907853269984665640564039457584007913129639936) 1)),(8,6,.bool (ovB (q+q -115792089237316195423570985008687907853269984665640564039457584007913129639936) 1))] [(7,6)] [] [false,false] ?_ ?_
 ·exact oc (g_ld 0 uN iN)<|oc (g_bd (fun uZ=>bdX 1 (by omega) (by omega) uZ))<|oc (g_cl Z9 (fun uZ=>nrAdd (q+q -115792089237316195423570985008687907853269984665640564039457584007913129639936) 1 uZ i2 In_1))<|oc g_mv<|oc g_ex<|oc g_ex<|oc (g_al 0 aN)<|oc (g_sn 0 iN)<|oc g_as on
 intro u2 b2_6 HB2 sz2 K2
 simp only[sQ] at K2⊢
 clear K1 HB1
 go_upto_region 3 with fail
 refine rgP K2 HB2 HB2.size [] [] [(0,21,.bool true),(1,22,.bool true),(2,23,undef),(3,24,(Go.Value.bool Bool.true)),(4,25,(Go.Value.bool Bool.true)),(5,26,undef),(6,27,undef),(7,28,undef),(8,29,undef),(9,30,(Go.Value.bool Bool.true)),(10,31,(Go.Value.bool Bool.true)),(11,32,undef),(12,33,undef),(13,34,undef),(14,35,undef),(15,36,undef),(16,37,(Go.Value.bool Bool.true)),(17,38,(Go.Value.bool Bool.true)),(18,39,undef),(19,40,undef),(20,41,undef),(21,42,undef),(22,43,undef),(23,44,(Go.Value.bool Bool.true))] [] [] [] ?_ ?_
 ·exact oc g_mv<|oc g_mv<|oc g_sk<|oc g_pk<|oc g_mv<|oc g_sk<|oc g_sk<|oc g_sk<|oc g_sk<|oc g_pk<|oc g_mv<|oc g_sk<|oc g_sk<|oc g_sk<|oc g_sk<|oc g_sk<|oc g_pk<|oc g_mv<|oc g_sk<|oc g_sk<|oc g_sk<|oc g_sk<|oc g_sk<|oc g_pk on
 intro u3 HB3 sz3 K3
 simp only[sQ] at K3⊢
 clear K2 HB2
 go_upto_region 4 with fail
 refine rgP K3 HB3 HB3.size [] [] [(0,2,(Go.Value.int Go.IntKind.i64 90))] [] [] [] ?_ ?_
 ·exact oc g_as on
 intro u4 HB4 sz4 K4
 simp only[sQ] at K4⊢
 clear K3 HB3
 go_wp2
 refine bodyPost_ret (v:= .int .i64 90) (by simp[results,Tryz.results16,go_sem,]) rfl ⟨rfl,HB4⟩
theorem xchk_n (p q g h:Int) (w:World) (hp:In p) (hq:In q) (i2:In (q+q)) (i3:In (q+q+1)) (d0:0<=D0 p) (d1:D0 p<18446744073709551616) (h2:q+q<115792089237316195423570985008687907853269984665640564039457584007913129639936) (h3:q+q+1<115792089237316195423570985008687907853269984665640564039457584007913129639936) (h4:decide (q+q+1=p)=!true):
 CC 16 #[GX p q g h] w (.int .i64 90):=by
 go_enter Tryz.func16,Tryz.ntmps16
 go_upto_region 1 with fail
 generalize hC:(w.alloc (.cells (GE (p) (q) (g) (h):List Value).toArray 26))=v0 at *
 have HB0:Bw w v0:=by rw[<-hC];exact Z1 (Z6 w) _
 have K0:Bk w.heap.size v0 [(true,w.heap.size,GE (p) (q) (g) (h))]:=by rw[<-hC];exact(Bk.nil _ w).ad
 clear hC
 refine rgP K0 HB0 HB0.size [] [(8,3,L0s,some (9,LN (q+q)))] [(0,8,.pointer (some ⟨w.heap.size,4,none⟩)),(1,9,NV q),(2,10,.pointer (some ⟨w.heap.size,4,none⟩)),(3,11,NV q),(4,12,.tuple #[NV (q+q),.bool false]),(5,7,.tuple #[NV (q+q),.bool false]),(6,13,NV (q+q)),(7,14,.bool false),(10,4,.bool false)] [(9,8)] [] [] ?_ ?_
 ·exact oc (g_fd (fun uZ=>fdG1 _ uZ))<|oc (g_lo 0 4 uN iN)<|oc (g_fd (fun uZ=>fdG1 _ uZ))<|oc (g_lo 0 4 uN iN)<|oc (g_cl Z9 (fun uZ=>Vc q q uZ hq hq h2))<|oc g_mv<|oc g_ex<|oc g_ex<|oc (g_al 0 aN)<|oc (g_sn 0 iN)<|oc g_as on
 intro u1 b1_8 HB1 sz1 K1
 simp only[sQ] at K1⊢
 clear K0 HB0
 go_upto_region 2 with fail
 refine rgP K1 HB1 HB1.size [] [(6,5,L0s,some (7,LN (q+q+1)))] [(0,16,NV (q+q)),(1,17,NV 1),(2,18,.tuple #[NV (q+q+1),.bool false]),(3,15,.tuple #[NV (q+q+1),.bool false]),(4,19,NV (q+q+1)),(5,20,.bool false),(8,6,.bool false)] [(7,6)] [] [true,false] ?_ ?_
 ·exact oc (g_ld 1 uN iN)<|oc (g_bd (fun uZ=>bdX 1 (by omega) (by omega) uZ))<|oc (g_cl Z9 (fun uZ=>Vc (q+q) 1 uZ i2 In_1 h3))<|oc g_mv<|oc g_ex<|oc g_ex<|oc (g_al 0 aN)<|oc (g_sn 0 iN)<|oc g_as on
 intro u2 b2_6 HB2 sz2 K2
 simp only[sQ] at K2⊢
 clear K1 HB1
 go_upto_region 3 with fail
 refine rgP K2 HB2 HB2.size [] [] [(0,21,.bool false),(1,22,.bool false),(2,23,.bool false),(3,24,.bool false),(4,25,.bool false),(5,26,NV (q+q+1)),(6,27,.pointer (some ⟨w.heap.size,0,none⟩)),(7,28,NV p),(8,29,.bool true),(9,30,.bool true),(10,31,.bool true),(11,32,undef),(12,33,undef),(13,34,undef),(14,35,undef),(15,36,undef),(16,37,(Go.Value.bool Bool.true)),(17,38,(Go.Value.bool Bool.true)),(18,39,undef),(19,40,undef),(20,41,undef),(21,42,undef),(22,43,undef),(23,44,(Go.Value.bool Bool.true))] [] [] [false,false] ?_ ?_
 ·exact oc g_mv<|oc g_mv<|oc g_mv<|oc g_pk<|oc g_mv<|oc (g_ld 1 uN iN)<|oc (g_fd (fun uZ=>fdG0 _ uZ))<|oc (g_lo 0 0 uN iN)<|oc (g_bn (fun uZ=>neq_n _ _ i3 hp _ h4 uZ))<|oc g_pk<|oc g_mv<|oc g_sk<|oc g_sk<|oc g_sk<|oc g_sk<|oc g_sk<|oc g_pk<|oc g_mv<|oc g_sk<|oc g_sk<|oc g_sk<|oc g_sk<|oc g_sk<|oc g_pk on
 intro u3 HB3 sz3 K3
 simp only[sQ] at K3⊢
 clear K2 HB2
 go_upto_region 4 with fail
 refine rgP K3 HB3 HB3.size [] [] [(0,2,(Go.Value.int Go.IntKind.i64 90))] [] [] [] ?_ ?_
 ·exact oc g_as on
 intro u4 HB4 sz4 K4
 simp only[sQ] at K4⊢
 clear K3 HB3
 go_wp2
 refine bodyPost_ret (v:= .int .i64 90) (by simp[results,Tryz.results16,go_sem,]) rfl ⟨rfl,HB4⟩
theorem xchk_7 (p q g h:Int) (w:World) (hp:In p) (hq:In q) (i2:In (q+q)) (i3:In (q+q+1)) (d0:0<=D0 p) (d1:D0 p<18446744073709551616) (h2:q+q<115792089237316195423570985008687907853269984665640564039457584007913129639936) (h3:q+q+1<115792089237316195423570985008687907853269984665640564039457584007913129639936) (h4:decide (q+q+1=p)=!false) (h5:decide (cmpI p 7<0)=true):
 CC 16 #[GX p q g h] w (.int .i64 90):=by
 go_enter Tryz.func16,Tryz.ntmps16
 go_upto_region 1 with fail
 generalize hC:(w.alloc (.cells (GE (p) (q) (g) (h):List Value).toArray 26))=v0 at *
 have HB0:Bw w v0:=by rw[<-hC];exact Z1 (Z6 w) _
 have K0:Bk w.heap.size v0 [(true,w.heap.size,GE (p) (q) (g) (h))]:=by rw[<-hC];exact(Bk.nil _ w).ad
 clear hC
 refine rgP K0 HB0 HB0.size [] [(8,3,L0s,some (9,LN (q+q)))] [(0,8,.pointer (some ⟨w.heap.size,4,none⟩)),(1,9,NV q),(2,10,.pointer (some ⟨w.heap.size,4,none⟩)),(3,11,NV q),(4,12,.tuple #[NV (q+q),.bool false]),(5,7,.tuple #[NV (q+q),.bool false]),(6,13,NV (q+q)),(7,14,.bool false),(10,4,.bool false)] [(9,8)] [] [] ?_ ?_
 ·exact oc (g_fd (fun uZ=>fdG1 _ uZ))<|oc (g_lo 0 4 uN iN)<|oc (g_fd (fun uZ=>fdG1 _ uZ))<|oc (g_lo 0 4 uN iN)<|oc (g_cl Z9 (fun uZ=>Vc q q uZ hq hq h2))<|oc g_mv<|oc g_ex<|oc g_ex<|oc (g_al 0 aN)<|oc (g_sn 0 iN)<|oc g_as on
 intro u1 b1_8 HB1 sz1 K1
 simp only[sQ] at K1⊢
 clear K0 HB0
 go_upto_region 2 with fail
 refine rgP K1 HB1 HB1.size [] [(6,5,L0s,some (7,LN (q+q+1)))] [(0,16,NV (q+q)),(1,17,NV 1),(2,18,.tuple #[NV (q+q+1),.bool false]),(3,15,.tuple #[NV (q+q+1),.bool false]),(4,19,NV (q+q+1)),(5,20,.bool false),(8,6,.bool false)] [(7,6)] [] [true,false] ?_ ?_
 ·exact oc (g_ld 1 uN iN)<|oc (g_bd (fun uZ=>bdX 1 (by omega) (by omega) uZ))<|oc (g_cl Z9 (fun uZ=>Vc (q+q) 1 uZ i2 In_1 h3))<|oc g_mv<|oc g_ex<|oc g_ex<|oc (g_al 0 aN)<|oc (g_sn 0 iN)<|oc g_as on
 intro u2 b2_6 HB2 sz2 K2
 simp only[sQ] at K2⊢
 clear K1 HB1
 go_upto_region 3 with fail
 refine rgP K2 HB2 HB2.size [] [] [(0,21,.bool false),(1,22,.bool false),(2,23,.bool false),(3,24,.bool false),(4,25,.bool false),(5,26,NV (q+q+1)),(6,27,.pointer (some ⟨w.heap.size,0,none⟩)),(7,28,NV p),(8,29,.bool false),(9,30,.bool false),(10,31,.bool false),(11,32,.pointer (some ⟨w.heap.size,0,none⟩)),(12,33,NV p),(13,34,NV 7),(14,35,.int .i64 (cmpI p 7)),(15,36,.bool true),(16,37,.bool true),(17,38,.bool true),(18,39,undef),(19,40,undef),(20,41,undef),(21,42,undef),(22,43,undef),(23,44,(Go.Value.bool Bool.true))] [] [] [false,false] ?_ ?_
 ·exact oc g_mv<|oc g_mv<|oc g_mv<|oc g_pk<|oc g_mv<|oc (g_ld 1 uN iN)<|oc (g_fd (fun uZ=>fdG0 _ uZ))<|oc (g_lo 0 0 uN iN)<|oc (g_bn (fun uZ=>neq_n _ _ i3 hp _ h4 uZ))<|oc g_pk<|oc g_mv<|oc (g_fd (fun uZ=>fdG0 _ uZ))<|oc (g_lo 0 0 uN iN)<|oc (g_bd (fun uZ=>bdX 7 (by omega) (by omega) uZ))<|oc (g_cl Zk (fun uZ=>V0 p 7 uZ hp In_7))<|oc (g_bn (fun uZ=>Zr _ _ (cmpI p 7) 0 _ uZ h5))<|oc g_pk<|oc g_mv<|oc g_sk<|oc g_sk<|oc g_sk<|oc g_sk<|oc g_sk<|oc g_pk on
 intro u3 HB3 sz3 K3
 simp only[sQ] at K3⊢
 clear K2 HB2
 go_upto_region 4 with fail
 refine rgP K3 HB3 HB3.size [] [] [(0,2,(Go.Value.int Go.IntKind.i64 90))] [] [] [] ?_ ?_
 ·exact oc g_as on
 intro u4 HB4 sz4 K4
 simp only[sQ] at K4⊢
 clear K3 HB3
 go_wp2
 refine bodyPost_ret (v:= .int .i64 90) (by simp[results,Tryz.results16,go_sem,]) rfl ⟨rfl,HB4⟩
theorem xchk_k (p q g h:Int) (w:World) (hp:In p) (hq:In q) (i2:In (q+q)) (i3:In (q+q+1)) (d0:0<=D0 p) (d1:D0 p<18446744073709551616) (h2:q+q<115792089237316195423570985008687907853269984665640564039457584007913129639936) (h3:q+q+1<115792089237316195423570985008687907853269984665640564039457584007913129639936) (h4:decide (q+q+1=p)=!false) (h5:decide (cmpI p 7<0)=false) (h6:(D0 p%2==0)=false):
 CC 16 #[GX p q g h] w (.int .i64 0):=by
 go_enter Tryz.func16,Tryz.ntmps16
 go_upto_region 1 with fail
 generalize hC:(w.alloc (.cells (GE (p) (q) (g) (h):List Value).toArray 26))=v0 at *
 have HB0:Bw w v0:=by rw[<-hC];exact Z1 (Z6 w) _
 have K0:Bk w.heap.size v0 [(true,w.heap.size,GE (p) (q) (g) (h))]:=by rw[<-hC];exact(Bk.nil _ w).ad
 clear hC
 refine rgP K0 HB0 HB0.size [] [(8,3,L0s,some (9,LN (q+q)))] [(0,8,.pointer (some ⟨w.heap.size,4,none⟩)),(1,9,NV q),(2,10,.pointer (some ⟨w.heap.size,4,none⟩)),(3,11,NV q),(4,12,.tuple #[NV (q+q),.bool false]),(5,7,.tuple #[NV (q+q),.bool false]),(6,13,NV (q+q)),(7,14,.bool false),(10,4,.bool false)] [(9,8)] [] [] ?_ ?_
 ·exact oc (g_fd (fun uZ=>fdG1 _ uZ))<|oc (g_lo 0 4 uN iN)<|oc (g_fd (fun uZ=>fdG1 _ uZ))<|oc (g_lo 0 4 uN iN)<|oc (g_cl Z9 (fun uZ=>Vc q q uZ hq hq h2))<|oc g_mv<|oc g_ex<|oc g_ex<|oc (g_al 0 aN)<|oc (g_sn 0 iN)<|oc g_as on
 intro u1 b1_8 HB1 sz1 K1
 simp only[sQ] at K1⊢
 clear K0 HB0
 go_upto_region 2 with fail
 refine rgP K1 HB1 HB1.size [] [(6,5,L0s,some (7,LN (q+q+1)))] [(0,16,NV (q+q)),(1,17,NV 1),(2,18,.tuple #[NV (q+q+1),.bool false]),(3,15,.tuple #[NV (q+q+1),.bool false]),(4,19,NV (q+q+1)),(5,20,.bool false),(8,6,.bool false)] [(7,6)] [] [true,false] ?_ ?_
 ·exact oc (g_ld 1 uN iN)<|oc (g_bd (fun uZ=>bdX 1 (by omega) (by omega) uZ))<|oc (g_cl Z9 (fun uZ=>Vc (q+q) 1 uZ i2 In_1 h3))<|oc g_mv<|oc g_ex<|oc g_ex<|oc (g_al 0 aN)<|oc (g_sn 0 iN)<|oc g_as on
 intro u2 b2_6 HB2 sz2 K2
 simp only[sQ] at K2⊢
 clear K1 HB1
 go_upto_region 3 with fail
 refine rgP K2 HB2 HB2.size [] [] [(0,21,.bool false),(1,22,.bool false),(2,23,.bool false),(3,24,.bool false),(4,25,.bool false),(5,26,NV (q+q+1)),(6,27,.pointer (some ⟨w.heap.size,0,none⟩)),(7,28,NV p),(8,29,.bool false),(9,30,.bool false),(10,31,.bool false),(11,32,.pointer (some ⟨w.heap.size,0,none⟩)),(12,33,NV p),(13,34,NV 7),(14,35,.int .i64 (cmpI p 7)),(15,36,.bool false),(16,37,.bool false),(17,38,.bool false),(18,39,.pointer (some ⟨w.heap.size,0,none⟩)),(19,40,.pointer (some ⟨w.heap.size,0,none⟩)),(20,41,.int .u64 (D0 (p))),(21,42,.int .u64 (D0 p%2)),(22,43,.bool false),(23,44,.bool false)] [] [] [false,false] ?_ ?_
 ·exact oc g_mv<|oc g_mv<|oc g_mv<|oc g_pk<|oc g_mv<|oc (g_ld 1 uN iN)<|oc (g_fd (fun uZ=>fdG0 _ uZ))<|oc (g_lo 0 0 uN iN)<|oc (g_bn (fun uZ=>neq_n _ _ i3 hp _ h4 uZ))<|oc g_pk<|oc g_mv<|oc (g_fd (fun uZ=>fdG0 _ uZ))<|oc (g_lo 0 0 uN iN)<|oc (g_bd (fun uZ=>bdX 7 (by omega) (by omega) uZ))<|oc (g_cl Zk (fun uZ=>V0 p 7 uZ hp In_7))<|oc (g_bn (fun uZ=>Zr _ _ (cmpI p 7) 0 _ uZ h5))<|oc g_pk<|oc g_mv<|oc (g_fd (fun uZ=>fdG0 _ uZ))<|oc (g_ix (jN 0))<|oc (g_lc 0 0 lU)<|oc (g_bn (fun uZ=>rem_u _ _ (D0 p) 2 (D0 p%2) uZ d0 d1 (by omega) rfl))<|oc (g_bn (fun uZ=>eql_u _ _ _ (D0 p%2) 0 _ uZ h6))<|oc g_pk on
 intro u3 HB3 sz3 K3
 simp only[sQ] at K3⊢
 clear K2 HB2
 go_upto_region 5 with fail
 refine rgP K3 HB3 HB3.size [] [] [(0,2,(Go.Value.int Go.IntKind.i64 0))] [] [] [] ?_ ?_
 ·exact oc g_as on
 intro u4 HB4 sz4 K4
 simp only[sQ] at K4⊢
 clear K3 HB3
 go_wp2
 refine bodyPost_ret (v:= .int .i64 0) (by simp[results,Tryz.results16,go_sem,]) rfl ⟨rfl,HB4⟩
theorem xCheckG (p q g h:Int) (w:World) (hp:In p) (hq:In q):CC 16 #[GX p q g h] w (.int .i64 (chE p q)):=by
 have hq0:=hq.1
 have hq1:=hq.2
 have hp1:=hp.2
 have e90: ¬(p=2*q+1/\7<=p)->chE p q=90:=fun h=>if_neg h
 have e0:(p=2*q+1/\7<=p)->chE p q=0:=fun h=>if_pos h
 by_cases h2:115792089237316195423570985008687907853269984665640564039457584007913129639936<=q+q
 ·rw[e90 (by omega)]
  exact xchk_o p q g h w hp hq ⟨by omega,by omega⟩ h2
 have hd:0<=D0 p/\D0 p<18446744073709551616:=by unfold D0;omega
 have i2:In (q+q):=⟨by omega,by omega⟩
 have i3:In (q+q+1):=⟨by omega,by omega⟩
 by_cases h4:q+q+1=p
 ·have h4':decide (q+q+1=p)=!false:=by simp[h4]
  by_cases h7:p<7
  ·rw[e90 (by omega)]
   exact xchk_7 p q g h w hp hq i2 i3 hd.1 hd.2 (by omega) (by omega) h4' (by rw[cmp_lt0];simp only[h7,decide_true])
  ·rw[e0 (by omega)]
   exact xchk_k p q g h w hp hq i2 i3 hd.1 hd.2 (by omega) (by omega) h4' (by rw[cmp_lt0];simp only[h7,decide_false]) (by rw[D0_odd];simp;omega)
 ·rw[e90 (by omega)]
  exact xchk_n p q g h w hp hq i2 i3 hd.1 hd.2 (by omega) (by omega) (by simp[h4])
def isB (p q x:Int):Bool:=decide (gOk p q/\Mb p q x)
def exPE (p q x:Int):Int:=if isB p q x then 0 else 90
def exPX (p q x e:Int):Int:=if isB p q x then x^(e%q).toNat%p else 0
theorem isB_t {p q x:Int} (h:isB p q x=true):gOk p q/\Mb p q x:=of_decide_eq_true h
def coE (p q g h:Int):Int:=if isB p q g&&isB p q h then 0 else 90
def coX (p q g h s t:Int):Int:=if isB p q g&&isB p q h then g^(s%q).toNat%p*(h^(t%q).toNat%p)%p else 0
def mlB (p q:Int) (ns:List Int):Bool:=decide (gOk p q)&&ns.all (isB p q)
def mlE (p q:Int) (ns:List Int):Int:=if mlB p q ns then 0 else 90
def mlX (p q:Int) (ns:List Int):Int:=if mlB p q ns then gat (fun a b=>(a*b)%p) (1%p) ns ns.length else 0
def NL (u:World) (v:Value) (ns:List Int):Prop:= ∃sl gb go cap,v= .slice sl ns.length cap/\ns.length<=cap/\(sl=none->cap=0)/\(ns=[]\/sl=some ⟨gb,go,none⟩)/\(ns.length=0\/gb<u.heap.size)/\SN u gb go ns
theorem NL.up {w u:World} {v:Value} {ns:List Int} (h:NL w v ns) (hB:Bw w u):NL u v ns:=by
 obtain⟨sl,gb,go,cap,h1,h2,h3,h4,h5,h6⟩:=h
 refine⟨sl,gb,go,cap,h1,h2,h3,h4,h5.imp id fun e=>Nat.lt_of_lt_of_le e hB.size,?_⟩
 rcases h5 with h5 | h5
 ·exact SN.empty h5
 ·exact h6.below hB h5
def N2 (a b:Int) (u:World) (v:Value):Prop:=NL u v [a,b]
theorem N2.stab {a b:Int} {u u2:World} {x:Value} (hB:Bw u u2) (h:N2 a b u x):N2 a b u2 x:=NL.up h hB
theorem bsN2 (a b:Int) (w:World):(Instr.buildSlice 35 2 ([0,1].zip [NV a,NV b]).toArray).run Tryz.prog w= .ok (.slice (some ⟨w.heap.size,0,none⟩) 2 2) (w.alloc (.cells (flN [a,b]).toArray 24)):=by kernel_rfl
theorem inN2 (a b:Int) (u:World):N2 a b (u.alloc (.cells (flN [a,b]).toArray 24)) (.slice (some ⟨u.heap.size,0,none⟩) 2 2):=
 ⟨_,u.heap.size,0,2,rfl,by simp,by simp,.inr rfl,.inr (by simp),fun j v hj=>by rw[Nat.zero_add];exact(CV.new u (flN [a,b]) 24 j v hj).1⟩
def N1x (a:Int) (u:World) (v:Value):Prop:=NL u v [a]
theorem N1x.stab {a:Int} {u u2:World} {x:Value} (hB:Bw u u2) (h:N1x a u x):N1x a u2 x:=NL.up h hB
theorem bsNx1 (a:Int) (w:World):(Instr.buildSlice 35 1 ([0].zip [NV a]).toArray).run Tryz.prog w= .ok (.slice (some ⟨w.heap.size,0,none⟩) 1 1) (w.alloc (.cells (flN [a]).toArray 24)):=by kernel_rfl
theorem inNx1 (a:Int) (u:World):N1x a (u.alloc (.cells (flN [a]).toArray 24)) (.slice (some ⟨u.heap.size,0,none⟩) 1 1):=
 ⟨_,u.heap.size,0,1,rfl,by simp,by simp,.inr rfl,.inr (by simp),fun j v hj=>by rw[Nat.zero_add];exact(CV.new u (flN [a]) 24 j v hj).1⟩
end Go.Proofs.YtknpepgonhdbgaaGreatDoor
