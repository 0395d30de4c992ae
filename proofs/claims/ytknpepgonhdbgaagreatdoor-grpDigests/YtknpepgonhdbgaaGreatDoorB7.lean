import Derived.Test.YtknpepgonhdbgaaGreatDoorCT3
import Derived.Deep.OwnRows
namespace Go.Proofs.YtknpepgonhdbgaaGreatDoor
set_option linter.unusedVariables false
set_option linter.unusedSimpArgs false
set_option maxRecDepth 100000
set_option maxHeartbeats 4000000
open Go.RowKit
def byl (a b c d:Int):List Int:=(List.range 32).map fun j=>byp a b c d (31 -j)
theorem CB.get {w:World} {g:Nat} {a b c d:Int} (h:CB w g 32 a b c d): ∀i,i<32->w.cell? ⟨g,0+i,none⟩=some (.int .u8 ((byl a b c d).getD i 0)):=fun i hi=>by
 have:=(h i hi).1
 rw[if_pos (by omega)] at this
 rw[Nat.zero_add,this]
 unfold byl
 simp[List.getD,hi]
theorem Tryz.info5:(Tryz.prog.info? 5).map (fun i=>(i.zero,i.size,i.bytes))=some (some (.int .u8 0),1,1):=by kernel_rfl
def hexc (v:Int):Int:=if v<10 then 48+v else 87+v
def nib (a b c d:Int) (p:Nat):Int:=(if p/16=0 then a else if p/16=1 then b else if p/16=2 then c else d)/2^(p%16*4)%16
theorem hex_at (v:Int) (h0:0<=v) (h1:v<16) (hh:v.toNat<(ByteArray.mk #[48,49,50,51,52,53,54,55,56,57,97,98,99,100,101,102]).size):((((ByteArray.mk #[48,49,50,51,52,53,54,55,56,57,97,98,99,100,101,102])[v.toNat]'hh).toNat:Nat):Int)=hexc v:=by
 obtain⟨n,rfl⟩:=Int.eq_ofNat_of_zero_le h0
 have hn:n<16:=by omega
 have key: ∀m:Fin 16,((((ByteArray.mk #[48,49,50,51,52,53,54,55,56,57,97,98,99,100,101,102])[m.val]'(by have:=m.isLt;show m.val<16;omega)).toNat:Nat):Int)=hexc (m.val:Int):=by decide
 exact key ⟨n,hn⟩
theorem and15 (x:Int) (h:W64 x):bits .and .u64 x 15=x%16:=by
 obtain⟨h1,h2⟩:=h
 obtain⟨x,rfl⟩:=Int.eq_ofNat_of_zero_le h1
 have e:=bits_and_u64_nat x 15 (by omega) (by omega)
 have f:x&&&15=x%16:=Nat.and_two_pow_sub_one_eq_mod x 4
 rw[f] at e
 exact e.trans (by omega)
def CT (w:World) (n N k:Nat) (a b c d:Int):Prop:= ∀j,j<N->w.cell? ⟨n,j,none⟩=some (.int .u8 (if N<=j+k then hexc (nib a b c d (N -1 -j)) else 0))/\w.frozen? ⟨n,j,none⟩=false
theorem CT.set {w:World} {n N k o:Nat} {a b c d:Int} (h:CT w n N k a b c d) (hk:k<N) (ho:o=N -1 -k) (v:Int) (hv:v=hexc (nib a b c d k)):CT (w.setCell ⟨n,o,none⟩ (.int .u8 v)) n N (k+1) a b c d:=fun j hj=>by
 subst ho
 rw[World.frozen?_setCell]
 obtain⟨hc,hf⟩:=h (N -1 -k) (by omega)
 by_cases e:j=N -1 -k
 ·subst e
  refine⟨?_,hf⟩
  rw[if_pos (by omega),show N -1 -(N -1 -k)=k by omega,hv]
  simp[go_sem,hc]
 ·obtain⟨hc',hf'⟩:=h j hj
  refine⟨?_,hf'⟩
  rw[World.cell?_setCell_other _ _ _ _ (by simp<;>omega),hc']
  by_cases g:N<=j+k
  ·rw[if_pos g,if_pos (by omega)]
  ·rw[if_neg g,if_neg (by omega)]
theorem CT.new (w:World) (N:Nat) (a b c d:Int):CT (w.alloc (.cells (madeCells #[.int .u8 0] N) 5)) w.heap.size N 0 a b c d:=fun j hj=>by
 have hf:(w.alloc (.cells (madeCells #[.int .u8 0] N) 5)).frozen? ⟨w.heap.size,j,none⟩=false:=by simp[go_sem]
 refine⟨?_,hf⟩
 rw[cell_of_row _ w.heap.size j _ 5 (0,0) (heap_alloc_new _ _),if_neg (by omega)]
 simp[madeCells,hj,Nat.mod_one]
def txl (a b c d:Int) (N:Nat):List Int:=(List.range N).map fun j=>hexc (nib a b c d (N -1 -j))
theorem CT.get {w:World} {g N:Nat} {a b c d:Int} (h:CT w g N N a b c d): ∀i,i<N->w.cell? ⟨g,0+i,none⟩=some (.int .u8 ((txl a b c d N).getD i 0)):=fun i hi=>by
 have:=(h i hi).1
 rw[if_pos (by omega)] at this
 rw[Nat.zero_add,this]
 unfold txl
 simp[List.getD,hi]
def nd (a b c d:Int):Nat:=if blen a b c d=0 then 1 else ((blen a b c d+3)/4).toNat
theorem blen_bd (a b c d:Int) (ha:W64 a) (hb:W64 b) (hc:W64 c) (hd:W64 d):0<=blen a b c d/\blen a b c d<=256:=by
 have h1:=T7 a ha;have h2:=T7 b hb;have h3:=T7 c hc;have h4:=T7 d hd
 unfold blen;split
 ·omega
 ·split
  ·omega
  ·split
   ·omega
   ·split<;>omega
theorem Text_any (a b c d:Int) (w:World) (ha:W64 a) (hb:W64 b) (hc:W64 c) (hd:W64 d):
 CC 74 #[A4 a b c d] w (.string (strOfNums (txl a b c d (nd a b c d)))):=by
 have hbb:=blen_bd a b c d ha hb hc hd
 obtain⟨N,eN⟩: ∃N,nd a b c d=N:=⟨_,rfl⟩
 rw[eN]
 have hmax:(max 1 ((blen a b c d+3)/4):Int)=(N:Int):=by
  rw[<-eN];unfold nd;split<;>omega
 have hN1:1<=N:=by omega
 have hN2:N<=64:=by omega
 obtain⟨L,eL⟩: ∃L,blen a b c d=L:=⟨_,rfl⟩
 have hlen:=Tw a b c d
 simp only[eL] at hlen hbb hmax
 have HLEN:Hid _:=hlen
 clear hlen eL eN
 have hmk:=fun w=>run_make_row' (P:=Tryz.prog) 36 5 (.int .u8 0) 1 Tryz.underlying36 Tryz.info5 rfl .i64 .i64 N (by omega) (by omega) w
 go_enter Tryz.func74,Tryz.ntmps74
 go_wp2_with fail
 refine(HLEN.out _ ha hb hc hd).mono ?_
 rintro en w1 ⟨rfl,hB⟩
 have hA1:C4 w1 w.heap.size a b c d:=C4.below (by unfold C4;simp[go_sem]) hB (by simp)
 have hq1:Bw w w1:=Zz (Z1 (Z6 w) _) hB
 have hs1:=hB.size
 simp only[World.size_alloc] at hs1
 clear hB
 have HM:Hid _:=hmax
 go_wp2
 go_loopw [14] (fun i wr=> ∃k:Nat,k<=N/\i= .int .i64 k/\Bw w wr/\w1.heap.size<wr.heap.size/\C4 wr w.heap.size a b c d/\CT wr w1.heap.size N k a b c d) (fun i _=>N -(intOf i).toNat)
 case atStart=>
  exact⟨0,by omega,rfl,Z1 hq1 _,by simp,hA1.alloc (by omega) _,CT.new w1 N a b c d⟩
 case round=>
  clear hA1 hq1 hmk hmax
  obtain⟨k,hk,rfl,hB,hs,hA,hO⟩:=hrel
  by_cases hlt:k<N
  ·have hlt':(k:Int)<(N:Int):=by omega
   have hA':=hA
   obtain⟨⟨ac0,ac1,ac2,ac3⟩,_⟩:=hA'
   obtain⟨oc,of⟩:=hO (N -1 -k) (by omega)
   have hz:(if N<=N -1 -k+k then hexc (nib a b c d (N -1 -(N -1 -k))) else 0)=0:=if_neg (by omega)
   rw[hz] at oc
   clear hz
   have hq:k/16=0\/k/16=1\/k/16=2\/k/16=3:=by omega
   rcases hq with hq | hq | hq | hq
   ·have hq':(k:Int)/16=0:=by omega
    have hnd:=and15 _ (W_shr a (k%16*4) ha)
    have hv0:0<=a/2^(k%16*4)%16:=by omega
    have hv1:a/2^(k%16*4)%16<16:=by omega
    go_wp2
    refine⟨⟨k+1,by omega,by go_num,?_,by simpa using hs,hA.other _ (by dsimp only;omega) _,hO.set hlt (by omega) _ ?_⟩,by simp[intOf];omega⟩
    ·exact hB.setCell (by show _<=_;dsimp only;omega) _
    ·rw[hex_at _ hv0 hv1];unfold nib;simp[hq]
   ·have hq':(k:Int)/16=1:=by omega
    have hnd:=and15 _ (W_shr b (k%16*4) hb)
    have hv0:0<=b/2^(k%16*4)%16:=by omega
    have hv1:b/2^(k%16*4)%16<16:=by omega
    go_wp2
    refine⟨⟨k+1,by omega,by go_num,?_,by simpa using hs,hA.other _ (by dsimp only;omega) _,hO.set hlt (by omega) _ ?_⟩,by simp[intOf];omega⟩
    ·exact hB.setCell (by show _<=_;dsimp only;omega) _
    ·rw[hex_at _ hv0 hv1];unfold nib;simp[hq]
   ·have hq':(k:Int)/16=2:=by omega
    have hnd:=and15 _ (W_shr c (k%16*4) hc)
    have hv0:0<=c/2^(k%16*4)%16:=by omega
    have hv1:c/2^(k%16*4)%16<16:=by omega
    go_wp2
    refine⟨⟨k+1,by omega,by go_num,?_,by simpa using hs,hA.other _ (by dsimp only;omega) _,hO.set hlt (by omega) _ ?_⟩,by simp[intOf];omega⟩
    ·exact hB.setCell (by show _<=_;dsimp only;omega) _
    ·rw[hex_at _ hv0 hv1];unfold nib;simp[hq]
   ·have hq':(k:Int)/16=3:=by omega
    have hnd:=and15 _ (W_shr d (k%16*4) hd)
    have hv0:0<=d/2^(k%16*4)%16:=by omega
    have hv1:d/2^(k%16*4)%16<16:=by omega
    go_wp2
    refine⟨⟨k+1,by omega,by go_num,?_,by simpa using hs,hA.other _ (by dsimp only;omega) _,hO.set hlt (by omega) _ ?_⟩,by simp[intOf];omega⟩
    ·exact hB.setCell (by show _<=_;dsimp only;omega) _
    ·rw[hex_at _ hv0 hv1];unfold nib;simp[hq]
  ·have hkN:k=N:=by omega
   subst hkN
   have hcv:=run_convert_bytes_arg (P:=Tryz.prog) wr 36 5 Tryz.underlying36 Tryz.underlying5 w1.heap.size 0 k k (txl a b c d k) (by simp[txl]) hO.get 9 Tryz.underlying9
   go_wp2
   go_ret
   exact⟨rfl,hB⟩
theorem Zi:EnT 16:=fun _ _=>by kernel_rfl
theorem Z5:EnT 14:=fun _ _=>by kernel_rfl
theorem In_7:In 7:=⟨by omega,by omega⟩
def chE (p q:Int):Int:=if gOk p q then 0 else 90
theorem xchk_o (p q g h:Int) (w:World) (hp:In p) (hq:In q) (i2:In (q+q -115792089237316195423570985008687907853269984665640564039457584007913129639936)) (h2:115792089237316195423570985008687907853269984665640564039457584007913129639936<=q+q):
 CC 16 #[GX p q g h] w (.int .i64 90):=by
 go_enter Tryz.func16,Tryz.ntmps16
 go_upto_region 1 with fail
 generalize hC:(w.alloc (.cells (GE (p) (q) (g) (h):List Value).toArray 26))=v0 at *
 have HB0:Bw w v0:=by rw[<-hC];exact Z1 (Z6 w) _
 have K0:Bk w.heap.size v0 [(true,w.heap.size,GE (p) (q) (g) (h))]:=by rw[<-hC];exact(Bk.nil _ w).ad
 clear hC
 refine rgP K0 HB0 HB0.size [] [(8,3,L0s,some (9,LN (q+q -115792089237316195423570985008687907853269984665640564039457584007913129639936)))] [(0,8,.pointer (some ⟨w.heap.size,4,none⟩)),(1,9,NV q),(2,10,.pointer (some ⟨w.heap.size,4,none⟩)),(3,11,NV q),(4,12,.tuple #[NV (q+q -115792089237316195423570985008687907853269984665640564039457584007913129639936),.bool true]),(5,7,.tuple #[NV (q+q -115792089237316195423570985008687907853269984665640564039457584007913129639936),.bool true]),(6,13,NV (q+q -115792089237316195423570985008687907853269984665640564039457584007913129639936)),(7,14,.bool true),(10,4,.bool true)] [(9,8)] [] [false] ?_ ?_
 ·exact oc (g_fd (fun uZ=>fdG1 _ uZ))<|oc (g_lo 0 4 uN iN)<|oc (g_fd (fun uZ=>fdG1 _ uZ))<|oc (g_lo 0 4 uN iN)<|oc (g_cl Z9 (fun uZ=>nrAdd_ge q q uZ hq hq h2))<|oc g_mv<|oc g_ex<|oc g_ex<|oc (g_al 0 aN)<|oc (g_sn 0 iN)<|oc g_as on
 intro u1 b1_8 HB1 sz1 K1
 simp only[sQ] at K1⊢
 clear K0 HB0
 go_upto_region 2 with fail
 refine rgP K1 HB1 HB1.size [] [(6,5,L0s,some (7,LN (q+q -115792089237316195423570985008687907853269984665640564039457584007913129639936+1)))] [(0,16,NV (q+q -115792089237316195423570985008687907853269984665640564039457584007913129639936)),(1,17,NV 1),(2,18,.tuple #[NV (q+q -115792089237316195423570985008687907853269984665640564039457584007913129639936+1),.bool (ovB (q+q -115792089237316195423570985008687907853269984665640564039457584007913129639936) 1)]),(3,15,.tuple #[NV (q+q -115792089237316195423570985008687907853269984665640564039457584007913129639936+1),.bool (ovB (q+q -115792089237316195423570985008687907853269984665640564039457584007913129639936) 1)]),(4,19,NV (q+q -115792089237316195423570985008687907853269984665640564039457584007913129639936+1)),(5,20,.bool (ovB (q+q -115792089237316195423570985008687907853269984665640564039457584007913129639936) 1)),(8,6,.bool (ovB (q+q -115792089237316195423570985008687907853269984665640564039457584007913129639936) 1))] [(7,6)] [] [false,false] ?_ ?_
 ·exact oc (g_ld 0 uN iN)<|oc (g_bd (fun uZ=>bdX 1 (by omega) (by omega) uZ))<|oc (g_cl Z9 (fun uZ=>nrAdd (q+q -115792089237316195423570985008687907853269984665640564039457584007913129639936) 1 uZ i2 In_1))<|oc g_mv<|oc g_ex<|oc g_ex<|oc (g_al 0 aN)<|oc (g_sn 0 iN)<|oc g_as on
 intro u2 b2_6 HB2 sz2 K2
 simp only[sQ] at K2⊢
 clear K1 HB1
 go_upto_region 3 with fail
 refine rgP K2 HB2 HB2.size [] [] [(0,21,.bool true),(1,22,.bool true),(2,23,undef),(3,24,(Go.Value.bool Bool.true)),(4,25,(Go.Value.bool Bool.true)),(5,26,undef),(6,27,undef),(7,28,undef),(8,29,undef),(9,30,(Go.Value.bool Bool.true)),(10,31,(Go.Value.bool Bool.true)),(11,32,undef),(12,33,undef),(13,34,undef),(14,35,undef),(15,36,undef),(16,37,(Go.Value.bool Bool.true)),(17,38,(Go.Value.bool Bool.true)),(18,39,undef),(19,40,undef),(20,41,undef),(21,42,undef),(22,43,undef),(23,44,(Go.Value.bool Bool.true))] [] [] [] ?_ ?_
 ·exact oc g_mv<|oc g_mv<|oc g_sk<|oc g_pk<|oc g_mv<|oc g_sk<|oc g_sk<|oc g_sk<|oc g_sk<|oc g_pk<|oc g_mv<|oc g_sk<|oc g_sk<|oc g_sk<|oc g_sk<|oc g_sk<|oc g_pk<|oc g_mv<|oc g_sk<|oc g_sk<|oc g_sk<|oc g_sk<|oc g_sk<|oc g_pk on
 intro u3 HB3 sz3 K3
 simp only[sQ] at K3⊢
 clear K2 HB2
 go_upto_region 4 with fail
 refine rgP K3 HB3 HB3.size [] [] [(0,2,(Go.Value.int Go.IntKind.i64 90))] [] [] [] ?_ ?_
 ·exact oc g_as on
 intro u4 HB4 sz4 K4
 simp only[sQ] at K4⊢
 clear K3 HB3
 go_wp2
 refine bodyPost_ret (v:= .int .i64 90) (by simp[results,Tryz.results16,go_sem,]) rfl ⟨rfl,HB4⟩
theorem xchk_n (p q g h:Int) (w:World) (hp:In p) (hq:In q) (i2:In (q+q)) (i3:In (q+q+1)) (d0:0<=D0 p) (d1:D0 p<18446744073709551616) (h2:q+q<115792089237316195423570985008687907853269984665640564039457584007913129639936) (h3:q+q+1<115792089237316195423570985008687907853269984665640564039457584007913129639936) (h4:decide (q+q+1=p)=!true):
 CC 16 #[GX p q g h] w (.int .i64 90):=by
 go_enter Tryz.func16,Tryz.ntmps16
 go_upto_region 1 with fail
 generalize hC:(w.alloc (.cells (GE (p) (q) (g) (h):List Value).toArray 26))=v0 at *
 have HB0:Bw w v0:=by rw[<-hC];exact Z1 (Z6 w) _
 have K0:Bk w.heap.size v0 [(true,w.heap.size,GE (p) (q) (g) (h))]:=by rw[<-hC];exact(Bk.nil _ w).ad
 clear hC
 refine rgP K0 HB0 HB0.size [] [(8,3,L0s,some (9,LN (q+q)))] [(0,8,.pointer (some ⟨w.heap.size,4,none⟩)),(1,9,NV q),(2,10,.pointer (some ⟨w.heap.size,4,none⟩)),(3,11,NV q),(4,12,.tuple #[NV (q+q),.bool false]),(5,7,.tuple #[NV (q+q),.bool false]),(6,13,NV (q+q)),(7,14,.bool false),(10,4,.bool false)] [(9,8)] [] [] ?_ ?_
 ·exact oc (g_fd (fun uZ=>fdG1 _ uZ))<|oc (g_lo 0 4 uN iN)<|oc (g_fd (fun uZ=>fdG1 _ uZ))<|oc (g_lo 0 4 uN iN)<|oc (g_cl Z9 (fun uZ=>Vc q q uZ hq hq h2))<|oc g_mv<|oc g_ex<|oc g_ex<|oc (g_al 0 aN)<|oc (g_sn 0 iN)<|oc g_as on
 intro u1 b1_8 HB1 sz1 K1
 simp only[sQ] at K1⊢
 clear K0 HB0
 go_upto_region 2 with fail
 refine rgP K1 HB1 HB1.size [] [(6,5,L0s,some (7,LN (q+q+1)))] [(0,16,NV (q+q)),(1,17,NV 1),(2,18,.tuple #[NV (q+q+1),.bool false]),(3,15,.tuple #[NV (q+q+1),.bool false]),(4,19,NV (q+q+1)),(5,20,.bool false),(8,6,.bool false)] [(7,6)] [] [true,false] ?_ ?_
 ·exact oc (g_ld 1 uN iN)<|oc (g_bd (fun uZ=>bdX 1 (by omega) (by omega) uZ))<|oc (g_cl Z9 (fun uZ=>Vc (q+q) 1 uZ i2 In_1 h3))<|oc g_mv<|oc g_ex<|oc g_ex<|oc (g_al 0 aN)<|oc (g_sn 0 iN)<|oc g_as on
 intro u2 b2_6 HB2 sz2 K2
 simp only[sQ] at K2⊢
 clear K1 HB1
 go_upto_region 3 with fail
 refine rgP K2 HB2 HB2.size [] [] [(0,21,.bool false),(1,22,.bool false),(2,23,.bool false),(3,24,.bool false),(4,25,.bool false),(5,26,NV (q+q+1)),(6,27,.pointer (some ⟨w.heap.size,0,none⟩)),(7,28,NV p),(8,29,.bool true),(9,30,.bool true),(10,31,.bool true),(11,32,undef),(12,33,undef),(13,34,undef),(14,35,undef),(15,36,undef),(16,37,(Go.Value.bool Bool.true)),(17,38,(Go.Value.bool Bool.true)),(18,39,undef),(19,40,undef),(20,41,undef),(21,42,undef),(22,43,undef),(23,44,(Go.Value.bool Bool.true))] [] [] [false,false] ?_ ?_
 ·exact oc g_mv<|oc g_mv<|oc g_mv<|oc g_pk<|oc g_mv<|oc (g_ld 1 uN iN)<|oc (g_fd (fun uZ=>fdG0 _ uZ))<|oc (g_lo 0 0 uN iN)<|oc (g_bn (fun uZ=>neq_n _ _ i3 hp _ h4 uZ))<|oc g_pk<|oc g_mv<|oc g_sk<|oc g_sk<|oc g_sk<|oc g_sk<|oc g_sk<|oc g_pk<|oc g_mv<|oc g_sk<|oc g_sk<|oc g_sk<|oc g_sk<|oc g_sk<|oc g_pk on
 intro u3 HB3 sz3 K3
 simp only[sQ] at K3⊢
 clear K2 HB2
 go_upto_region 4 with fail
 refine rgP K3 HB3 HB3.size [] [] [(0,2,(Go.Value.int Go.IntKind.i64 90))] [] [] [] ?_ ?_
 ·exact oc g_as on
 intro u4 HB4 sz4 K4
 simp only[sQ] at K4⊢
 clear K3 HB3
 go_wp2
 refine bodyPost_ret (v:= .int .i64 90) (by simp[results,Tryz.results16,go_sem,]) rfl ⟨rfl,HB4⟩
theorem xchk_7 (p q g h:Int) (w:World) (hp:In p) (hq:In q) (i2:In (q+q)) (i3:In (q+q+1)) (d0:0<=D0 p) (d1:D0 p<18446744073709551616) (h2:q+q<115792089237316195423570985008687907853269984665640564039457584007913129639936) (h3:q+q+1<115792089237316195423570985008687907853269984665640564039457584007913129639936) (h4:decide (q+q+1=p)=!false) (h5:decide (cmpI p 7<0)=true):
 CC 16 #[GX p q g h] w (.int .i64 90):=by
 go_enter Tryz.func16,Tryz.ntmps16
 go_upto_region 1 with fail
 generalize hC:(w.alloc (.cells (GE (p) (q) (g) (h):List Value).toArray 26))=v0 at *
 have HB0:Bw w v0:=by rw[<-hC];exact Z1 (Z6 w) _
 have K0:Bk w.heap.size v0 [(true,w.heap.size,GE (p) (q) (g) (h))]:=by rw[<-hC];exact(Bk.nil _ w).ad
 clear hC
 refine rgP K0 HB0 HB0.size [] [(8,3,L0s,some (9,LN (q+q)))] [(0,8,.pointer (some ⟨w.heap.size,4,none⟩)),(1,9,NV q),(2,10,.pointer (some ⟨w.heap.size,4,none⟩)),(3,11,NV q),(4,12,.tuple #[NV (q+q),.bool false]),(5,7,.tuple #[NV (q+q),.bool false]),(6,13,NV (q+q)),(7,14,.bool false),(10,4,.bool false)] [(9,8)] [] [] ?_ ?_
 ·exact oc (g_fd (fun uZ=>fdG1 _ uZ))<|oc (g_lo 0 4 uN iN)<|oc (g_fd (fun uZ=>fdG1 _ uZ))<|oc (g_lo 0 4 uN iN)<|oc (g_cl Z9 (fun uZ=>Vc q q uZ hq hq h2))<|oc g_mv<|oc g_ex<|oc g_ex<|oc (g_al 0 aN)<|oc (g_sn 0 iN)<|oc g_as on
 intro u1 b1_8 HB1 sz1 K1
 simp only[sQ] at K1⊢
 clear K0 HB0
 go_upto_region 2 with fail
 refine rgP K1 HB1 HB1.size [] [(6,5,L0s,some (7,LN (q+q+1)))] [(0,16,NV (q+q)),(1,17,NV 1),(2,18,.tuple #[NV (q+q+1),.bool false]),(3,15,.tuple #[NV (q+q+1),.bool false]),(4,19,NV (q+q+1)),(5,20,.bool false),(8,6,.bool false)] [(7,6)] [] [true,false] ?_ ?_
 ·exact oc (g_ld 1 uN iN)<|oc (g_bd (fun uZ=>bdX 1 (by omega) (by omega) uZ))<|oc (g_cl Z9 (fun uZ=>Vc (q+q) 1 uZ i2 In_1 h3))<|oc g_mv<|oc g_ex<|oc g_ex<|oc (g_al 0 aN)<|oc (g_sn 0 iN)<|oc g_as on
 intro u2 b2_6 HB2 sz2 K2
 simp only[sQ] at K2⊢
 clear K1 HB1
 go_upto_region 3 with fail
 refine rgP K2 HB2 HB2.size [] [] [(0,21,.bool false),(1,22,.bool false),(2,23,.bool false),(3,24,.bool false),(4,25,.bool false),(5,26,NV (q+q+1)),(6,27,.pointer (some ⟨w.heap.size,0,none⟩)),(7,28,NV p),(8,29,.bool false),(9,30,.bool false),(10,31,.bool false),(11,32,.pointer (some ⟨w.heap.size,0,none⟩)),(12,33,NV p),(13,34,NV 7),(14,35,.int .i64 (cmpI p 7)),(15,36,.bool true),(16,37,.bool true),(17,38,.bool true),(18,39,undef),(19,40,undef),(20,41,undef),(21,42,undef),(22,43,undef),(23,44,(Go.Value.bool Bool.true))] [] [] [false,false] ?_ ?_
 ·exact oc g_mv<|oc g_mv<|oc g_mv<|oc g_pk<|oc g_mv<|oc (g_ld 1 uN iN)<|oc (g_fd (fun uZ=>fdG0 _ uZ))<|oc (g_lo 0 0 uN iN)<|oc (g_bn (fun uZ=>neq_n _ _ i3 hp _ h4 uZ))<|oc g_pk<|oc g_mv<|oc (g_fd (fun uZ=>fdG0 _ uZ))<|oc (g_lo 0 0 uN iN)<|oc (g_bd (fun uZ=>bdX 7 (by omega) (by omega) uZ))<|oc (g_cl Zk (fun uZ=>V0 p 7 uZ hp In_7))<|oc (g_bn (fun uZ=>Zr _ _ (cmpI p 7) 0 _ uZ h5))<|oc g_pk<|oc g_mv<|oc g_sk<|oc g_sk<|oc g_sk<|oc g_sk<|oc g_sk<|oc g_pk on
 intro u3 HB3 sz3 K3
 simp only[sQ] at K3⊢
 clear K2 HB2
 go_upto_region 4 with fail
 refine rgP K3 HB3 HB3.size [] [] [(0,2,(Go.Value.int Go.IntKind.i64 90))] [] [] [] ?_ ?_
 ·exact oc g_as on
 intro u4 HB4 sz4 K4
 simp only[sQ] at K4⊢
 clear K3 HB3
 go_wp2
 refine bodyPost_ret (v:= .int .i64 90) (by simp[results,Tryz.results16,go_sem,]) rfl ⟨rfl,HB4⟩
theorem xchk_k (p q g h:Int) (w:World) (hp:In p) (hq:In q) (i2:In (q+q)) (i3:In (q+q+1)) (d0:0<=D0 p) (d1:D0 p<18446744073709551616) (h2:q+q<115792089237316195423570985008687907853269984665640564039457584007913129639936) (h3:q+q+1<115792089237316195423570985008687907853269984665640564039457584007913129639936) (h4:decide (q+q+1=p)=!false) (h5:decide (cmpI p 7<0)=false) (h6:(D0 p%2==0)=false):
 CC 16 #[GX p q g h] w (.int .i64 0):=by
 go_enter Tryz.func16,Tryz.ntmps16
 go_upto_region 1 with fail
 generalize hC:(w.alloc (.cells (GE (p) (q) (g) (h):List Value).toArray 26))=v0 at *
 have HB0:Bw w v0:=by rw[<-hC];exact Z1 (Z6 w) _
 have K0:Bk w.heap.size v0 [(true,w.heap.size,GE (p) (q) (g) (h))]:=by rw[<-hC];exact(Bk.nil _ w).ad
 clear hC
 refine rgP K0 HB0 HB0.size [] [(8,3,L0s,some (9,LN (q+q)))] [(0,8,.pointer (some ⟨w.heap.size,4,none⟩)),(1,9,NV q),(2,10,.pointer (some ⟨w.heap.size,4,none⟩)),(3,11,NV q),(4,12,.tuple #[NV (q+q),.bool false]),(5,7,.tuple #[NV (q+q),.bool false]),(6,13,NV (q+q)),(7,14,.bool false),(10,4,.bool false)] [(9,8)] [] [] ?_ ?_
 ·exact oc (g_fd (fun uZ=>fdG1 _ uZ))<|oc (g_lo 0 4 uN iN)<|oc (g_fd (fun uZ=>fdG1 _ uZ))<|oc (g_lo 0 4 uN iN)<|oc (g_cl Z9 (fun uZ=>Vc q q uZ hq hq h2))<|oc g_mv<|oc g_ex<|oc g_ex<|oc (g_al 0 aN)<|oc (g_sn 0 iN)<|oc g_as on
 intro u1 b1_8 HB1 sz1 K1
 simp only[sQ] at K1⊢
 clear K0 HB0
 go_upto_region 2 with fail
 refine rgP K1 HB1 HB1.size [] [(6,5,L0s,some (7,LN (q+q+1)))] [(0,16,NV (q+q)),(1,17,NV 1),(2,18,.tuple #[NV (q+q+1),.bool false]),(3,15,.tuple #[NV (q+q+1),.bool false]),(4,19,NV (q+q+1)),(5,20,.bool false),(8,6,.bool false)] [(7,6)] [] [true,false] ?_ ?_
 ·exact oc (g_ld 1 uN iN)<|oc (g_bd (fun uZ=>bdX 1 (by omega) (by omega) uZ))<|oc (g_cl Z9 (fun uZ=>Vc (q+q) 1 uZ i2 In_1 h3))<|oc g_mv<|oc g_ex<|oc g_ex<|oc (g_al 0 aN)<|oc (g_sn 0 iN)<|oc g_as on
 intro u2 b2_6 HB2 sz2 K2
 simp only[sQ] at K2⊢
 clear K1 HB1
 go_upto_region 3 with fail
 refine rgP K2 HB2 HB2.size [] [] [(0,21,.bool false),(1,22,.bool false),(2,23,.bool false),(3,24,.bool false),(4,25,.bool false),(5,26,NV (q+q+1)),(6,27,.pointer (some ⟨w.heap.size,0,none⟩)),(7,28,NV p),(8,29,.bool false),(9,30,.bool false),(10,31,.bool false),(11,32,.pointer (some ⟨w.heap.size,0,none⟩)),(12,33,NV p),(13,34,NV 7),(14,35,.int .i64 (cmpI p 7)),(15,36,.bool false),(16,37,.bool false),(17,38,.bool false),(18,39,.pointer (some ⟨w.heap.size,0,none⟩)),(19,40,.pointer (some ⟨w.heap.size,0,none⟩)),(20,41,.int .u64 (D0 (p))),(21,42,.int .u64 (D0 p%2)),(22,43,.bool false),(23,44,.bool false)] [] [] [false,false] ?_ ?_
 ·exact oc g_mv<|oc g_mv<|oc g_mv<|oc g_pk<|oc g_mv<|oc (g_ld 1 uN iN)<|oc (g_fd (fun uZ=>fdG0 _ uZ))<|oc (g_lo 0 0 uN iN)<|oc (g_bn (fun uZ=>neq_n _ _ i3 hp _ h4 uZ))<|oc g_pk<|oc g_mv<|oc (g_fd (fun uZ=>fdG0 _ uZ))<|oc (g_lo 0 0 uN iN)<|oc (g_bd (fun uZ=>bdX 7 (by omega) (by omega) uZ))<|oc (g_cl Zk (fun uZ=>V0 p 7 uZ hp In_7))<|oc (g_bn (fun uZ=>Zr _ _ (cmpI p 7) 0 _ uZ h5))<|oc g_pk<|oc g_mv<|oc (g_fd (fun uZ=>fdG0 _ uZ))<|oc (g_ix (jN 0))<|oc (g_lc 0 0 lU)<|oc (g_bn (fun uZ=>rem_u _ _ (D0 p) 2 (D0 p%2) uZ d0 d1 (by omega) rfl))<|oc (g_bn (fun uZ=>eql_u _ _ _ (D0 p%2) 0 _ uZ h6))<|oc g_pk on
 intro u3 HB3 sz3 K3
 simp only[sQ] at K3⊢
 clear K2 HB2
 go_upto_region 5 with fail
 refine rgP K3 HB3 HB3.size [] [] [(0,2,(Go.Value.int Go.IntKind.i64 0))] [] [] [] ?_ ?_
 ·exact oc g_as on
 intro u4 HB4 sz4 K4
 simp only[sQ] at K4⊢
 clear K3 HB3
 go_wp2
 refine bodyPost_ret (v:= .int .i64 0) (by simp[results,Tryz.results16,go_sem,]) rfl ⟨rfl,HB4⟩
theorem xCheckG (p q g h:Int) (w:World) (hp:In p) (hq:In q):CC 16 #[GX p q g h] w (.int .i64 (chE p q)):=by
 have hq0:=hq.1
 have hq1:=hq.2
 have hp1:=hp.2
 have e90: ¬(p=2*q+1/\7<=p)->chE p q=90:=fun h=>if_neg h
 have e0:(p=2*q+1/\7<=p)->chE p q=0:=fun h=>if_pos h
 by_cases h2:115792089237316195423570985008687907853269984665640564039457584007913129639936<=q+q
 ·rw[e90 (by omega)]
  exact xchk_o p q g h w hp hq ⟨by omega,by omega⟩ h2
 have hd:0<=D0 p/\D0 p<18446744073709551616:=by unfold D0;omega
 have i2:In (q+q):=⟨by omega,by omega⟩
 have i3:In (q+q+1):=⟨by omega,by omega⟩
 by_cases h4:q+q+1=p
 ·have h4':decide (q+q+1=p)=!false:=by simp[h4]
  by_cases h7:p<7
  ·rw[e90 (by omega)]
   exact xchk_7 p q g h w hp hq i2 i3 hd.1 hd.2 (by omega) (by omega) h4' (by rw[cmp_lt0];simp only[h7,decide_true])
  ·rw[e0 (by omega)]
   exact xchk_k p q g h w hp hq i2 i3 hd.1 hd.2 (by omega) (by omega) h4' (by rw[cmp_lt0];simp only[h7,decide_false]) (by rw[D0_odd];simp;omega)
 ·rw[e90 (by omega)]
  exact xchk_n p q g h w hp hq i2 i3 hd.1 hd.2 (by omega) (by omega) (by simp[h4])
theorem xis_c (p q g h x:Int) (w:World) (hp:In p) (hq:In q) (hx:In x) (hC:Hid (∀u,CC 16 #[GX p q g h] u (.int .i64 90))):
 CC 14 #[GX p q g h,NV x] w (.bool false):=by
 go_enter Tryz.func14,Tryz.ntmps14
 go_upto_region 1 with fail
 generalize hC:((w.alloc (.cells (GE (p) (q) (g) (h):List Value).toArray 26)).alloc (.cells (LN x:List Value).toArray 24))=v0 at *
 have HB0:Bw w v0:=by rw[<-hC];exact Z1 (Z1 (Z6 w) _) _
 have K0:Bk w.heap.size v0 [(true,w.heap.size,GE (p) (q) (g) (h)),(true,w.heap.size+1,LN x)]:=by rw[<-hC];exact(Bk.nil _ w).ad.ad
 clear hC
 refine rgP K0 HB0 HB0.size [] [] [(0,7,GX (p) (q) (g) (h)),(1,8,.int .i64 90),(2,9,.bool true),(3,10,.bool true),(4,11,undef),(5,12,undef),(6,13,undef),(7,14,(Go.Value.bool Bool.true)),(8,15,(Go.Value.bool Bool.true)),(9,16,undef),(10,17,undef),(11,18,undef),(12,19,undef),(13,20,undef),(14,21,(Go.Value.bool Bool.true))] [] [] [false,false] ?_ ?_
 ·exact oc (g_ld 0 Tryz.underlying26 Z0)<|oc (g_cl Zi (fun uZ=>hC.out uZ))<|oc (g_bn (fun uZ=>Tu _ _ _ 90 0 _ uZ rfl))<|oc g_mv<|oc g_sk<|oc g_sk<|oc g_sk<|oc g_pk<|oc g_mv<|oc g_sk<|oc g_sk<|oc g_sk<|oc g_sk<|oc g_sk<|oc g_pk on
 intro u1 HB1 sz1 K1
 simp only[sQ] at K1⊢
 clear K0 HB0
 go_upto_region 2 with fail
 refine rgP K1 HB1 HB1.size [] [] [(0,4,(Go.Value.bool Bool.false))] [] [] [] ?_ ?_
 ·exact oc g_as on
 intro u2 HB2 sz2 K2
 simp only[sQ] at K2⊢
 clear K1 HB1
 go_wp2
 refine bodyPost_ret (v:= .bool false) (by simp[results,Tryz.results14,go_sem,]) rfl ⟨rfl,HB2⟩
theorem xis_z (p q g h x:Int) (w:World) (hp:In p) (hq:In q) (hx:In x) (hC:Hid (∀u,CC 16 #[GX p q g h] u (.int .i64 0)))(h1:decide (x=0)=true):
 CC 14 #[GX p q g h,NV x] w (.bool false):=by
 go_enter Tryz.func14,Tryz.ntmps14
 go_upto_region 1 with fail
 generalize hC:((w.alloc (.cells (GE (p) (q) (g) (h):List Value).toArray 26)).alloc (.cells (LN x:List Value).toArray 24))=v0 at *
 have HB0:Bw w v0:=by rw[<-hC];exact Z1 (Z1 (Z6 w) _) _
 have K0:Bk w.heap.size v0 [(true,w.heap.size,GE (p) (q) (g) (h)),(true,w.heap.size+1,LN x)]:=by rw[<-hC];exact(Bk.nil _ w).ad.ad
 clear hC
 refine rgP K0 HB0 HB0.size [] [] [(0,7,GX (p) (q) (g) (h)),(1,8,.int .i64 0),(2,9,.bool false),(3,10,.bool false),(4,11,NV x),(5,12,A4 (0) (0) (0) (0)),(6,13,.bool true),(7,14,.bool true),(8,15,.bool true),(9,16,undef),(10,17,undef),(11,18,undef),(12,19,undef),(13,20,undef),(14,21,(Go.Value.bool Bool.true))] [] [] [false,false] ?_ ?_
 ·exact oc (g_ld 0 Tryz.underlying26 Z0)<|oc (g_cl Zi (fun uZ=>hC.out uZ))<|oc (g_bn (fun uZ=>Tu _ _ _ 0 0 _ uZ rfl))<|oc g_mv<|oc (g_ld 1 uN iN)<|oc (g_bd zN)<|oc (g_bn (fun uZ=>Si _ _ hx _ h1 uZ))<|oc g_pk<|oc g_mv<|oc g_sk<|oc g_sk<|oc g_sk<|oc g_sk<|oc g_sk<|oc g_pk on
 intro u1 HB1 sz1 K1
 simp only[sQ] at K1⊢
 clear K0 HB0
 go_upto_region 2 with fail
 refine rgP K1 HB1 HB1.size [] [] [(0,4,(Go.Value.bool Bool.false))] [] [] [] ?_ ?_
 ·exact oc g_as on
 intro u2 HB2 sz2 K2
 simp only[sQ] at K2⊢
 clear K1 HB1
 go_wp2
 refine bodyPost_ret (v:= .bool false) (by simp[results,Tryz.results14,go_sem,]) rfl ⟨rfl,HB2⟩
theorem xis_h (p q g h x:Int) (w:World) (hp:In p) (hq:In q) (hx:In x) (hC:Hid (∀u,CC 16 #[GX p q g h] u (.int .i64 0)))(h1:decide (x=0)=false) (h2:decide (0<=cmpI x p)=true):
 CC 14 #[GX p q g h,NV x] w (.bool false):=by
 go_enter Tryz.func14,Tryz.ntmps14
 go_upto_region 1 with fail
 generalize hC:((w.alloc (.cells (GE (p) (q) (g) (h):List Value).toArray 26)).alloc (.cells (LN x:List Value).toArray 24))=v0 at *
 have HB0:Bw w v0:=by rw[<-hC];exact Z1 (Z1 (Z6 w) _) _
 have K0:Bk w.heap.size v0 [(true,w.heap.size,GE (p) (q) (g) (h)),(true,w.heap.size+1,LN x)]:=by rw[<-hC];exact(Bk.nil _ w).ad.ad
 clear hC
 refine rgP K0 HB0 HB0.size [] [] [(0,7,GX (p) (q) (g) (h)),(1,8,.int .i64 0),(2,9,.bool false),(3,10,.bool false),(4,11,NV x),(5,12,A4 (0) (0) (0) (0)),(6,13,.bool false),(7,14,.bool false),(8,15,.bool false),(9,16,NV x),(10,17,.pointer (some ⟨w.heap.size,0,none⟩)),(11,18,NV p),(12,19,.int .i64 (cmpI x p)),(13,20,.bool true),(14,21,.bool true)] [] [] [false,false] ?_ ?_
 ·exact oc (g_ld 0 Tryz.underlying26 Z0)<|oc (g_cl Zi (fun uZ=>hC.out uZ))<|oc (g_bn (fun uZ=>Tu _ _ _ 0 0 _ uZ rfl))<|oc g_mv<|oc (g_ld 1 uN iN)<|oc (g_bd zN)<|oc (g_bn (fun uZ=>Si _ _ hx _ h1 uZ))<|oc g_pk<|oc g_mv<|oc (g_ld 1 uN iN)<|oc (g_fd (fun uZ=>fdG0 _ uZ))<|oc (g_lo 0 0 uN iN)<|oc (g_cl Zk (fun uZ=>V0 x p uZ hx hp))<|oc (g_bn (fun uZ=>geq_i _ _ (cmpI x p) 0 _ uZ h2))<|oc g_pk on
 intro u1 HB1 sz1 K1
 simp only[sQ] at K1⊢
 clear K0 HB0
 go_upto_region 2 with fail
 refine rgP K1 HB1 HB1.size [] [] [(0,4,(Go.Value.bool Bool.false))] [] [] [] ?_ ?_
 ·exact oc g_as on
 intro u2 HB2 sz2 K2
 simp only[sQ] at K2⊢
 clear K1 HB1
 go_wp2
 refine bodyPost_ret (v:= .bool false) (by simp[results,Tryz.results14,go_sem,]) rfl ⟨rfl,HB2⟩
theorem xis_g (p q g h x:Int) (w:World) (hp:In p) (hq:In q) (hx:In x) (hC:Hid (∀u,CC 16 #[GX p q g h] u (.int .i64 0)))(b:Bool) (h1:decide (x=0)=false) (h2:decide (0<=cmpI x p)=false) (hp0:p≠0) (h3:decide (x^q.toNat%p=1)=b):
 CC 14 #[GX p q g h,NV x] w (.bool b):=by
 go_enter Tryz.func14,Tryz.ntmps14
 go_upto_region 1 with fail
 generalize hC:((w.alloc (.cells (GE (p) (q) (g) (h):List Value).toArray 26)).alloc (.cells (LN x:List Value).toArray 24))=v0 at *
 have HB0:Bw w v0:=by rw[<-hC];exact Z1 (Z1 (Z6 w) _) _
 have K0:Bk w.heap.size v0 [(true,w.heap.size,GE (p) (q) (g) (h)),(true,w.heap.size+1,LN x)]:=by rw[<-hC];exact(Bk.nil _ w).ad.ad
 clear hC
 refine rgP K0 HB0 HB0.size [] [] [(0,7,GX (p) (q) (g) (h)),(1,8,.int .i64 0),(2,9,.bool false),(3,10,.bool false),(4,11,NV x),(5,12,A4 (0) (0) (0) (0)),(6,13,.bool false),(7,14,.bool false),(8,15,.bool false),(9,16,NV x),(10,17,.pointer (some ⟨w.heap.size,0,none⟩)),(11,18,NV p),(12,19,.int .i64 (cmpI x p)),(13,20,.bool false),(14,21,.bool false)] [] [] [] ?_ ?_
 ·exact oc (g_ld 0 Tryz.underlying26 Z0)<|oc (g_cl Zi (fun uZ=>hC.out uZ))<|oc (g_bn (fun uZ=>Tu _ _ _ 0 0 _ uZ rfl))<|oc g_mv<|oc (g_ld 1 uN iN)<|oc (g_bd zN)<|oc (g_bn (fun uZ=>Si _ _ hx _ h1 uZ))<|oc g_pk<|oc g_mv<|oc (g_ld 1 uN iN)<|oc (g_fd (fun uZ=>fdG0 _ uZ))<|oc (g_lo 0 0 uN iN)<|oc (g_cl Zk (fun uZ=>V0 x p uZ hx hp))<|oc (g_bn (fun uZ=>geq_i _ _ (cmpI x p) 0 _ uZ h2))<|oc g_pk on
 intro u1 HB1 sz1 K1
 simp only[sQ] at K1⊢
 clear K0 HB0
 go_upto_region 3 with fail
 refine rgP K1 HB1 HB1.size [] [(9,5,L0s,some (10,LN (x^q.toNat%p)))] [(0,23,NV x),(1,24,.pointer (some ⟨w.heap.size,4,none⟩)),(2,25,NV q),(3,26,.pointer (some ⟨w.heap.size,0,none⟩)),(4,27,NV p),(5,28,.tuple #[NV (x^q.toNat%p),.int .i64 0]),(6,22,.tuple #[NV (x^q.toNat%p),.int .i64 0]),(7,29,NV (x^q.toNat%p)),(8,30,.int .i64 0),(11,6,.int .i64 0)] [(10,9)] [] [false,false] ?_ ?_
 ·exact oc (g_ld 1 uN iN)<|oc (g_fd (fun uZ=>fdG1 _ uZ))<|oc (g_lo 0 4 uN iN)<|oc (g_fd (fun uZ=>fdG0 _ uZ))<|oc (g_lo 0 0 uN iN)<|oc (g_cl Yp (fun uZ=>xExp x q p uZ hx hq hp hp0))<|oc g_mv<|oc g_ex<|oc g_ex<|oc (g_al 0 aN)<|oc (g_sn 0 iN)<|oc g_as on
 intro u2 b2_9 HB2 sz2 K2
 simp only[sQ] at K2⊢
 clear K1 HB1
 go_upto_region 4 with fail
 refine rgP K2 HB2 HB2.size [] [] [(0,31,NV (x^q.toNat%p)),(1,32,NV 1),(2,33,.bool b),(3,4,.bool b)] [] [] [false] ?_ ?_
 ·exact oc (g_ld 0 uN iN)<|oc (g_bd (fun uZ=>bdX 1 (by omega) (by omega) uZ))<|oc (g_bn (fun uZ=>eql_n _ _ (Zw hp hp0) In_1 _ h3 uZ))<|oc g_as on
 intro u3 HB3 sz3 K3
 simp only[sQ] at K3⊢
 clear K2 HB2
 go_wp2
 refine bodyPost_ret (v:= .bool b) (by simp[results,Tryz.results14,go_sem,]) rfl ⟨rfl,HB3⟩
def isB (p q x:Int):Bool:=decide (gOk p q/\Mb p q x)
theorem xIs (p q g h x:Int) (w:World) (hp:In p) (hq:In q) (hx:In x):CC 14 #[GX p q g h,NV x] w (.bool (isB p q x)):=by
 have hC:Hid (∀u,CC 16 #[GX p q g h] u (.int .i64 (chE p q))):=fun u=>xCheckG p q g h u hp hq
 have hx0:=hx.1
 by_cases hg:gOk p q
 ·rw[show chE p q=0 from if_pos hg] at hC
  by_cases h1:x=0
  ·rw[show isB p q x=false from decide_eq_false (fun h=>by have:=h.2.1;omega)]
   exact xis_z p q g h x w hp hq hx hC (by simp[h1])
  by_cases h2:p<=x
  ·rw[show isB p q x=false from decide_eq_false (fun h=>by have:=h.2.2.1;omega)]
   exact xis_h p q g h x w hp hq hx hC (by simp[h1]) (by rw[cmp_ge];simp only[h2,decide_true])
  ·have e:isB p q x=decide (x^q.toNat%p=1):=by
    unfold isB Mb
    rw[Bool.eq_iff_iff,decide_eq_true_iff,decide_eq_true_iff]
    exact⟨fun h=>h.2.2.2,fun h=>⟨hg,by omega,by omega,h⟩⟩
   rw[e]
   exact xis_g p q g h x w hp hq hx hC _ (by simp[h1]) (by rw[cmp_ge];simp only[h2,decide_false]) (by have:=hg.2;omega) rfl
 ·rw[show chE p q=90 from if_neg hg] at hC
  rw[show isB p q x=false from decide_eq_false (fun h=>hg h.1)]
  exact xis_c p q g h x w hp hq hx hC
def exPE (p q x:Int):Int:=if isB p q x then 0 else 90
def exPX (p q x e:Int):Int:=if isB p q x then x^(e%q).toNat%p else 0
theorem isB_t {p q x:Int} (h:isB p q x=true):gOk p q/\Mb p q x:=of_decide_eq_true h
def mlB (p q:Int) (ns:List Int):Bool:=decide (gOk p q)&&ns.all (isB p q)
def NL (u:World) (v:Value) (ns:List Int):Prop:= ∃sl gb go cap,v= .slice sl ns.length cap/\ns.length<=cap/\(sl=none->cap=0)/\(ns=[]\/sl=some ⟨gb,go,none⟩)/\(ns.length=0\/gb<u.heap.size)/\SN u gb go ns
theorem NL.up {w u:World} {v:Value} {ns:List Int} (h:NL w v ns) (hB:Bw w u):NL u v ns:=by
 obtain⟨sl,gb,go,cap,h1,h2,h3,h4,h5,h6⟩:=h
 refine⟨sl,gb,go,cap,h1,h2,h3,h4,h5.imp id fun e=>Nat.lt_of_lt_of_le e hB.size,?_⟩
 rcases h5 with h5 | h5
 ·exact SN.empty h5
 ·exact h6.below hB h5
def N2 (a b:Int) (u:World) (v:Value):Prop:=NL u v [a,b]
theorem N2.stab {a b:Int} {u u2:World} {x:Value} (hB:Bw u u2) (h:N2 a b u x):N2 a b u2 x:=NL.up h hB
def N1x (a:Int) (u:World) (v:Value):Prop:=NL u v [a]
theorem N1x.stab {a:Int} {u u2:World} {x:Value} (hB:Bw u u2) (h:N1x a u x):N1x a u2 x:=NL.up h hB
theorem bsNx1 (a:Int) (w:World):(Instr.buildSlice 35 1 ([0].zip [NV a]).toArray).run Tryz.prog w= .ok (.slice (some ⟨w.heap.size,0,none⟩) 1 1) (w.alloc (.cells (flN [a]).toArray 24)):=by kernel_rfl
theorem inNx1 (a:Int) (u:World):N1x a (u.alloc (.cells (flN [a]).toArray 24)) (.slice (some ⟨u.heap.size,0,none⟩) 1 1):=
 ⟨_,u.heap.size,0,1,rfl,by simp,by simp,.inr rfl,.inr (by simp),fun j v hj=>by rw[Nat.zero_add];exact(CV.new u (flN [a]) 24 j v hj).1⟩
end Go.Proofs.YtknpepgonhdbgaaGreatDoor
