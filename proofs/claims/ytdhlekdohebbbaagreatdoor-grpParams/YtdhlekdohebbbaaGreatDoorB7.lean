import Derived.Test.YtdhlekdohebbbaaGreatDoorGM
import Derived.Test.YtdhlekdohebbbaaGreatDoorIT
import Derived.Deep.OwnRows
import Derived.Lib.ItoaLen
namespace Go.Proofs.YtdhlekdohebbbaaGreatDoor
set_option linter.unusedVariables false
set_option linter.unusedSimpArgs false
set_option maxRecDepth 100000
set_option maxHeartbeats 4000000
open Go.RowKit
def byl(a b c d:Int):List Int:=(List.range 32).map fun j=>byp a b c d (31 -j)
theorem CB.get{w:World}{g:Nat}{a b c d:Int}(h:CB w g 32 a b c d): ∀i,i<32->w.cell? ⟨g,0+i,none⟩=some (.int .u8 ((byl a b c d).getD i 0)):=fun i hi=>by
 have:=(h i hi).1
 rw[if_pos (by omega)] at this
 rw[Nat.zero_add,this]
 unfold byl
 simp[List.getD,hi]
theorem Tryz.info5:(Tryz.prog.info? 5).map (fun i=>(i.zero,i.size,i.bytes))=some (some (.int .u8 0),1,1):=by kernel_rfl
def hexc(v:Int):Int:=if v<10 then 48+v else 87+v
def nib(a b c d:Int)(p:Nat):Int:=(if p/16=0 then a else if p/16=1 then b else if p/16=2 then c else d)/2^(p%16*4)%16
theorem hex_at(v:Int)(h0:0<=v)(h1:v<16)(hh:v.toNat<(ByteArray.mk #[48,49,50,51,52,53,54,55,56,57,97,98,99,100,101,102]).size):((((ByteArray.mk #[48,49,50,51,52,53,54,55,56,57,97,98,99,100,101,102])[v.toNat]'hh).toNat:Nat):Int)=hexc v:=by
 obtain⟨n,rfl⟩:=Int.eq_ofNat_of_zero_le h0
 have hn:n<16:=by omega
 have key: ∀m:Fin 16,((((ByteArray.mk #[48,49,50,51,52,53,54,55,56,57,97,98,99,100,101,102])[m.val]'(by have:=m.isLt;show m.val<16;omega)).toNat:Nat):Int)=hexc (m.val:Int):=by decide
 exact key ⟨n,hn⟩
theorem and15(x:Int)(h:W64 x):bits .and .u64 x 15=x%16:=by
 obtain⟨h1,h2⟩:=h
 obtain⟨x,rfl⟩:=Int.eq_ofNat_of_zero_le h1
 have e:=bits_and_u64_nat x 15 (by omega) (by omega)
 have f:x&&&15=x%16:=Nat.and_two_pow_sub_one_eq_mod x 4
 rw[f] at e
 exact e.trans (by omega)
def CT(w:World)(n N k:Nat)(a b c d:Int):Prop:= ∀j,j<N->w.cell? ⟨n,j,none⟩=some (.int .u8 (if N<=j+k then hexc (nib a b c d (N -1 -j)) else 0))/\w.frozen? ⟨n,j,none⟩=false
theorem CT.set{w:World}{n N k o:Nat}{a b c d:Int}(h:CT w n N k a b c d)(hk:k<N)(ho:o=N -1 -k)(v:Int)(hv:v=hexc (nib a b c d k)):CT (w.setCell ⟨n,o,none⟩ (.int .u8 v)) n N (k+1) a b c d:=fun j hj=>by
 subst ho
 rw[World.frozen?_setCell]
 obtain⟨hc,hf⟩:=h (N -1 -k) (by omega)
 by_cases e:j=N -1 -k
 ·subst e
  refine⟨?_,hf⟩
  rw[if_pos (by omega),show N -1 -(N -1 -k)=k by omega,hv]
  simp[go_sem,hc]
 ·obtain⟨hc',hf'⟩:=h j hj
  refine⟨?_,hf'⟩
  rw[World.cell?_setCell_other _ _ _ _ (by simp<;>omega),hc']
  by_cases g:N<=j+k
  ·rw[if_pos g,if_pos (by omega)]
  ·rw[if_neg g,if_neg (by omega)]
theorem CT.new(w:World)(N:Nat)(a b c d:Int):CT (w.alloc (.cells (madeCells #[.int .u8 0] N) 5)) w.heap.size N 0 a b c d:=fun j hj=>by
 have hf:(w.alloc (.cells (madeCells #[.int .u8 0] N) 5)).frozen? ⟨w.heap.size,j,none⟩=false:=by simp[go_sem]
 refine⟨?_,hf⟩
 rw[cell_of_row _ w.heap.size j _ 5 (0,0) (heap_alloc_new _ _),if_neg (by omega)]
 simp[madeCells,hj,Nat.mod_one]
def txl(a b c d:Int)(N:Nat):List Int:=(List.range N).map fun j=>hexc (nib a b c d (N -1 -j))
theorem CT.get{w:World}{g N:Nat}{a b c d:Int}(h:CT w g N N a b c d): ∀i,i<N->w.cell? ⟨g,0+i,none⟩=some (.int .u8 ((txl a b c d N).getD i 0)):=fun i hi=>by
 have:=(h i hi).1
 rw[if_pos (by omega)] at this
 rw[Nat.zero_add,this]
 unfold txl
 simp[List.getD,hi]
def nd(a b c d:Int):Nat:=if blen a b c d=0 then 1 else ((blen a b c d+3)/4).toNat
theorem blen_bd(a b c d:Int)(ha:W64 a)(hb:W64 b)(hc:W64 c)(hd:W64 d):0<=blen a b c d/\blen a b c d<=256:=by
 have h1:=Vw a ha;have h2:=Vw b hb;have h3:=Vw c hc;have h4:=Vw d hd
 unfold blen;split
 ·omega
 ·split
  ·omega
  ·split
   ·omega
   ·split<;>omega
theorem Text_any(a b c d:Int)(w:World)(ha:W64 a)(hb:W64 b)(hc:W64 c)(hd:W64 d):
 CC 59 #[A4 a b c d] w (.string (strOfNums (txl a b c d (nd a b c d)))):=by
 have hbb:=blen_bd a b c d ha hb hc hd
 obtain⟨N,eN⟩: ∃N,nd a b c d=N:=⟨_,rfl⟩
 rw[eN]
 have hmax:(max 1 ((blen a b c d+3)/4):Int)=(N:Int):=by
  rw[<-eN];unfold nd;split<;>omega
 have hN1:1<=N:=by omega
 have hN2:N<=64:=by omega
 obtain⟨L,eL⟩: ∃L,blen a b c d=L:=⟨_,rfl⟩
 have hlen:=Uv a b c d
 simp only[eL] at hlen hbb hmax
 have HLEN:Hid _:=hlen
 clear hlen eL eN
 have hmk:=fun w=>run_make_row' (P:=Tryz.prog) 46 5 (.int .u8 0) 1 Tryz.underlying46 Tryz.info5 rfl .i64 .i64 N (by omega) (by omega) w
 go_enter Tryz.func59,Tryz.ntmps59
 go_wp2_with fail
 refine(HLEN.out _ ha hb hc hd).mono ?_
 rintro en w1 ⟨rfl,hB⟩
 have hA1:C4 w1 w.heap.size a b c d:=C4.below (by unfold C4;simp[go_sem]) hB (by simp)
 have hq1:Bw w w1:=Yl (Z7 (Zx w) _) hB
 have hs1:=hB.size
 simp only[World.size_alloc] at hs1
 clear hB
 have HM:Hid _:=hmax
 go_wp2
 go_loopw [14] (fun i wr=> ∃k:Nat,k<=N/\i=iI k/\Bw w wr/\w1.heap.size<wr.heap.size/\C4 wr w.heap.size a b c d/\CT wr w1.heap.size N k a b c d) (fun i _=>N -(intOf i).toNat)
 case atStart=>
  exact⟨0,by omega,rfl,Z7 hq1 _,by simp,hA1.alloc (by omega) _,CT.new w1 N a b c d⟩
 case round=>
  clear hA1 hq1 hmk hmax
  obtain⟨k,hk,rfl,hB,hs,hA,hO⟩:=hrel
  by_cases hlt:k<N
  ·have hlt':(k:Int)<(N:Int):=by omega
   have hA':=hA
   obtain⟨⟨ac0,ac1,ac2,ac3⟩,_⟩:=hA'
   obtain⟨oc,of⟩:=hO (N -1 -k) (by omega)
   have hz:(if N<=N -1 -k+k then hexc (nib a b c d (N -1 -(N -1 -k))) else 0)=0:=if_neg (by omega)
   rw[hz] at oc
   clear hz
   have hq:k/16=0\/k/16=1\/k/16=2\/k/16=3:=by omega
   rcases hq with hq | hq | hq | hq
   ·have hq':(k:Int)/16=0:=by omega
    have hnd:=and15 _ (W_shr a (k%16*4) ha)
    have hv0:0<=a/2^(k%16*4)%16:=by omega
    have hv1:a/2^(k%16*4)%16<16:=by omega
    go_wp2
    refine⟨⟨k+1,by omega,by go_num,?_,by simpa using hs,hA.other _ (by dsimp only;omega) _,hO.set hlt (by omega) _ ?_⟩,by simp[intOf];omega⟩
    ·exact hB.setCell (by show _<=_;dsimp only;omega) _
    ·rw[hex_at _ hv0 hv1];unfold nib;simp[hq]
   ·have hq':(k:Int)/16=1:=by omega
    have hnd:=and15 _ (W_shr b (k%16*4) hb)
    have hv0:0<=b/2^(k%16*4)%16:=by omega
    have hv1:b/2^(k%16*4)%16<16:=by omega
    go_wp2
    refine⟨⟨k+1,by omega,by go_num,?_,by simpa using hs,hA.other _ (by dsimp only;omega) _,hO.set hlt (by omega) _ ?_⟩,by simp[intOf];omega⟩
    ·exact hB.setCell (by show _<=_;dsimp only;omega) _
    ·rw[hex_at _ hv0 hv1];unfold nib;simp[hq]
   ·have hq':(k:Int)/16=2:=by omega
    have hnd:=and15 _ (W_shr c (k%16*4) hc)
    have hv0:0<=c/2^(k%16*4)%16:=by omega
    have hv1:c/2^(k%16*4)%16<16:=by omega
    go_wp2
    refine⟨⟨k+1,by omega,by go_num,?_,by simpa using hs,hA.other _ (by dsimp only;omega) _,hO.set hlt (by omega) _ ?_⟩,by simp[intOf];omega⟩
    ·exact hB.setCell (by show _<=_;dsimp only;omega) _
    ·rw[hex_at _ hv0 hv1];unfold nib;simp[hq]
   ·have hq':(k:Int)/16=3:=by omega
    have hnd:=and15 _ (W_shr d (k%16*4) hd)
    have hv0:0<=d/2^(k%16*4)%16:=by omega
    have hv1:d/2^(k%16*4)%16<16:=by omega
    go_wp2
    refine⟨⟨k+1,by omega,by go_num,?_,by simpa using hs,hA.other _ (by dsimp only;omega) _,hO.set hlt (by omega) _ ?_⟩,by simp[intOf];omega⟩
    ·exact hB.setCell (by show _<=_;dsimp only;omega) _
    ·rw[hex_at _ hv0 hv1];unfold nib;simp[hq]
  ·have hkN:k=N:=by omega
   subst hkN
   have hcv:=run_convert_bytes_arg (P:=Tryz.prog) wr 46 5 Tryz.underlying46 Tryz.underlying5 w1.heap.size 0 k k (txl a b c d k) (by simp[txl]) hO.get 9 Tryz.underlying9
   go_wp2
   go_ret
   exact⟨rfl,hB⟩
theorem Wl:EnT 31:=fun _ _=>by kernel_rfl
theorem In_7:In 7:=⟨by omega,by omega⟩
def chE(p q:Int):Int:=if gOk p q then 0 else 90
theorem xchk_o(p q g h:Int)(w:World)(hp:In p)(hq:In q)(i2:In (q+q -0x10000000000000000000000000000000000000000000000000000000000000000))(h2:0x10000000000000000000000000000000000000000000000000000000000000000<=q+q):
 CC 31 #[GX p q g h] w (iI 90):=by
 go_enter Tryz.func31,Tryz.ntmps31
 go_upto_region 1 with fail
 obtain⟨v0,hC,HB0,K0⟩:=bx1 w (GE p q g h) 26
 rw[hC]
 clear hC
 refine Rp K0 HB0 [] [(8,3,L0s,some (9,LN (q+q -0x10000000000000000000000000000000000000000000000000000000000000000)))] (cG 0 8 [_,_,_,_,_] [(5,7,_),(6,13,_),(7,14,_),(10,4,_)]) [(9,8)] [] [false] (oc (g_fd (fdG1 _))<|oc (g_lo 0 4 uN iN)<|oc (g_fd (fdG1 _))<|oc (g_lo 0 4 uN iN)<|oc (g_cl Z1 (fun uZ=>nrAdd_ge q q uZ hq hq h2))<|oc g_mv<|oc g_ex<|oc g_ex<|oc (g_al 0 aN)<|oc (g_sn 0 iN)<|oc g_as on) fun u1 b1_8 HB1 _ K1=>?_
 simp only[sQ] at K1⊢
 go_upto_region 2 with fail
 refine Rp K1 HB1 [] [(6,5,L0s,some (7,LN (q+q -0x10000000000000000000000000000000000000000000000000000000000000000+1)))] (cG 0 16 [_,_,_] [(3,15,_),(4,19,_),(5,20,_),(8,6,_)]) [(7,6)] [] [false,false] (oc (g_ld 0 uN iN)<|oc (g_bd (fun uZ=>bdX 1 (by omega) (by omega) uZ))<|oc (g_cl Z1 (fun uZ=>nrAdd (q+q -0x10000000000000000000000000000000000000000000000000000000000000000) 1 uZ i2 In_1))<|oc g_mv<|oc g_ex<|oc g_ex<|oc (g_al 0 aN)<|oc (g_sn 0 iN)<|oc g_as on) fun u2 b2_6 HB2 _ K2=>?_
 simp only[sQ] at K2⊢
 go_upto_region 3 with fail
 refine Rn K2 HB2 (cG 0 21 [_,_,undef,_,_,undef,undef,undef,undef,_,_,undef,undef,undef,undef,undef,_,_,undef,undef,undef,undef,undef,_] []) (oc g_mv<|oc g_mv<|oc g_sk<|oc g_pk<|oc g_mv<|oc g_sk<|oc g_sk<|oc g_sk<|oc g_sk<|oc g_pk<|oc g_mv<|oc g_sk<|oc g_sk<|oc g_sk<|oc g_sk<|oc g_sk<|oc g_pk<|oc g_mv<|oc g_sk<|oc g_sk<|oc g_sk<|oc g_sk<|oc g_sk<|oc g_pk on) fun u3 HB3 _ K3=>?_
 simp only[sQ] at K3⊢
 go_upto_region 4 with fail
 refine Rn K3 HB3 [(0,2,_)] (oc g_as on) fun u4 HB4 _ K4=>?_
 simp only[sQ] at K4⊢
 go_wp2
 refine bodyPost_ret (v:=iI 90) (by simp[results,Tryz.results31,go_sem,]) rfl ⟨rfl,HB4⟩
theorem xchk_n(p q g h:Int)(w:World)(hp:In p)(hq:In q)(i2:In (q+q))(i3:In (q+q+1))(d0:0<=D0 p)(d1:D0 p<18446744073709551616)(h2:q+q<0x10000000000000000000000000000000000000000000000000000000000000000)(h3:q+q+1<0x10000000000000000000000000000000000000000000000000000000000000000)(h4:decide (q+q+1=p)=!true):
 CC 31 #[GX p q g h] w (iI 90):=by
 go_enter Tryz.func31,Tryz.ntmps31
 go_upto_region 1 with fail
 obtain⟨v0,hC,HB0,K0⟩:=bx1 w (GE p q g h) 26
 rw[hC]
 clear hC
 refine Rp K0 HB0 [] [(8,3,L0s,some (9,LN (q+q)))] (cG 0 8 [_,_,_,_,_] [(5,7,_),(6,13,_),(7,14,_),(10,4,_)]) [(9,8)] [] [] (oc (g_fd (fdG1 _))<|oc (g_lo 0 4 uN iN)<|oc (g_fd (fdG1 _))<|oc (g_lo 0 4 uN iN)<|oc (g_cl Z1 (fun uZ=>X9 q q uZ hq hq h2))<|oc g_mv<|oc g_ex<|oc g_ex<|oc (g_al 0 aN)<|oc (g_sn 0 iN)<|oc g_as on) fun u1 b1_8 HB1 _ K1=>?_
 simp only[sQ] at K1⊢
 go_upto_region 2 with fail
 refine Rp K1 HB1 [] [(6,5,L0s,some (7,LN (q+q+1)))] (cG 0 16 [_,_,_] [(3,15,_),(4,19,_),(5,20,_),(8,6,_)]) [(7,6)] [] [true,false] (oc (g_ld 1 uN iN)<|oc (g_bd (fun uZ=>bdX 1 (by omega) (by omega) uZ))<|oc (g_cl Z1 (fun uZ=>X9 (q+q) 1 uZ i2 In_1 h3))<|oc g_mv<|oc g_ex<|oc g_ex<|oc (g_al 0 aN)<|oc (g_sn 0 iN)<|oc g_as on) fun u2 b2_6 HB2 _ K2=>?_
 simp only[sQ] at K2⊢
 go_upto_region 3 with fail
 refine Rp K2 HB2 [] [] (cG 0 21 [_,_,_,_,_,_,_,_,_,_,_,undef,undef,undef,undef,undef,_,_,undef,undef,undef,undef,undef,_] []) [] [] [false,false] (oc g_mv<|oc g_mv<|oc g_mv<|oc g_pk<|oc g_mv<|oc (g_ld 1 uN iN)<|oc (g_fd (fdG0 _))<|oc (g_lo 0 0 uN iN)<|oc (g_bn (Yy _ _ i3 hp _ h4))<|oc g_pk<|oc g_mv<|oc g_sk<|oc g_sk<|oc g_sk<|oc g_sk<|oc g_sk<|oc g_pk<|oc g_mv<|oc g_sk<|oc g_sk<|oc g_sk<|oc g_sk<|oc g_sk<|oc g_pk on) fun u3 HB3 _ K3=>?_
 simp only[sQ] at K3⊢
 go_upto_region 4 with fail
 refine Rn K3 HB3 [(0,2,_)] (oc g_as on) fun u4 HB4 _ K4=>?_
 simp only[sQ] at K4⊢
 go_wp2
 refine bodyPost_ret (v:=iI 90) (by simp[results,Tryz.results31,go_sem,]) rfl ⟨rfl,HB4⟩
theorem xchk_7(p q g h:Int)(w:World)(hp:In p)(hq:In q)(i2:In (q+q))(i3:In (q+q+1))(d0:0<=D0 p)(d1:D0 p<18446744073709551616)(h2:q+q<0x10000000000000000000000000000000000000000000000000000000000000000)(h3:q+q+1<0x10000000000000000000000000000000000000000000000000000000000000000)(h4:decide (q+q+1=p)=!false)(h5:decide (cmpI p 7<0)=true):
 CC 31 #[GX p q g h] w (iI 90):=by
 go_enter Tryz.func31,Tryz.ntmps31
 go_upto_region 1 with fail
 obtain⟨v0,hC,HB0,K0⟩:=bx1 w (GE p q g h) 26
 rw[hC]
 clear hC
 refine Rp K0 HB0 [] [(8,3,L0s,some (9,LN (q+q)))] (cG 0 8 [_,_,_,_,_] [(5,7,_),(6,13,_),(7,14,_),(10,4,_)]) [(9,8)] [] [] (oc (g_fd (fdG1 _))<|oc (g_lo 0 4 uN iN)<|oc (g_fd (fdG1 _))<|oc (g_lo 0 4 uN iN)<|oc (g_cl Z1 (fun uZ=>X9 q q uZ hq hq h2))<|oc g_mv<|oc g_ex<|oc g_ex<|oc (g_al 0 aN)<|oc (g_sn 0 iN)<|oc g_as on) fun u1 b1_8 HB1 _ K1=>?_
 simp only[sQ] at K1⊢
 go_upto_region 2 with fail
 refine Rp K1 HB1 [] [(6,5,L0s,some (7,LN (q+q+1)))] (cG 0 16 [_,_,_] [(3,15,_),(4,19,_),(5,20,_),(8,6,_)]) [(7,6)] [] [true,false] (oc (g_ld 1 uN iN)<|oc (g_bd (fun uZ=>bdX 1 (by omega) (by omega) uZ))<|oc (g_cl Z1 (fun uZ=>X9 (q+q) 1 uZ i2 In_1 h3))<|oc g_mv<|oc g_ex<|oc g_ex<|oc (g_al 0 aN)<|oc (g_sn 0 iN)<|oc g_as on) fun u2 b2_6 HB2 _ K2=>?_
 simp only[sQ] at K2⊢
 go_upto_region 3 with fail
 refine Rp K2 HB2 [] [] (cG 0 21 [_,_,_,_,_,_,_,_,_,_,_,_,_,_,_,_,_,_,undef,undef,undef,undef,undef,_] []) [] [] [false,false] (oc g_mv<|oc g_mv<|oc g_mv<|oc g_pk<|oc g_mv<|oc (g_ld 1 uN iN)<|oc (g_fd (fdG0 _))<|oc (g_lo 0 0 uN iN)<|oc (g_bn (Yy _ _ i3 hp _ h4))<|oc g_pk<|oc g_mv<|oc (g_fd (fdG0 _))<|oc (g_lo 0 0 uN iN)<|oc (g_bd (fun uZ=>bdX 7 (by omega) (by omega) uZ))<|oc (g_cl Z0 (fun uZ=>Zk p 7 uZ hp In_7))<|oc (g_bn (fun uZ=>Zg _ _ (cmpI p 7) 0 _ uZ h5))<|oc g_pk<|oc g_mv<|oc g_sk<|oc g_sk<|oc g_sk<|oc g_sk<|oc g_sk<|oc g_pk on) fun u3 HB3 _ K3=>?_
 simp only[sQ] at K3⊢
 go_upto_region 4 with fail
 refine Rn K3 HB3 [(0,2,_)] (oc g_as on) fun u4 HB4 _ K4=>?_
 simp only[sQ] at K4⊢
 go_wp2
 refine bodyPost_ret (v:=iI 90) (by simp[results,Tryz.results31,go_sem,]) rfl ⟨rfl,HB4⟩
theorem xchk_k(p q g h:Int)(w:World)(hp:In p)(hq:In q)(i2:In (q+q))(i3:In (q+q+1))(d0:0<=D0 p)(d1:D0 p<18446744073709551616)(h2:q+q<0x10000000000000000000000000000000000000000000000000000000000000000)(h3:q+q+1<0x10000000000000000000000000000000000000000000000000000000000000000)(h4:decide (q+q+1=p)=!false)(h5:decide (cmpI p 7<0)=false)(h6:(D0 p%2==0)=false):
 CC 31 #[GX p q g h] w (iI 0):=by
 go_enter Tryz.func31,Tryz.ntmps31
 go_upto_region 1 with fail
 obtain⟨v0,hC,HB0,K0⟩:=bx1 w (GE p q g h) 26
 rw[hC]
 clear hC
 refine Rp K0 HB0 [] [(8,3,L0s,some (9,LN (q+q)))] (cG 0 8 [_,_,_,_,_] [(5,7,_),(6,13,_),(7,14,_),(10,4,_)]) [(9,8)] [] [] (oc (g_fd (fdG1 _))<|oc (g_lo 0 4 uN iN)<|oc (g_fd (fdG1 _))<|oc (g_lo 0 4 uN iN)<|oc (g_cl Z1 (fun uZ=>X9 q q uZ hq hq h2))<|oc g_mv<|oc g_ex<|oc g_ex<|oc (g_al 0 aN)<|oc (g_sn 0 iN)<|oc g_as on) fun u1 b1_8 HB1 _ K1=>?_
 simp only[sQ] at K1⊢
 go_upto_region 2 with fail
 refine Rp K1 HB1 [] [(6,5,L0s,some (7,LN (q+q+1)))] (cG 0 16 [_,_,_] [(3,15,_),(4,19,_),(5,20,_),(8,6,_)]) [(7,6)] [] [true,false] (oc (g_ld 1 uN iN)<|oc (g_bd (fun uZ=>bdX 1 (by omega) (by omega) uZ))<|oc (g_cl Z1 (fun uZ=>X9 (q+q) 1 uZ i2 In_1 h3))<|oc g_mv<|oc g_ex<|oc g_ex<|oc (g_al 0 aN)<|oc (g_sn 0 iN)<|oc g_as on) fun u2 b2_6 HB2 _ K2=>?_
 simp only[sQ] at K2⊢
 go_upto_region 3 with fail
 refine Rp K2 HB2 [] [] (cG 0 21 [_,_,_,_,_,_,_,_,_,_,_,_,_,_,_,_,_,_,_,_,_,_,_,_] []) [] [] [false,false] (oc g_mv<|oc g_mv<|oc g_mv<|oc g_pk<|oc g_mv<|oc (g_ld 1 uN iN)<|oc (g_fd (fdG0 _))<|oc (g_lo 0 0 uN iN)<|oc (g_bn (Yy _ _ i3 hp _ h4))<|oc g_pk<|oc g_mv<|oc (g_fd (fdG0 _))<|oc (g_lo 0 0 uN iN)<|oc (g_bd (fun uZ=>bdX 7 (by omega) (by omega) uZ))<|oc (g_cl Z0 (fun uZ=>Zk p 7 uZ hp In_7))<|oc (g_bn (fun uZ=>Zg _ _ (cmpI p 7) 0 _ uZ h5))<|oc g_pk<|oc g_mv<|oc (g_fd (fdG0 _))<|oc (g_ix (jN 0))<|oc (g_lc 0 0 lU)<|oc (g_bn (fun uZ=>Uu _ _ (D0 p) 2 (D0 p%2) uZ d0 d1 (by omega) rfl))<|oc (g_bn (fun uZ=>Vg _ _ _ (D0 p%2) 0 _ uZ h6))<|oc g_pk on) fun u3 HB3 _ K3=>?_
 simp only[sQ] at K3⊢
 go_upto_region 5 with fail
 refine Rn K3 HB3 [(0,2,_)] (oc g_as on) fun u4 HB4 _ K4=>?_
 simp only[sQ] at K4⊢
 go_wp2
 refine bodyPost_ret (v:=iI 0) (by simp[results,Tryz.results31,go_sem,]) rfl ⟨rfl,HB4⟩
theorem xCheckG(p q g h:Int)(w:World)(hp:In p)(hq:In q):CC 31 #[GX p q g h] w (iI (chE p q)):=by
 have hq0:=hq.1
 have hq1:=hq.2
 have hp1:=hp.2
 have e90: ¬(p=2*q+1/\7<=p)->chE p q=90:=fun h=>if_neg h
 have e0:(p=2*q+1/\7<=p)->chE p q=0:=fun h=>if_pos h
 by_cases h2:0x10000000000000000000000000000000000000000000000000000000000000000<=q+q
 ·rw[e90 (by omega)]
  exact xchk_o p q g h w hp hq ⟨by omega,by omega⟩ h2
 have hd:0<=D0 p/\D0 p<18446744073709551616:=by unfold D0;omega
 have i2:In (q+q):=⟨by omega,by omega⟩
 have i3:In (q+q+1):=⟨by omega,by omega⟩
 by_cases h4:q+q+1=p
 ·have h4':decide (q+q+1=p)=!false:=by simp[h4]
  by_cases h7:p<7
  ·rw[e90 (by omega)]
   exact xchk_7 p q g h w hp hq i2 i3 hd.1 hd.2 (by omega) (by omega) h4' (by rw[T4];simp only[h7,decide_true])
  ·rw[e0 (by omega)]
   exact xchk_k p q g h w hp hq i2 i3 hd.1 hd.2 (by omega) (by omega) h4' (by rw[T4];simp only[h7,decide_false]) (by rw[D0_odd];simp;omega)
 ·rw[e90 (by omega)]
  exact xchk_n p q g h w hp hq i2 i3 hd.1 hd.2 (by omega) (by omega) (by simp[h4])
def isB(p q x:Int):Bool:=decide (gOk p q/\Mb p q x)
def exPE(p q x:Int):Int:=if isB p q x then 0 else 90
def exPX(p q x e:Int):Int:=if isB p q x then x^(e%q).toNat%p else 0
theorem isB_t{p q x:Int}(h:isB p q x=true):gOk p q/\Mb p q x:=of_decide_eq_true h
def mlB(p q:Int)(ns:List Int):Bool:=decide (gOk p q)&&ns.all (isB p q)
def NL(u:World)(v:Value)(ns:List Int):Prop:= ∃sl gb go cap,v= .slice sl ns.length cap/\ns.length<=cap/\(sl=none->cap=0)/\(ns=[]\/sl=some ⟨gb,go,none⟩)/\(ns.length=0\/gb<u.heap.size)/\SN u gb go ns
theorem NL.up{w u:World}{v:Value}{ns:List Int}(h:NL w v ns)(hB:Bw w u):NL u v ns:=by
 obtain⟨sl,gb,go,cap,h1,h2,h3,h4,h5,h6⟩:=h
 refine⟨sl,gb,go,cap,h1,h2,h3,h4,h5.imp id fun e=>Nat.lt_of_lt_of_le e hB.size,?_⟩
 rcases h5 with h5 | h5
 ·exact SN.empty h5
 ·exact h6.below hB h5
def N2(a b:Int)(u:World)(v:Value):Prop:=NL u v [a,b]
theorem N2.stab{a b:Int}{u u2:World}{x:Value}(hB:Bw u u2)(h:N2 a b u x):N2 a b u2 x:=NL.up h hB
def N1x(a:Int)(u:World)(v:Value):Prop:=NL u v [a]
theorem N1x.stab{a:Int}{u u2:World}{x:Value}(hB:Bw u u2)(h:N1x a u x):N1x a u2 x:=NL.up h hB
theorem bsNx1(a:Int)(w:World):(Instr.buildSlice 61 1 ([0].zip [NV a]).toArray).run Tryz.prog w= .ok (.slice (some ⟨w.heap.size,0,none⟩) 1 1) (w.alloc (.cells (flN [a]).toArray 24)):=by kernel_rfl
theorem inNx1(a:Int)(u:World):N1x a (u.alloc (.cells (flN [a]).toArray 24)) (.slice (some ⟨u.heap.size,0,none⟩) 1 1):=
 ⟨_,u.heap.size,0,1,rfl,by simp,by simp,.inr rfl,.inr (by simp),fun j v hj=>by rw[Nat.zero_add];exact(CV.new u (flN [a]) 24 j v hj).1⟩
section
def txG(n:Int):ByteArray:=strOfNums (txl (D0 n) (D1 n) (D2 n) (D3 n) (nd (D0 n) (D1 n) (D2 n) (D3 n)))
theorem nTextG(n:Int)(w:World):CC 59 #[NV n] w (.string (txG n)):=Text_any _ _ _ _ w (W_D0 n) (W_D1 n) (W_D2 n) (W_D3 n)
theorem tx_szG(n:Int):(txG n).size<=64:=by
 unfold txG
 rw[strOfNums_size]
 unfold txl
 rw[List.length_map,List.length_range]
 have:=blen_bd _ _ _ _ (W_D0 n) (W_D1 n) (W_D2 n) (W_D3 n)
 unfold nd
 split<;>omega
structure GT(w:World):Prop where
 sz:0<w.heap.size
 tab:Lib.TabIs Tryz.prog w "internal/strconv.uint64pow10" .u64 Lib.pow10Tab
theorem gPowG:Tryz.prog.globalNamed "internal/strconv.uint64pow10" =some 0:=by kernel_rfl
theorem GT.below{w u:World}(h:GT w)(hB:Bw w u):GT u where
 sz:=Nat.lt_of_lt_of_le h.sz hB.size
 tab:=Go.Joins.tab_stays gPowG h.tab hB (Nat.le_refl _)
theorem below_growG(w:World)(k:Nat)(os:Array Obj):Bw w (Go.Sort.grow (w.drewN k) os):=by
 have h1:(w.drewN k).heap=w.heap:=rfl
 exact⟨rfl,rfl,rfl,by simp[Go.Sort.grow,h1],fun i hi=>by simp[Go.Sort.grow,h1,Array.getElem?_append_left hi]⟩
def iaG(n:Int):ByteArray:=⟨(Lib.itoa n).toArray⟩
theorem ia_szG(n:Int)(h0: -9223372036854775808<=n)(h1:n<=9223372036854775807):(iaG n).size<=21:=by
 have:=Lib.itoa_length_le n h0 h1
 simpa [iaG,ByteArray.size] using this
theorem cItoaG(n:Int)(w:World)(h0: -9223372036854775808<=n)(h1:n<=9223372036854775807)(hG:GT w):CC 11 #[iI n] w (.string (iaG n)):=by
 refine(Tryz.strconv_Itoa n h0 h1 w hG.tab).mono ?_
 rintro e u ⟨rfl,k,os,rfl⟩
 exact⟨rfl,below_growG w k os⟩
section
variable {R:Rg} {P:Program} {Q:Exit->Act->World->Prop} {ops:Array Oper} {i:Nat} {o:Oper}
theorem Vu{T:TypeId}{x:Operand}{vx v:Value}(hr: ∀w,(Instr.makeInterface T vx).run P w= .ok v w)(hop:o.op= .makeInterface T x:=by rfl)(hx:evR R i o x=some vx:=by rfl)(hv:some v=Y4 i R.G:=by rfl)(hc:R.chk ops i o=true:=by rfl):OG R P ops Q i o:=
 g_op (fun ev u he=>by
  unfold execOp;rw[hop];simp only[he _ _ hx]
  rw[Sem.run_bind,hr,Result.andThen_ok,Sem.run_pure]) hv hc
end
theorem miEG(n:Int)(w:World):(Instr.makeInterface 27 (iI n)).run Tryz.prog w= .ok (.iface 27 (iI n)) w:=by kernel_rfl
theorem miFG(s:ByteArray)(T:TypeId)(x:Value)(w:World):(Instr.makeInterface 43 (.agg #[.string s,.iface T x])).run Tryz.prog w= .ok (.iface 43 (.agg #[.string s,.iface T x])) w:=by kernel_rfl
theorem bdFlG(s:ByteArray)(T:TypeId)(x:Value)(w:World):(Instr.build 43 [(0,.string s),(1,.iface T x)].toArray).run Tryz.prog w= .ok (.agg #[.string s,.iface T x]) w:=by kernel_rfl
theorem T9(p q:Operand)(s t:ByteArray)(w:World)(h:s.size+t.size<=1000):(do eqGuard .add 9 p q (.string s) (.string t);binOp .add 9 (.string s) (.string t):Sem Value).run Tryz.prog w= .ok (.string (s++t)) w:=by
 have h2: ¬9223372036854775807<s.size+t.size:=by omega
 go_simp
theorem neq_noG(p:Operand)(c:Value)(w:World):(do eqGuard .neq 41 p (.const c) .nilIface .nilIface;binOp .neq 41 .nilIface .nilIface:Sem Value).run Tryz.prog w= .ok (.bool false) w:=by go_simp
theorem neq_erG(p q:Operand)(T:TypeId)(x:Value)(w:World):(do eqGuard .neq 41 p q (.iface T x) .nilIface;binOp .neq 41 (.iface T x) .nilIface:Sem Value).run Tryz.prog w= .ok (.bool true) w:=by go_simp
theorem lss_z(p q:Operand)(x y:Int)(b:Bool)(w:World)(h:decide (x<y)=b):(do eqGuard .lss 3 p q (iI x) (iI y);binOp .lss 3 (iI x) (iI y):Sem Value).run Tryz.prog w= .ok (.bool b) w:=by
 subst h;go_simp
theorem geq_y(p q:Operand)(x y:Int)(b:Bool)(w:World)(h:decide (y<=x)=b):(do eqGuard .geq 3 p q (iI x) (iI y);binOp .geq 3 (iI x) (iI y):Sem Value).run Tryz.prog w= .ok (.bool b) w:=by
 subst h;go_simp
theorem neq_w8(p q:Operand)(a b c d e f g h a' b' c' d' e' f' g' h':Int)(w:World):(do eqGuard .neq 85 p q (A8 a b c d e f g h) (A8 a' b' c' d' e' f' g' h');binOp .neq 85 (A8 a b c d e f g h) (A8 a' b' c' d' e' f' g' h'):Sem Value).run Tryz.prog w= .ok (.bool (!eq8 a b c d e f g h a' b' c' d' e' f' g' h')) w:=by
 go_simp
theorem neq_ww(p q:Operand){n m:Int}(hn:In n)(hm:In m)(b:Bool)(hb:decide (n=m)=!b)(w:World):(do eqGuard .neq 85 p q (WV n) (WV m);binOp .neq 85 (WV n) (WV m):Sem Value).run Tryz.prog w= .ok (.bool b) w:=by
 have e1:D4 n=0:=by unfold D4;exact Int.ediv_eq_zero_of_lt hn.1 hn.2
 have e2:D4 m=0:=by unfold D4;exact Int.ediv_eq_zero_of_lt hm.1 hm.2
 have e3:eq8 (D0 n) (D1 n) (D2 n) (D3 n) (D0 0) (D1 0) (D2 0) (D3 0) (D0 m) (D1 m) (D2 m) (D3 m) (D0 0) (D1 0) (D2 0) (D3 0)=!b:=by
  rw[<-hb,<-eq4_N hn hm];simp[eq8,eq4]
 rw[neq_w8,e1,e2,e3,Bool.not_not]
theorem Xn:EnT 59:=fun _ _=>by kernel_rfl
theorem Wk:EnT 11:=fun _ _=>by kernel_rfl
theorem V0:EnT 37:=fun _ _=>by kernel_rfl
theorem U3:EnT 56:=fun _ _=>by kernel_rfl
theorem W1:EnT 35:=fun _ _=>by kernel_rfl
theorem W9:EnT 10:=fun _ _=>by kernel_rfl
def sP1:ByteArray:=⟨#[80,32,105,115,32,111,110,108,121,32]⟩
def sX1:ByteArray:=⟨#[32,105,115,32,110,111,116,32,102,114,111,109,32,49,32,116,111,32,80,32,45,32,49]⟩
def sX2:ByteArray:=⟨#[32,116,111,32,116,104,101,32,81,32,105,115,32,110,111,116,32,49]⟩
def sM2:ByteArray:=⟨#[110,117,109,98,101,114,32]⟩
def grV(p q:Int):Value:=if p<7 then .iface 43 (.agg #[.string (sP1++txG p),(.iface 27 (iI 90))]) else if p%2=0 then .iface 43 (.agg #[.string ⟨#[80,32,105,115,32,101,118,101,110]⟩,(.iface 27 (iI 90))]) else if p/2=q then .nilIface else .iface 43 (.agg #[.string ⟨#[80,32,105,115,32,110,111,116,32,50,32,81,32,97,110,100,32,49]⟩,(.iface 27 (iI 90))])
def mbV(p q x:Int):Value:=if x=0\/p<=x then .iface 43 (.agg #[.string (txG x++sX1),(.iface 27 (iI 90))]) else if x^q.toNat%p=1 then .nilIface else .iface 43 (.agg #[.string (txG x++sX2),(.iface 27 (iI 90))])
theorem group_0(p q g h c:Int)(re:Value)(w:World)(hp:In p)(hq:In q)(i2:In 2)(iq:In (p/2))(hC:Hid (∀u,CC 30 #[NV p,NV 7] u (iI c)))(im:In (p%2))(hR:Hid (re=if decide (c<0) then .iface 43 (.agg #[.string (sP1++txG p),(.iface 27 (iI 90))]) else if decide (p%2=0) then .iface 43 (.agg #[.string ⟨#[80,32,105,115,32,101,118,101,110]⟩,(.iface 27 (iI 90))]) else if decide (p/2=q) then .nilIface else .iface 43 (.agg #[.string ⟨#[80,32,105,115,32,110,111,116,32,50,32,81,32,97,110,100,32,49]⟩,(.iface 27 (iI 90))]))):CC 37 #[GX p q g h] w re:=by
 go_enter Tryz.func37,Tryz.ntmps37
 go_upto_region 1 with fail
 obtain⟨v0,hC,HB0,K0⟩:=bx1 w (GE p q g h) 26
 rw[hC]
 clear hC
 go_upto_region 1 with fail
 refine Rp K0 HB0 [] [(9,3,L0w,some (11,LW (p/2))),(10,4,L0s,some (12,LN (p%2)))] (cG 0 7 [_,_,_,_,_] [(5,6,_),(6,12,_),(7,13,_),(8,14,_),(13,5,_)]) [(11,9),(12,10)] [] [] (oc (g_fd (fdG0 _))<|oc (g_lo 0 0 uN iN)<|oc (g_cl Zo (fun uZ=>V5 p uZ hp))<|oc (g_cl Zl (fun uZ=>nOf 2 uZ (by decide) (by decide)))<|oc (g_cl Vi (fun uZ=>nDivide p 2 uZ hp.wide i2 (by decide)))<|oc g_mv<|oc g_ex<|oc g_ex<|oc g_ex<|oc (g_al 0 aW)<|oc (g_al 1 aN)<|oc (g_sn 0 iW)<|oc (g_sn 1 iN)<|oc g_as on) fun u1 b1_9 b1_10 HB1 _ K1=>?_
 simp only[sQ] at K1⊢
 cases hc:decide (c<0)
 ·skip
  go_upto_region 2 with fail
  refine Rm K1 HB1 (cG 0 16 [_,_,_,_,_] [(5,15,_)]) (oc (g_fd (fdG0 _))<|oc (g_lo 0 0 uN iN)<|oc (g_cl Zl (fun uZ=>nOf 7 uZ (by decide) (by decide)))<|oc (g_cl Y2 hC.out)<|oc (g_bn (fun uZ=>lss_z _ _ _ _ _ uZ hc))<|oc g_as on) fun u2 HB2 sz2 K2=>?_
  simp only[sQ] at K2⊢
  cases h2:decide (p%2=0)
  ·skip
   go_upto_region 4 with fail
   refine Rp K2 HB2 [] [] (cG 0 29 [_,_,_] [(3,28,_)]) [] [] [true,true,false] (oc (g_ld 2 uN iN)<|oc (g_bd zN)<|oc (g_bn (eql_0 _ _ im _ h2))<|oc g_as on) fun u3 HB3 sz3 K3=>?_
   simp only[sQ] at K3⊢
   cases h3:decide (p/2=q)
   ·skip
    go_upto_region 6 with fail
    refine Rd K3 HB3 [] [] (cG 0 36 [_,_,_,_,_] [(5,35,_)]) [] [] [false,false] (oc (g_ld 1 uW iW)<|oc (g_fd (fdG1 _))<|oc (g_lo 0 4 uN iN)<|oc (g_cl Zo (fun uZ=>V5 q uZ hq))<|oc (g_bn (neq_ww _ _ iq hq true h3))<|oc g_as on) fun u4 HB4 sz4 K4=>?_
    simp only[sQ] at K4⊢
    go_upto_region 7 with fail
    refine Rn K4 HB4 (cG 0 41 [_,_,_] [(3,2,_)]) (oc (Vu (miEG 90))<|oc (g_bd (bdFlG ⟨#[80,32,105,115,32,110,111,116,32,50,32,81,32,97,110,100,32,49]⟩ _ _))<|oc (Vu (miFG ⟨#[80,32,105,115,32,110,111,116,32,50,32,81,32,97,110,100,32,49]⟩ _ _))<|oc g_as on) fun u5 HB5 sz5 K5=>?_
    simp only[sQ] at K5⊢
    go_wp2
    refine bodyPost_ret (v:= .iface 43 (.agg #[.string ⟨#[80,32,105,115,32,110,111,116,32,50,32,81,32,97,110,100,32,49]⟩,(.iface 27 (iI 90))])) (by simp[results,Tryz.results37,go_sem,]) rfl ⟨by rw[hR.out,hc,h2,h3];rfl,HB5⟩
   ·skip
    go_upto_region 6 with fail
    refine Rd K3 HB3 [] [] (cG 0 36 [_,_,_,_,_] [(5,35,_)]) [] [] [false,false] (oc (g_ld 1 uW iW)<|oc (g_fd (fdG1 _))<|oc (g_lo 0 4 uN iN)<|oc (g_cl Zo (fun uZ=>V5 q uZ hq))<|oc (g_bn (neq_ww _ _ iq hq false h3))<|oc g_as on) fun u4 HB4 sz4 K4=>?_
    simp only[sQ] at K4⊢
    go_upto_region 8 with fail
    refine Rn K4 HB4 [(0,2,_)] (oc g_as on) fun u5 HB5 sz5 K5=>?_
    simp only[sQ] at K5⊢
    go_wp2
    refine bodyPost_ret (v:= .nilIface) (by simp[results,Tryz.results37,go_sem,]) rfl ⟨by rw[hR.out,hc,h2,h3];rfl,HB5⟩
  ·skip
   go_upto_region 4 with fail
   refine Rp K2 HB2 [] [] (cG 0 29 [_,_,_] [(3,28,_)]) [] [] [false,false,false] (oc (g_ld 2 uN iN)<|oc (g_bd zN)<|oc (g_bn (eql_0 _ _ im _ h2))<|oc g_as on) fun u3 HB3 sz3 K3=>?_
   simp only[sQ] at K3⊢
   go_upto_region 5 with fail
   refine Rn K3 HB3 (cG 0 32 [_,_,_] [(3,2,_)]) (oc (Vu (miEG 90))<|oc (g_bd (bdFlG ⟨#[80,32,105,115,32,101,118,101,110]⟩ _ _))<|oc (Vu (miFG ⟨#[80,32,105,115,32,101,118,101,110]⟩ _ _))<|oc g_as on) fun u4 HB4 sz4 K4=>?_
   simp only[sQ] at K4⊢
   go_wp2
   refine bodyPost_ret (v:= .iface 43 (.agg #[.string ⟨#[80,32,105,115,32,101,118,101,110]⟩,(.iface 27 (iI 90))])) (by simp[results,Tryz.results37,go_sem,]) rfl ⟨by rw[hR.out,hc,h2];rfl,HB4⟩
 ·skip
  go_upto_region 2 with fail
  refine Rd K1 HB1 [] [] (cG 0 16 [_,_,_,_,_] [(5,15,_)]) [] [] [true,false,false] (oc (g_fd (fdG0 _))<|oc (g_lo 0 0 uN iN)<|oc (g_cl Zl (fun uZ=>nOf 7 uZ (by decide) (by decide)))<|oc (g_cl Y2 hC.out)<|oc (g_bn (fun uZ=>lss_z _ _ _ _ _ uZ hc))<|oc g_as on) fun u2 HB2 sz2 K2=>?_
  simp only[sQ] at K2⊢
  go_upto_region 3 with fail
  refine Rp K2 HB2 [] [] (cG 0 21 [_,_,_,_,_,_,_] [(7,2,_)]) [] [] [false] (oc (g_fd (fdG0 _))<|oc (g_lo 0 0 uN iN)<|oc (g_cl Xn (nTextG p))<|oc (g_bn (fun uZ=>T9 _ _ sP1 (txG p) uZ (by have:=tx_szG p;have:sP1.size=10:=rfl;omega)))<|oc (Vu (miEG 90))<|oc (g_bd (bdFlG (sP1++txG p) _ _))<|oc (Vu (miFG (sP1++txG p) _ _))<|oc g_as on) fun u3 HB3 sz3 K3=>?_
  simp only[sQ] at K3⊢
  go_wp2
  refine bodyPost_ret (v:= .iface 43 (.agg #[.string (sP1++txG p),(.iface 27 (iI 90))])) (by simp[results,Tryz.results37,go_sem,]) rfl ⟨by rw[hR.out,hc];rfl,HB3⟩
theorem gGroup(p q g h:Int)(w:World)(hp:In p)(hq:In q):CC 37 #[GX p q g h] w (grV p q):=by
 have i2:In 2:=⟨by decide,by decide⟩
 have i7:In 7:=⟨by decide,by decide⟩
 have iq:In (p/2):=by have:=hp.1;have:=hp.2;exact⟨by omega,by omega⟩
 have im:In (p%2):=Y9 i2 (by decide)
 have hC:Hid (∀u,CC 30 #[NV p,NV 7] u (iI (cmpI p 7))):=fun u=>nCompare p 7 u hp i7
 refine group_0 p q g h _ _ w hp hq i2 iq hC im ?_
 show grV p q=_
 have hc:decide (cmpI p 7<0)=decide (p<7):=by
  unfold cmpI
  by_cases h1:p<7
  ·rw[if_pos h1,decide_eq_true h1];rfl
  ·rw[if_neg h1,decide_eq_false h1];split<;>rfl
 rw[hc];simp only[grV,decide_eq_true_eq]
theorem grV_is(p q:Int):(gOk p q/\grV p q= .nilIface)\/(¬gOk p q/\EW 90 (grV p q)):=by
 unfold grV gOk
 by_cases h1:p<7
 ·rw[if_pos h1];exact .inr ⟨by omega,.wrap _ _ .leaf⟩
 ·rw[if_neg h1]
  by_cases h2:p%2=0
  ·rw[if_pos h2];exact .inr ⟨by omega,.wrap _ _ .leaf⟩
  ·rw[if_neg h2]
   by_cases h3:p/2=q
   ·rw[if_pos h3];exact .inl ⟨by omega,rfl⟩
   ·rw[if_neg h3];exact .inr ⟨by omega,.wrap _ _ .leaf⟩
end
theorem member_1(p q g h x c v:Int)(w:World)(hp:In p)(hq:In q)(hx:In x)(h0:decide (x=0)=true):CC 56 #[GX p q g h,NV x] w (.iface 43 (.agg #[.string (txG x++sX1),(.iface 27 (iI 90))])):=by
 go_enter Tryz.func56,Tryz.ntmps56
 go_upto_region 1 with fail
 obtain⟨v0,hC,HB0,K0⟩:=bx2 w (GE p q g h) 26 (LN x) 24
 rw[hC]
 clear hC
 refine Rp K0 HB0 [] [] (cG 0 7 [_,_,_,_,undef,undef,undef,undef,undef,_] []) [] [] [false] (oc (g_ld 1 uN iN)<|oc (g_bd zN)<|oc (g_bn (eql_0 _ _ hx _ h0))<|oc g_mv<|oc g_sk<|oc g_sk<|oc g_sk<|oc g_sk<|oc g_sk<|oc g_pk on) fun u1 HB1 _ K1=>?_
 simp only[sQ] at K1⊢
 go_upto_region 2 with fail
 refine Rp K1 HB1 [] [] (cG 0 17 [_,_,_,_,_,_] [(6,4,_)]) [] [] [false] (oc (g_ld 0 uN iN)<|oc (g_cl Xn (nTextG x))<|oc (g_bn (fun uZ=>T9 _ _ (txG x) sX1 uZ (by have:=tx_szG x;have:sX1.size=23:=rfl;omega)))<|oc (Vu (miEG 90))<|oc (g_bd (bdFlG (txG x++sX1) _ _))<|oc (Vu (miFG (txG x++sX1) _ _))<|oc g_as on) fun u2 HB2 _ K2=>?_
 simp only[sQ] at K2⊢
 go_wp2
 refine bodyPost_ret (v:= .iface 43 (.agg #[.string (txG x++sX1),(.iface 27 (iI 90))])) (by simp[results,Tryz.results56,go_sem,]) rfl ⟨rfl,HB2⟩
theorem member_2(p q g h x c v:Int)(w:World)(hp:In p)(hq:In q)(hx:In x)(h0:decide (x=0)=false)(hC:Hid (∀u,CC 30 #[NV x,NV p] u (iI c)))(hc:decide (0<=c)=true):CC 56 #[GX p q g h,NV x] w (.iface 43 (.agg #[.string (txG x++sX1),(.iface 27 (iI 90))])):=by
 go_enter Tryz.func56,Tryz.ntmps56
 go_upto_region 1 with fail
 obtain⟨v0,hC,HB0,K0⟩:=bx2 w (GE p q g h) 26 (LN x) 24
 rw[hC]
 clear hC
 refine Rp K0 HB0 [] [] (cG 0 7 [_,_,_,_,_,_,_,_,_,_] []) [] [] [false] (oc (g_ld 1 uN iN)<|oc (g_bd zN)<|oc (g_bn (eql_0 _ _ hx _ h0))<|oc g_mv<|oc (g_ld 1 uN iN)<|oc (g_fd (fdG0 _))<|oc (g_lo 0 0 uN iN)<|oc (g_cl Y2 hC.out)<|oc (g_bn (fun uZ=>geq_y _ _ _ _ _ uZ hc))<|oc g_pk on) fun u1 HB1 _ K1=>?_
 simp only[sQ] at K1⊢
 go_upto_region 2 with fail
 refine Rp K1 HB1 [] [] (cG 0 17 [_,_,_,_,_,_] [(6,4,_)]) [] [] [false] (oc (g_ld 0 uN iN)<|oc (g_cl Xn (nTextG x))<|oc (g_bn (fun uZ=>T9 _ _ (txG x) sX1 uZ (by have:=tx_szG x;have:sX1.size=23:=rfl;omega)))<|oc (Vu (miEG 90))<|oc (g_bd (bdFlG (txG x++sX1) _ _))<|oc (Vu (miFG (txG x++sX1) _ _))<|oc g_as on) fun u2 HB2 _ K2=>?_
 simp only[sQ] at K2⊢
 go_wp2
 refine bodyPost_ret (v:= .iface 43 (.agg #[.string (txG x++sX1),(.iface 27 (iI 90))])) (by simp[results,Tryz.results56,go_sem,]) rfl ⟨rfl,HB2⟩
theorem member_3(p q g h x c v:Int)(w:World)(hp:In p)(hq:In q)(hx:In x)(h0:decide (x=0)=false)(hC:Hid (∀u,CC 30 #[NV x,NV p] u (iI c)))(hc:decide (0<=c)=false)(hE:Hid (∀u,CC 57 #[NV x,NV q,NV p] u (.tuple #[NV v,iI 0])))(hv:In v)(i1:In 1)(h1:decide (v=1)=!true):CC 56 #[GX p q g h,NV x] w (.iface 43 (.agg #[.string (txG x++sX2),(.iface 27 (iI 90))])):=by
 go_enter Tryz.func56,Tryz.ntmps56
 go_upto_region 1 with fail
 obtain⟨v0,hC,HB0,K0⟩:=bx2 w (GE p q g h) 26 (LN x) 24
 rw[hC]
 clear hC
 refine Rn K0 HB0 (cG 0 7 [_,_,_,_,_,_,_,_,_,_] []) (oc (g_ld 1 uN iN)<|oc (g_bd zN)<|oc (g_bn (eql_0 _ _ hx _ h0))<|oc g_mv<|oc (g_ld 1 uN iN)<|oc (g_fd (fdG0 _))<|oc (g_lo 0 0 uN iN)<|oc (g_cl Y2 hC.out)<|oc (g_bn (fun uZ=>geq_y _ _ _ _ _ uZ hc))<|oc g_pk on) fun u1 HB1 _ K1=>?_
 simp only[sQ] at K1⊢
 go_upto_region 3 with fail
 refine Rp K1 HB1 [] [(9,5,L0s,some (10,LN v))] (cG 0 24 [_,_,_,_,_,_] [(6,23,_),(7,30,_),(8,31,_),(11,6,_)]) [(10,9)] [] [false] (oc (g_ld 1 uN iN)<|oc (g_fd (fdG1 _))<|oc (g_lo 0 4 uN iN)<|oc (g_fd (fdG0 _))<|oc (g_lo 0 0 uN iN)<|oc (g_cl Ub hE.out)<|oc g_mv<|oc g_ex<|oc g_ex<|oc (g_al 0 aN)<|oc (g_sn 0 iN)<|oc g_as on) fun u2 b2_9 HB2 _ K2=>?_
 simp only[sQ] at K2⊢
 go_upto_region 4 with fail
 refine Rd K2 HB2 [] [] (cG 0 32 [_,_,_] []) [] [] [true,false] (oc (g_ld 1 uN iN)<|oc (g_cl Zl (fun uZ=>nOf 1 uZ (by decide) (by decide)))<|oc (g_bn (Yy _ _ hv i1 _ h1)) on) fun u3 HB3 _ K3=>?_
 simp only[sQ] at K3⊢
 go_upto_region 5 with fail
 refine Rp K3 HB3 [] [] (cG 0 35 [_,_,_,_,_,_] [(6,4,_)]) [] [] [false] (oc (g_ld 0 uN iN)<|oc (g_cl Xn (nTextG x))<|oc (g_bn (fun uZ=>T9 _ _ (txG x) sX2 uZ (by have:=tx_szG x;have:sX2.size=18:=rfl;omega)))<|oc (Vu (miEG 90))<|oc (g_bd (bdFlG (txG x++sX2) _ _))<|oc (Vu (miFG (txG x++sX2) _ _))<|oc g_as on) fun u4 HB4 _ K4=>?_
 simp only[sQ] at K4⊢
 go_wp2
 refine bodyPost_ret (v:= .iface 43 (.agg #[.string (txG x++sX2),(.iface 27 (iI 90))])) (by simp[results,Tryz.results56,go_sem,]) rfl ⟨rfl,HB4⟩
theorem member_4(p q g h x c v:Int)(w:World)(hp:In p)(hq:In q)(hx:In x)(h0:decide (x=0)=false)(hC:Hid (∀u,CC 30 #[NV x,NV p] u (iI c)))(hc:decide (0<=c)=false)(hE:Hid (∀u,CC 57 #[NV x,NV q,NV p] u (.tuple #[NV v,iI 0])))(hv:In v)(i1:In 1)(h1:decide (v=1)=!false):CC 56 #[GX p q g h,NV x] w (.nilIface):=by
 go_enter Tryz.func56,Tryz.ntmps56
 go_upto_region 1 with fail
 obtain⟨v0,hC,HB0,K0⟩:=bx2 w (GE p q g h) 26 (LN x) 24
 rw[hC]
 clear hC
 refine Rn K0 HB0 (cG 0 7 [_,_,_,_,_,_,_,_,_,_] []) (oc (g_ld 1 uN iN)<|oc (g_bd zN)<|oc (g_bn (eql_0 _ _ hx _ h0))<|oc g_mv<|oc (g_ld 1 uN iN)<|oc (g_fd (fdG0 _))<|oc (g_lo 0 0 uN iN)<|oc (g_cl Y2 hC.out)<|oc (g_bn (fun uZ=>geq_y _ _ _ _ _ uZ hc))<|oc g_pk on) fun u1 HB1 _ K1=>?_
 simp only[sQ] at K1⊢
 go_upto_region 3 with fail
 refine Rp K1 HB1 [] [(9,5,L0s,some (10,LN v))] (cG 0 24 [_,_,_,_,_,_] [(6,23,_),(7,30,_),(8,31,_),(11,6,_)]) [(10,9)] [] [false,false] (oc (g_ld 1 uN iN)<|oc (g_fd (fdG1 _))<|oc (g_lo 0 4 uN iN)<|oc (g_fd (fdG0 _))<|oc (g_lo 0 0 uN iN)<|oc (g_cl Ub hE.out)<|oc g_mv<|oc g_ex<|oc g_ex<|oc (g_al 0 aN)<|oc (g_sn 0 iN)<|oc g_as on) fun u2 b2_9 HB2 _ K2=>?_
 simp only[sQ] at K2⊢
 go_upto_region 4 with fail
 refine Rd K2 HB2 [] [] (cG 0 32 [_,_,_] []) [] [] [false] (oc (g_ld 0 uN iN)<|oc (g_cl Zl (fun uZ=>nOf 1 uZ (by decide) (by decide)))<|oc (g_bn (Yy _ _ hv i1 _ h1)) on) fun u3 HB3 _ K3=>?_
 simp only[sQ] at K3⊢
 go_upto_region 6 with fail
 refine Rn K3 HB3 [(0,4,_)] (oc g_as on) fun u4 HB4 _ K4=>?_
 simp only[sQ] at K4⊢
 go_wp2
 refine bodyPost_ret (v:= .nilIface) (by simp[results,Tryz.results56,go_sem,]) rfl ⟨rfl,HB4⟩
theorem cMember(p q g h x:Int)(w:World)(hp:In p)(hq:In q)(hx:In x)(hp0:p≠0):CC 56 #[GX p q g h,NV x] w (mbV p q x):=by
 have hC:Hid (∀u,CC 30 #[NV x,NV p] u (iI (cmpI x p))):=fun u=>nCompare x p u hx hp
 by_cases h0:x=0
 ·rw[show mbV p q x=_ from if_pos (.inl h0)]
  exact member_1 p q g h x 0 0 w hp hq hx (decide_eq_true h0)
 ·by_cases h1:p<=x
  ·have hc:decide (0<=cmpI x p)=true:=by unfold cmpI;rw[if_neg (by omega)];split<;>rfl
   rw[show mbV p q x=_ from if_pos (.inr h1)]
   exact member_2 p q g h x _ 0 w hp hq hx (decide_eq_false h0) hC hc
  ·have hc:decide (0<=cmpI x p)=false:=by unfold cmpI;rw[if_pos (by omega)];rfl
   rw[show mbV p q x=_ from if_neg (by omega)]
   have hE:Hid (∀u,CC 57 #[NV x,NV q,NV p] u (.tuple #[NV (x^q.toNat%p),iI 0])):=fun u=>mExp x q p u hx hq hp hp0
   have i1:In 1:=⟨by decide,by decide⟩
   by_cases h2:x^q.toNat%p=1
   ·rw[if_pos h2]
    exact member_4 p q g h x _ _ w hp hq hx (decide_eq_false h0) hC hc hE (Y9 hp hp0) i1 (decide_eq_true h2)
   ·rw[if_neg h2]
    exact member_3 p q g h x _ _ w hp hq hx (decide_eq_false h0) hC hc hE (Y9 hp hp0) i1 (decide_eq_false h2)
theorem mbV_is(p q x:Int)(hx:In x):(Mb p q x/\mbV p q x= .nilIface)\/(¬Mb p q x/\EW 90 (mbV p q x)):=by
 have h0:=hx.1
 unfold mbV Mb
 by_cases h1:x=0\/p<=x
 ·rw[if_pos h1];exact .inr ⟨fun h=>by have:=h.1;have:=h.2.1;omega,.wrap _ _ .leaf⟩
 ·rw[if_neg h1]
  by_cases h2:x^q.toNat%p=1
  ·rw[if_pos h2];exact .inl ⟨⟨by omega,by omega,h2⟩,rfl⟩
  ·rw[if_neg h2];exact .inr ⟨fun h=>h2 h.2.2,.wrap _ _ .leaf⟩
theorem members_c(p q g h:Int)(T:TypeId)(x:Value)(sl:Option Addr)(n cap:Nat)(w:World)(hC:Hid (∀u,CC 37 #[GX p q g h] u (.iface T x))):
 CC 35 #[GX p q g h,.slice sl n cap] w (.iface 43 (.agg #[.string ⟨#[103,114,111,117,112]⟩,.iface T x])):=by
 go_enter Tryz.func35,Tryz.ntmps35
 go_upto_region 1 with fail
 obtain⟨v0,hC,HB0,K0⟩:=bx1 w (GE p q g h) 26
 rw[hC]
 clear hC
 refine Rp K0 HB0 [] [] [(0,9,_),(1,10,_),(2,5,_)] [] [] [false] (oc (g_ld 0 Tryz.underlying26 Z3)<|oc (g_cl V0 hC.out)<|oc g_as on) fun u1 HB1 _ K1=>?_
 simp only[sQ] at K1⊢
 go_upto_region 2 with fail
 refine Rn K1 HB1 [(0,11,_),(1,12,_)] (oc g_mv<|oc (g_bn (neq_erG _ _ _ _)) on) fun u2 HB2 _ K2=>?_
 simp only[sQ] at K2⊢
 go_upto_region 3 with fail
 refine Rn K2 HB2 (cG 0 13 [_,_,_] [(3,4,_)]) (oc g_mv<|oc (g_bd (bdFlG ⟨#[103,114,111,117,112]⟩ T x))<|oc (Vu (miFG ⟨#[103,114,111,117,112]⟩ T x))<|oc g_as on) fun u3 HB3 _ K3=>?_
 simp only[sQ] at K3⊢
 go_wp2
 refine bodyPost_ret (v:= .iface 43 (.agg #[.string ⟨#[103,114,111,117,112]⟩,.iface T x])) (by simp[results,Tryz.results35,go_sem,]) rfl ⟨rfl,HB3⟩
theorem members_k(p q g h:Int)(rv:Value)(sl:Option Addr)(gb go cap:Nat)(ns:List Int)(w:World)(hG:GT w)(hns:ns.length<=50)(hp:In p)(hq:In q)(hp0:p≠0)(hn:Hid (∀k,k<ns.length->In (ns.getD k 0)))(hix:Hid (∀j,j<ns.length-> ∀W,(Instr.indexAt 61 (.slice sl ns.length cap) (iI j)).run Tryz.prog W= .ok (.pointer (some ⟨gb,go+4*j,none⟩)) W))(hg0:ns.length=0\/gb<w.heap.size)(hS:Hid (SN w gb go ns))(hC:Hid (∀u,CC 37 #[GX p q g h] u (.nilIface)))
 (hE:Hid (∀k,k<ns.length->(∀j,j<k->Mb p q (ns.getD j 0))-> ¬Mb p q (ns.getD k 0)->rv= .iface 43 (.agg #[.string (sM2++iaG (k:Int)),mbV p q (ns.getD k 0)])))(hE2:Hid ((∀j,j<ns.length->Mb p q (ns.getD j 0))->rv= .nilIface)):
 CC 35 #[GX p q g h,.slice sl ns.length cap] w rv:=by
 go_enter Tryz.func35,Tryz.ntmps35
 go_upto_region 1 with fail
 obtain⟨v0,hC,HB0,K0⟩:=bx1 w (GE p q g h) 26
 rw[hC]
 clear hC
 refine Rn K0 HB0 [(0,9,_),(1,10,_),(2,5,_)] (oc (g_ld 0 Tryz.underlying26 Z3)<|oc (g_cl V0 hC.out)<|oc g_as on) fun u1 HB1 _ K1=>?_
 simp only[sQ] at K1⊢
 go_upto_region 2 with fail
 refine Rn K1 HB1 [(0,11,_),(1,12,_)] (oc g_mv<|oc (g_bn (neq_noG _ _)) on) fun u2 HB2 _ K2=>?_
 simp only[sQ] at K2⊢
 go_upto_region 4 with fail
 refine Rn K2 HB2 (cG 0 16 [_,_,_] []) (oc g_mv<|oc (g_ln Tryz.underlying61)<|oc g_mv on) fun u3 HB3 _ K3=>?_
 simp only[sQ] at K3⊢
 go_wp2_with fail
 go_loopw [18] (fun s18 wr=> ∃(k:Nat),k<=ns.length/\s18=iI (k:Int)/\Hid (∀j,j<k->Mb p q (ns.getD j 0))/\Bw w wr/\CV wr (w.heap.size) (GE p q g h)/\w.heap.size<wr.heap.size) (fun s18 _=>ns.length -(intOf s18).toNat)
 case atStart=>exact⟨0,by omega,rfl,fun j hj=>absurd hj (by omega),HB3,(K3.cv 0),(K3.lt 0)⟩
 case round=>
  obtain⟨k,hk,rfl,hall,HBr,Kg,lg⟩:=hrel
  by_cases hj:k<ns.length
  ·have hl:decide ((k:Int)<(ns.length:Int))=true:=by simp;omega
   have iy:=hn.out k hj
   have hX:=hix.out k hj
   have hX:Hid _:=hX
   have hR:=hS.out.at k hj
   have hR:Hid _:=hR
   have hlen:(k:Int)<1000:=by omega
   have hev:=hE.out k hj hall.out
   have hev:Hid _:=hev
   have hI:Hid (∀u,CC 56 #[GX p q g h,NV (ns.getD k 0)] u (mbV p q (ns.getD k 0))):=fun u=>cMember p q g h _ u hp hq iy hp0
   have hmb:=mbV_is p q _ iy
   have hall2:Mb p q (ns.getD k 0)->Hid (∀j,j<k+1->Mb p q (ns.getD j 0)):=fun hb j hj2=>by
    by_cases e:j=k
    ·subst e;exact hb
    ·exact hall.out j (by omega)
   rcases hmb with⟨hb,hm⟩ | ⟨hb,hm⟩
   ·have hev2:Hid _:=hall2 hb
    rw[hm] at hI
    clear hm hb hall2 hev
    obtain⟨y,ey⟩: ∃y,ns.getD k 0=y:=⟨_,rfl⟩
    rw[ey] at iy hR hI
    clear ey
    have K3_1:Bk w.heap.size wr [(false,w.heap.size,GE p q g h)]:=⟨.c lg Kg<|trivial,by simp⟩
    go_upto_region 5 with fail
    refine Rn K3_1 HBr [(0,19,_)] (oc (g_bn (fun uZ=>lss_z _ _ (k:Int) (ns.length:Int) _ uZ hl)) on) fun u4 HB4 sz4 K4=>?_
    simp only[sQ] at K4⊢
    go_upto_region 6 with fail
    refine Rp K4 HB4 [] [(3,7,L0s,some (5,LN y))] (cG 0 20 [_,_,_] [(4,6,_)]) [(5,3)] [] [] (oc g_mv<|oc (g_ix hX.out)<|oc (g_lf hR.out (hg0.resolve_left (by omega)) uN iN)<|oc (g_al 0 aN)<|oc g_as<|oc (g_sn 0 iN) on) fun u5 b5_3 HB5 sz5 K5=>?_
    simp only[sQ] at K5⊢
    go_upto_region 7 with fail
    refine Rp K5 HB5 [] [] (cG 0 23 [_,_,_] [(3,8,_)]) [] [] [true,false] (oc (g_ld 0 Tryz.underlying26 Z3)<|oc (g_ld 1 uN iN)<|oc (g_cl U3 hI.out)<|oc g_as on) fun u6 HB6 sz6 K6=>?_
    simp only[sQ] at K6⊢
    go_upto_region 8 with fail
    refine Rn K6 HB6 [(0,26,_),(1,27,_)] (oc g_mv<|oc (g_bn (neq_noG _ _)) on) fun u7 HB7 sz7 K7=>?_
    simp only[sQ] at K7⊢
    go_upto_region 10 with fail
    refine Rp K7 HB7 [] [] [(0,34,_),(1,18,_)] [(1,0)] [(1,18)] [] (oc (g_bn (fun uZ=>Zy _ _ (k:Int) 1 ((k+1:Nat):Int) uZ (by omega) (by omega) (by omega)))<|oc g_mv on) fun u8 HB8 sz8 K8=>?_
    simp only[sQ] at K8⊢
    go_wp2
    refine⟨⟨k+1,by omega,rfl,hev2,HB8,(K8.cv 0),(K8.lt 0)⟩,?_⟩
    simp[intOf]<;>omega
   ·have hev2:=hev.out hb
    obtain⟨T,x,ex⟩:=hm.some
    rw[ex] at hI hev2
    have hev2:Hid _:=hev2
    clear hm hb hall2 hev ex
    obtain⟨y,ey⟩: ∃y,ns.getD k 0=y:=⟨_,rfl⟩
    rw[ey] at iy hR hI
    clear ey
    have K3_1:Bk w.heap.size wr [(false,w.heap.size,GE p q g h)]:=⟨.c lg Kg<|trivial,by simp⟩
    go_upto_region 5 with fail
    refine Rn K3_1 HBr [(0,19,_)] (oc (g_bn (fun uZ=>lss_z _ _ (k:Int) (ns.length:Int) _ uZ hl)) on) fun u4 HB4 sz4 K4=>?_
    simp only[sQ] at K4⊢
    go_upto_region 6 with fail
    refine Rp K4 HB4 [] [(3,7,L0s,some (5,LN y))] (cG 0 20 [_,_,_] [(4,6,_)]) [(5,3)] [] [] (oc g_mv<|oc (g_ix hX.out)<|oc (g_lf hR.out (hg0.resolve_left (by omega)) uN iN)<|oc (g_al 0 aN)<|oc g_as<|oc (g_sn 0 iN) on) fun u5 b5_3 HB5 sz5 K5=>?_
    simp only[sQ] at K5⊢
    go_upto_region 7 with fail
    refine Rp K5 HB5 [] [] (cG 0 23 [_,_,_] [(3,8,_)]) [] [] [false,false] (oc (g_ld 0 Tryz.underlying26 Z3)<|oc (g_ld 1 uN iN)<|oc (g_cl U3 hI.out)<|oc g_as on) fun u6 HB6 sz6 K6=>?_
    simp only[sQ] at K6⊢
    go_upto_region 8 with fail
    refine Rn K6 HB6 [(0,26,_),(1,27,_)] (oc g_mv<|oc (g_bn (neq_erG _ _ _ _)) on) fun u7 HB7 sz7 K7=>?_
    simp only[sQ] at K7⊢
    go_upto_region 9 with fail
    refine Rn K7 HB7 (cG 0 28 [_,_,_,_,_,_] [(6,4,_)]) (oc g_mv<|oc (g_cb Wk (fun uZ bZ=>cItoaG (k:Int) uZ (by omega) (by omega) (hG.below bZ)))<|oc (g_bn (fun uZ=>T9 _ _ sM2 (iaG (k:Int)) uZ (by have:=ia_szG (k:Int) (by omega) (by omega);have:sM2.size=7:=rfl;omega)))<|oc g_mv<|oc (g_bd (bdFlG (sM2++iaG (k:Int)) T x))<|oc (Vu (miFG (sM2++iaG (k:Int)) T x))<|oc g_as on) fun u8 HB8 sz8 K8=>?_
    simp only[sQ] at K8⊢
    have hev2:=hev2.out
    subst hev2
    go_wp2
    refine bodyPost_ret (v:= .iface 43 (.agg #[.string (sM2++iaG (k:Int)),.iface T x])) (by simp[results,Tryz.results35,go_sem,]) rfl ⟨rfl,HB8⟩
  ·have hl:decide ((k:Int)<(ns.length:Int))=false:=by simp;omega
   have hkn:k=ns.length:=by omega
   have hrv:=hE2.out (by rw[<-hkn];exact hall.out)
   clear hkn
   subst hrv
   have K3_1:Bk w.heap.size wr [(false,w.heap.size,GE p q g h)]:=⟨.c lg Kg<|trivial,by simp⟩
   go_upto_region 5 with fail
   refine Rp K3_1 HBr [] [] [(0,19,_)] [] [] [false] (oc (g_bn (fun uZ=>lss_z _ _ (k:Int) (ns.length:Int) _ uZ hl)) on) fun u4 HB4 sz4 K4=>?_
   simp only[sQ] at K4⊢
   go_upto_region 11 with fail
   refine Rn K4 HB4 [(0,4,_)] (oc g_as on) fun u5 HB5 sz5 K5=>?_
   simp only[sQ] at K5⊢
   go_wp2
   refine bodyPost_ret (v:= .nilIface) (by simp[results,Tryz.results35,go_sem,]) rfl ⟨rfl,HB5⟩
theorem first_no(P:Nat->Prop): ∀n:Nat,(∀j,j<n->P j)\/ ∃k,k<n/\(∀j,j<k->P j)/\ ¬P k
 | 0=>.inl fun j hj=>absurd hj (by omega)
 | n+1=>by
  rcases first_no P n with h | ⟨k,h1,h2,h3⟩
  ·by_cases e:P n
   ·exact .inl fun j hj=>by
     by_cases ej:j=n
     ·subst ej;exact e
     ·exact h j (by omega)
   ·exact .inr ⟨n,by omega,h,e⟩
  ·exact .inr ⟨k,by omega,h2,h3⟩
theorem cMembers(p q g h:Int)(ns:List Int)(hns:ns.length<=50)(hp:In p)(hq:In q)(hn: ∀k,k<ns.length->In (ns.getD k 0)):
 ∃v,((mlB p q ns=true/\v= .nilIface)\/(mlB p q ns=false/\EW 90 v))/\ ∀(y:Value) (w:World),GT w->NL w y ns->CC 35 #[GX p q g h,y] w v:=by
 have hC:=fun u=>gGroup p q g h u hp hq
 have hgd: ∀k,k<ns.length->ns.getD k 0∈ns:=fun k hk=>by
  rw[List.getD_eq_getElem?_getD,List.getElem?_eq_getElem hk];exact List.getElem_mem hk
 rcases grV_is p q with⟨hg,he⟩ | ⟨hg,he⟩
 ·rw[he] at hC
  have h7:=hg.2
  have hix: ∀(sl:Option Addr) (gb go cap:Nat),(ns=[]\/sl=some ⟨gb,go,none⟩)->Hid (∀j,j<ns.length-> ∀W,(Instr.indexAt 61 (.slice sl ns.length cap) (iI j)).run Tryz.prog W= .ok (.pointer (some ⟨gb,go+4*j,none⟩)) W):=fun sl gb go cap hsl j hj W=>by
   have e:=hsl.resolve_left (fun e=>by subst e;simp at hj)
   subst e
   exact ixS gb go ns.length cap j hj W
  rcases first_no (fun j=>Mb p q (ns.getD j 0)) ns.length with ha | ⟨k,h1,h2,h3⟩
  ·refine⟨.nilIface,.inl ⟨?_,rfl⟩,fun y w hG hy=>?_⟩
   ·unfold mlB
    rw[Bool.and_eq_true,decide_eq_true_iff,List.all_eq_true]
    refine⟨hg,fun x hx=>?_⟩
    obtain⟨j,hj,rfl⟩:=List.mem_iff_getElem.1 hx
    have:=ha j hj
    rw[List.getD_eq_getElem?_getD,List.getElem?_eq_getElem hj] at this
    exact decide_eq_true ⟨hg,this⟩
   ·obtain⟨sl,gb,go,cap,rfl,_,_,hsl,hg0,hS⟩:=hy
    exact members_k p q g h _ sl gb go cap ns w hG hns hp hq (by omega) hn (hix sl gb go cap hsl) hg0 hS hC (fun k hk _ hb=>absurd (ha k hk) hb) (fun _=>rfl)
  ·have iy:=hn k h1
   have hb2:isB p q (ns.getD k 0)=false:=decide_eq_false fun h=>h3 h.2
   refine⟨.iface 43 (.agg #[.string (sM2++iaG (k:Int)),mbV p q (ns.getD k 0)]),.inr ⟨?_,.wrap _ _ ((mbV_is p q _ iy).resolve_left fun h=>h3 h.1).2⟩,fun y w hG hy=>?_⟩
   ·unfold mlB
    rw[Bool.and_eq_false_iff]
    refine .inr ?_
    rw[List.all_eq_false]
    exact⟨_,hgd k h1,by rw[hb2];decide⟩
   ·obtain⟨sl,gb,go,cap,rfl,_,_,hsl,hg0,hS⟩:=hy
    refine members_k p q g h _ sl gb go cap ns w hG hns hp hq (by omega) hn (hix sl gb go cap hsl) hg0 hS hC (fun k' hk' ha hb=>?_) (fun ha=>absurd (ha k h1) h3)
    have:k'=k:=by
     rcases Nat.lt_trichotomy k' k with e | e | e
     ·exact absurd (h2 k' e) hb
     ·exact e
     ·exact absurd (ha k e) h3
    subst this;rfl
 ·obtain⟨T,x,ex⟩:=he.some
  rw[ex] at hC he
  refine⟨_,.inr ⟨?_,.wrap ⟨#[103,114,111,117,112]⟩ _ he⟩,fun y w hG hy=>?_⟩
  ·unfold mlB;rw[decide_eq_false hg];rfl
  ·obtain⟨sl,gb,go,cap,rfl,_,_,hsl,hg0,hS⟩:=hy
   exact members_c p q g h T x sl _ cap w hC
theorem ent_grp_power:EnT 36:=fun _ _=>by kernel_rfl
theorem cPower(p q g h x e:Int)(w:World)(hp:In p)(hq:In q)(hx:In x)(he:In e)(hp0:p≠0)(hq0:q≠0):
 CC 36 #[GX p q g h,NV x,NV e] w (NV (x^(e%q).toNat%p)):=by
 go_enter Tryz.func36,Tryz.ntmps36
 go_upto_region 1 with fail
 obtain⟨v0,hC,HB0,K0⟩:=bx4 w (GE p q g h) 26 (LN x) 24 (LN e) 24 L0s 24
 rw[hC]
 clear hC
 refine Rd K0 HB0 [.no,.no,.all 8 (LN (e%q))] [] (cG 0 10 [_,_,_,_,_] [(5,9,_),(6,15,_),(7,16,_)]) [(8,0)] [] [] (oc (g_ld 2 uN iN)<|oc (g_cl Zo (fun uZ=>V5 e uZ he))<|oc (g_fd (fdG1 _))<|oc (g_lo 0 4 uN iN)<|oc (g_cl Zt (fun uZ=>Xz e q uZ he.wide hq hq0))<|oc g_mv<|oc g_ex<|oc g_ex<|oc (g_st 2 iN) on) fun u1 HB1 _ K1=>?_
 simp only[sQ] at K1⊢
 go_upto_region 2 with fail
 refine Rp K1 HB1 [] [(8,7,L0s,some (9,LN (x^(e%q).toNat%p)))] (cG 0 18 [_,_,_,_,_] [(5,17,_),(6,23,_),(7,24,_),(10,8,_)]) [(9,8)] [] [false,false,false] (oc (g_ld 1 uN iN)<|oc (g_ld 2 uN iN)<|oc (g_fd (fdG0 _))<|oc (g_lo 0 0 uN iN)<|oc (g_cl Ub (fun uZ=>mExp x (e%q) p uZ hx (Y9 hq hq0) hp hp0))<|oc g_mv<|oc g_ex<|oc g_ex<|oc (g_al 0 aN)<|oc (g_sn 0 iN)<|oc g_as on) fun u2 b2_8 HB2 _ K2=>?_
 simp only[sQ] at K2⊢
 go_upto_region 3 with fail
 refine Rp K2 HB2 [.all 1 (LN (x^(e%q).toNat%p))] [] [(0,25,_)] [] [] [true,false] (oc (g_ld 1 uN iN)<|oc (g_st 0 iN) on) fun u3 HB3 _ K3=>?_
 simp only[sQ] at K3⊢
 have c6:=(K3.cv 0).n4
 go_wp2
 refine bodyPost_ret (v:=NV (x^(e%q).toNat%p)) (by simp[results,Tryz.results36,go_sem,c6]) rfl ⟨rfl,HB3⟩
theorem check_core(p q g h r:Int)(V:Value)(w:World)(hG:Hid (∀u,Bw w u->CC 37 #[GX p q g h] u V))(hT:Hid (∀u,Bw w u->CC 10 #[V] u (iI r))):
 CC 19 #[GX p q g h] w (iI r):=by
 go_enter Tryz.func19,Tryz.ntmps19
 go_upto_region 1 with fail
 obtain⟨v0,hC,HB0,K0⟩:=bx1 w (GE p q g h) 26
 rw[hC]
 clear hC
 refine Rp K0 HB0 [] [] (cG 0 3 [_,V,_] [(3,2,_)]) [] [] [false] (oc (g_ld 0 Tryz.underlying26 Z3)<|oc (g_cb V0 hG.out)<|oc (g_cb W9 hT.out)<|oc g_as on) fun u1 HB1 _ K1=>?_
 simp only[sQ] at K1⊢
 go_wp2
 refine bodyPost_ret (v:=iI r) (by simp[results,Tryz.results19,go_sem,]) rfl ⟨rfl,HB1⟩
theorem cCheckG(p q g h:Int)(w:World)(hp:In p)(hq:In q):CC 19 #[GX p q g h] w (iI (chE p q)):=by
 refine check_core p q g h _ (grV p q) w (fun u _=>gGroup p q g h u hp hq) (fun u _=>?_)
 rcases grV_is p q with⟨h1,h2⟩ | ⟨h1,h2⟩
 ·rw[h2,show chE p q=0 from if_pos h1];exact gToldN u
 ·rw[show chE p q=90 from if_neg h1];exact gTold9 _ u h2
theorem is_core(p q g h x r:Int)(b:Bool)(V:Value)(w:World)(hM:Hid (∀u y,Bw w u->N1x x u y->CC 35 #[GX p q g h,y] u V))(hT:Hid (∀u,Bw w u->CC 10 #[V] u (iI r)))(hb:(r==0)=b):
 CC 18 #[GX p q g h,NV x] w (.bool b):=by
 go_enter Tryz.func18,Tryz.ntmps18
 go_upto_region 1 with fail
 obtain⟨v0,hC,HB0,K0⟩:=bx2 w (GE p q g h) 26 (LN x) 24
 rw[hC]
 clear hC
 refine Rf K0 HB0 [] [] [(0,5,_),(1,6,_),(3,8,V),(4,9,_),(5,10,_),(6,4,_)] [] [] [⟨2,7,some 3,N1x x⟩] [false,false] (oc (g_ld 0 Tryz.underlying26 Z3)<|oc (g_ld 1 uN iN)<|oc (g_bR 0 (N1x x) [0] [NV x] (flN [x]) (bsNx1 x) (fun u hu=>inNx1 x u))<|oc (g_c2 0 (N1x x) W1 (fun uZ yZ bZ hZ=>hM.out uZ yZ bZ hZ))<|oc (g_cb W9 hT.out)<|oc (g_bn (fun uZ=>Vb _ _ _ r 0 _ uZ hb))<|oc g_as on) fun u1 v1_2 hv1_2 HB1 _ K1=>?_
 simp only[sQ] at K1⊢
 go_wp2
 refine bodyPost_ret (v:= .bool b) (by simp[results,Tryz.results18,go_sem,]) rfl ⟨rfl,HB1⟩
theorem exp_n(p q g h x e:Int)(T:TypeId)(xv:Value)(w:World)(hM:Hid (∀u y,Bw w u->N1x x u y->CC 35 #[GX p q g h,y] u (.iface T xv)))(hT:Hid (∀u,Bw w u->CC 10 #[.iface T xv] u (iI 90))):
 CC 16 #[GX p q g h,NV x,NV e] w (.tuple #[A4 0 0 0 0,iI 90]):=by
 go_enter Tryz.func16,Tryz.ntmps16
 go_upto_region 1 with fail
 obtain⟨v0,hC,HB0,K0⟩:=bx4 w (GE p q g h) 26 (LN x) 24 (LN e) 24 L0s 24
 rw[hC]
 clear hC
 refine Rf K0 HB0 [] [] [(0,9,_),(1,10,_),(3,12,_),(4,8,_)] [] [] [⟨2,11,some 3,N1x x⟩] [false,false,false] (oc (g_ld 0 Tryz.underlying26 Z3)<|oc (g_ld 1 uN iN)<|oc (g_bR 0 (N1x x) [0] [NV x] (flN [x]) (bsNx1 x) (fun u hu=>inNx1 x u))<|oc (g_c2 0 (N1x x) W1 (fun uZ yZ bZ hZ=>hM.out uZ yZ bZ hZ))<|oc g_as on) fun u1 v1_2 hv1_2 HB1 _ K1=>?_
 simp only[sQ] at K1⊢
 go_upto_region 2 with fail
 refine Rn K1 HB1 [(0,13,_),(1,14,_)] (oc g_mv<|oc (g_bn (neq_erG _ _ _ _)) on) fun u2 HB2 _ K2=>?_
 simp only[sQ] at K2⊢
 go_upto_region 3 with fail
 refine Rp K2 HB2 [.all 3 ([iU (0),iU (0),iU (0),iU (0)])] [] (cG 0 15 [_,_,_] [(4,7,_)]) [] [] [] (oc (g_bd zN)<|oc g_mv<|oc (g_cb W9 hT.out)<|oc (g_st 0 iN)<|oc g_as on) fun u3 HB3 _ K3=>?_
 simp only[sQ] at K3⊢
 have c6:=(K3.cv 0).n4
 go_wp2
 refine bodyPost_ret (v:= .tuple #[A4 0 0 0 0,iI 90]) (by simp[results,Tryz.results16,go_sem,c6]) rfl ⟨rfl,HB3⟩
theorem exp_k(p q g h x e r:Int)(w:World)(hM:Hid (∀u y,Bw w u->N1x x u y->CC 35 #[GX p q g h,y] u (.nilIface)))(hP:Hid (∀u,Bw w u->CC 36 #[GX p q g h,NV x,NV e] u (NV r))):
 CC 16 #[GX p q g h,NV x,NV e] w (.tuple #[NV r,iI 0]):=by
 go_enter Tryz.func16,Tryz.ntmps16
 go_upto_region 1 with fail
 obtain⟨v0,hC,HB0,K0⟩:=bx4 w (GE p q g h) 26 (LN x) 24 (LN e) 24 L0s 24
 rw[hC]
 clear hC
 refine Rf K0 HB0 [] [] [(0,9,_),(1,10,_),(3,12,_),(4,8,_)] [] [] [⟨2,11,some 3,N1x x⟩] [] (oc (g_ld 0 Tryz.underlying26 Z3)<|oc (g_ld 1 uN iN)<|oc (g_bR 0 (N1x x) [0] [NV x] (flN [x]) (bsNx1 x) (fun u hu=>inNx1 x u))<|oc (g_c2 0 (N1x x) W1 (fun uZ yZ bZ hZ=>hM.out uZ yZ bZ hZ))<|oc g_as on) fun u1 v1_2 hv1_2 HB1 _ K1=>?_
 simp only[sQ] at K1⊢
 go_upto_region 2 with fail
 refine Rn K1 HB1 [(0,13,_),(1,14,_)] (oc g_mv<|oc (g_bn (neq_noG _ _)) on) fun u2 HB2 _ K2=>?_
 simp only[sQ] at K2⊢
 go_upto_region 4 with fail
 refine Rp K2 HB2 [.no,.no,.no,.all 4 (LN r)] [] (cG 0 18 [_,_,_,_] [(5,7,_)]) [] [] [false,false,false] (oc (g_ld 0 Tryz.underlying26 Z3)<|oc (g_ld 1 uN iN)<|oc (g_ld 2 uN iN)<|oc (g_cb ent_grp_power hP.out)<|oc (g_st 3 iN)<|oc g_as on) fun u3 HB3 _ K3=>?_
 simp only[sQ] at K3⊢
 have c6:=(K3.cv 0).n4
 go_wp2
 refine bodyPost_ret (v:= .tuple #[NV r,iI 0]) (by simp[results,Tryz.results16,go_sem,c6]) rfl ⟨rfl,HB3⟩
theorem ml_1(p q x:Int):mlB p q [x]=isB p q x:=by
 unfold mlB isB
 rw[Bool.eq_iff_iff]
 simp[isB]
theorem In_1s{x:Int}(hx:In x): ∀k,k<[x].length->In ([x].getD k 0):=fun k hk=>by
 simp at hk;subst hk;exact hx
theorem cIsG(p q g h x:Int)(w:World)(hG:GT w)(hp:In p)(hq:In q)(hx:In x):CC 18 #[GX p q g h,NV x] w (.bool (isB p q x)):=by
 obtain⟨v,hv,hM⟩:=cMembers p q g h [x] (by simp) hp hq (In_1s hx)
 rw[ml_1] at hv
 rcases hv with⟨h1,rfl⟩ | ⟨h1,h2⟩
 ·rw[h1];exact is_core p q g h x 0 _ _ w (fun u y hB hy=>hM y u (hG.below hB) hy) (fun u _=>gToldN u) rfl
 ·rw[h1];exact is_core p q g h x 90 _ _ w (fun u y hB hy=>hM y u (hG.below hB) hy) (fun u _=>gTold9 _ u h2) rfl
theorem cExpG(p q g h x e:Int)(w:World)(hG:GT w)(hp:In p)(hq:In q)(hx:In x)(he:In e):CC 16 #[GX p q g h,NV x,NV e] w (.tuple #[NV (exPX p q x e),iI (exPE p q x)]):=by
 obtain⟨v,hv,hM⟩:=cMembers p q g h [x] (by simp) hp hq (In_1s hx)
 rw[ml_1] at hv
 unfold exPX exPE
 rcases hv with⟨h1,rfl⟩ | ⟨h1,h2⟩
 ·have h3:=(isB_t h1).1.q3
  have h7:=(isB_t h1).1.2
  rw[h1,if_pos rfl,if_pos rfl];exact exp_k p q g h x e _ w (fun u y hB hy=>hM y u (hG.below hB) hy) (fun u _=>cPower p q g h x e u hp hq hx he (by omega) (by omega))
 ·obtain⟨T,xv,rfl⟩:=h2.some
  rw[h1,if_neg (by decide),if_neg (by decide),NV_0];exact exp_n p q g h x e T xv w (fun u y hB hy=>hM y u (hG.below hB) hy) (fun u _=>gTold9 _ u h2)
def PD(da db:List Nat)(u:World)(v:Value):Prop:= ∃g o c,v= .slice (some ⟨g,o,none⟩) 64 c/\64<=c/\g<u.heap.size/\SB u g o da/\SB u g (o+32) db
def PDT(da db:List Nat)(u:World)(v:Value):Prop:= ∃y,v= .tuple #[y,iI 0]/\PD da db u y
theorem PD.stab{da db:List Nat}{u u2:World}{x:Value}(hB:Bw u u2)(h:PD da db u x):PD da db u2 x:=by
 obtain⟨g,o,c,e,h1,h2,h3,h4⟩:=h
 exact⟨g,o,c,e,h1,Nat.lt_of_lt_of_le h2 hB.size,h3.below hB h2,h4.below hB h2⟩
theorem PDT.stab{da db:List Nat}{u u2:World}{x:Value}(hB:Bw u u2)(h:PDT da db u x):PDT da db u2 x:=by
 obtain⟨y,e,h1⟩:=h
 exact⟨y,e,h1.stab hB⟩
theorem slH32(g o c:Nat)(h:64<=c)(w:World):(Instr.sliceAt 46 (.slice (some ⟨g,o,none⟩) 64 c) none (some (iI 32)) none).run Tryz.prog w= .ok (.slice (some ⟨g,o,none⟩) 32 c) w:=by
 have h3:(32:Int)<=c:=by omega
 have h5:32<=c:=by omega
 have e:c≠0:=by omega
 simp[Instr.sliceAt,Instr.slice,go_sem,Tryz.underlying46,h3,h5,h,e]
theorem slL32(g o c:Nat)(h:64<=c)(w:World):(Instr.sliceAt 46 (.slice (some ⟨g,o,none⟩) 64 c) (some (iI 32)) none none).run Tryz.prog w= .ok (.slice (some ⟨g,o+32,none⟩) 32 (c -32)) w:=by
 have h3:(64:Int)<=c:=by omega
 have h5:32<=c:=by omega
 have e:c≠32:=by omega
 simp[Instr.sliceAt,Instr.slice,go_sem,Tryz.underlying46,h3,h5,h,e]
theorem slW4(b:Nat)(w:World):(Instr.sliceAt 85 (.pointer (some ⟨b,0,none⟩)) (some (iI 4)) none none).run Tryz.prog w= .ok (.slice (some ⟨b,4,none⟩) 4 4) w:=by
 simp[Instr.sliceAt,Instr.slice,go_sem,Tryz.underlying85]
theorem slN4(b:Nat)(w:World):(Instr.sliceAt 24 (.pointer (some ⟨b,0,none⟩)) none none none).run Tryz.prog w= .ok (.slice (some ⟨b,0,none⟩) 4 4) w:=by
 simp[Instr.sliceAt,Instr.slice,go_sem,Tryz.underlying24]
theorem info_u64s:(Tryz.prog.info? 22).map (·.size)=some 1:=by kernel_rfl
theorem one_U(l:List Int): ∀v∈(l.map fun x=>Value.int .u64 x),v.oneCell'=true:=fun v hv=>by
 obtain⟨x,_,rfl⟩:=List.mem_map.1 hv
 rfl
theorem ent_mac_Derive:EnT 45:=fun _ _=>by kernel_rfl
theorem Ul:EnT 46:=fun _ _=>by kernel_rfl
theorem U4:EnT 27:=fun _ _=>by kernel_rfl
theorem Vk:EnT 28:=fun _ _=>by kernel_rfl
theorem Tq:EnT 13:=fun _ _=>by kernel_rfl
theorem digest_core(vb:Value)(s:ByteArray)(da db:List Nat)(m r hi lo:Int)(w:World)
 (hD:Hid (∀u,Bw w u->Calls Tryz.prog 45 #[vb,.slice none 0 0,.string s,iI 64] u fun e u'=> ∃v,e= .returned v/\PDT da db u' v/\Bw u u'))
 (hRa:Hid (∀u g o c,g<u.heap.size->SB u g o da->CC 46 #[.slice (some ⟨g,o,none⟩) 32 c] u (.tuple #[NV hi,iI 0])))
 (hRb:Hid (∀u g o c,g<u.heap.size->SB u g o db->CC 46 #[.slice (some ⟨g,o,none⟩) 32 c] u (.tuple #[NV lo,iI 0])))
 (hR:Hid (∀u,CC 48 #[A8 (D0 lo) (D1 lo) (D2 lo) (D3 lo) (D0 hi) (D1 hi) (D2 hi) (D3 hi),NV m] u (.tuple #[NV r,iI 0]))):
 CC 27 #[.string s,vb,NV m] w (NV r):=by
 go_enter Tryz.func27,Tryz.ntmps27
 go_upto_region 1 with fail
 obtain⟨v0,hC,HB0,K0⟩:=bx2 w (LN m) 24 L0s 24
 rw[hC]
 clear hC
 refine Rf K0 HB0 [] [] [(0,17,_),(1,18,_),(5,21,_),(7,8,_)] [] [] [⟨2,19,none,PDT da db⟩,⟨3,16,none,PDT da db⟩,⟨4,20,some 6,PD da db⟩,⟨6,7,none,PD da db⟩] [] (oc g_mv<|oc g_mv<|oc (g_cE 0 (PDT da db) ent_mac_Derive (fun u hB hs=>hD.out u hB))<|oc (g_mE 0 1 (PDT da db))<|oc (g_xE 1 2 (PDT da db) (PD da db) (fun u v ⟨y,e,h⟩=>⟨_,y,e,rfl,h⟩))<|oc (g_xV 1 (PDT da db) (fun u v ⟨y,e,h⟩=>⟨_,e,rfl⟩))<|oc (g_sE 2 3 (PD da db))<|oc g_as on) fun u1 v1_2 hv1_2 v1_3 hv1_3 v1_4 hv1_4 v1_6 hv1_6 HB1 _ K1=>?_
 simp only[sQ] at K1⊢
 obtain⟨gd,od,cd,rfl,hcd,hgd,hSa,hSb⟩:=hv1_6 rfl
 have hR1:Hid (∀u,Bw u1 u->CC 46 #[.slice (some ⟨gd,od,none⟩) 32 cd] u (.tuple #[NV hi,iI 0])):=fun u hB=>hRa.out u gd od cd (Nat.lt_of_lt_of_le hgd hB.size) (hSa.below hB hgd)
 have hR2:Hid (∀u,Bw u1 u->CC 46 #[.slice (some ⟨gd,od+32,none⟩) 32 (cd -32)] u (.tuple #[NV lo,iI 0])):=fun u hB=>hRb.out u gd (od+32) (cd -32) (Nat.lt_of_lt_of_le hgd hB.size) (hSb.below hB hgd)
 clear hSa hSb
 have HBz:Bw u1 u1:=Below.refl _ _
 have hw1:=(K1.lt 0)
 have hw2:=(K1.lt 1)
 have hnK:=K1.n
 simp at hnK
 have K1_1:Bk u1.heap.size u1 [(false,w.heap.size,LN m),(false,w.heap.size+1,L0s)]:=⟨.c (K1.lt 0) (K1.cv 0)<| .c (K1.lt 1) (K1.cv 1)<|trivial,by simp<;>omega⟩
 go_upto_region 2 with fail
 refine Rp K1_1 HBz [] [(6,9,L0s,some (7,LN hi))] (cG 0 23 [_,_,_] [(3,22,_),(4,26,_),(5,27,_),(8,10,_)]) [(7,6)] [] [] (oc g_mv<|oc (g_sl (slH32 gd od cd hcd))<|oc (g_cb Ul hR1.out)<|oc g_mv<|oc g_ex<|oc g_ex<|oc (g_al 0 aN)<|oc (g_sn 0 iN)<|oc g_as on) fun u2 b2_6 HB2 _ K2=>?_
 simp only[sQ] at K2⊢
 go_upto_region 3 with fail
 refine Rp K2 HB2 [] [(6,11,L0s,some (7,LN lo))] (cG 0 29 [_,_,_] [(3,28,_),(4,32,_),(5,33,_),(8,12,_)]) [(7,6)] [] [] (oc g_mv<|oc (g_sl (slL32 gd od cd hcd))<|oc (g_cb Ul hR2.out)<|oc g_mv<|oc g_ex<|oc g_ex<|oc (g_al 0 aN)<|oc (g_sn 0 iN)<|oc g_as on) fun u3 b3_6 HB3 _ K3=>?_
 simp only[sQ] at K3⊢
 go_upto_region 4 with fail
 refine Rp K3 HB3 [] [(2,13,L0w,some (3,[iU (D0 lo),iU (D1 lo),iU (D2 lo),iU (D3 lo),iU (0),iU (0),iU (0),iU (0)]))] [(0,34,_),(1,35,_)] [(3,2)] [] [] (oc (g_ld 3 uN iN)<|oc (g_cl Zo (Widen_any _ _ _ _))<|oc (g_al 0 aW)<|oc (g_sn 0 iW) on) fun u4 b4_2 HB4 _ K4=>?_
 simp only[sQ] at K4⊢
 go_upto_region 5 with fail
 refine Rd K4 HB4 [.no,.no,.no,.no,.all 2 ([iU (D0 lo),iU (D1 lo),iU (D2 lo),iU (D3 lo),iU (D0 hi),iU (D1 hi),iU (D2 hi),iU (D3 hi)])] [] (cG 0 36 [_,_,_] []) [] [] [] (oc (g_sl (slW4 b4_2))<|oc (g_sl (slN4 b2_6))<|oc (g_cp 4 (sl:=4) (dl:=4) [iU (D0 lo),iU (D1 lo),iU (D2 lo),iU (D3 lo)] [iU 0,iU 0,iU 0,iU 0] [] (LN hi) Tryz.underlying87 info_u64s rfl (fun f u kZ bZ j v hj=>by rw[Addr.add0];exact((KC.cv kZ 2) j v hj).1) (one_U [D0 hi,D1 hi,D2 hi,D3 hi]) rfl rfl) on) fun u5 HB5 _ K5=>?_
 simp only[sQ] at K5⊢
 go_upto_region 6 with fail
 refine Rp K5 HB5 [] [(6,14,L0s,some (7,LN r))] (cG 0 40 [_,_,_] [(3,39,_),(4,43,_),(5,44,_),(8,15,_)]) [(7,6)] [] [] (oc (g_ld 4 uW iW)<|oc (g_ld 0 uN iN)<|oc (g_cl Zt hR.out)<|oc g_mv<|oc g_ex<|oc g_ex<|oc (g_al 0 aN)<|oc (g_sn 0 iN)<|oc g_as on) fun u6 b6_6 HB6 _ K6=>?_
 simp only[sQ] at K6⊢
 have hkr:=(K6.cv 5)
 have hk6:=(K6.cv 1)
 obtain⟨a0,-⟩:=hkr 0 _ rfl
 obtain⟨k0,f0⟩:=hk6 0 _ rfl
 obtain⟨a1,-⟩:=hkr 1 _ rfl
 obtain⟨k1,f1⟩:=hk6 1 _ rfl
 obtain⟨a2,-⟩:=hkr 2 _ rfl
 obtain⟨k2,f2⟩:=hk6 2 _ rfl
 obtain⟨a3,-⟩:=hkr 3 _ rfl
 obtain⟨k3,f3⟩:=hk6 3 _ rfl
 replace hkr:Hid _:=hkr
 replace hk6:Hid _:=hk6
 have hBf:Bw w u6:=Yl HB1 HB6
 go_wp2
 exact bodyPost_ret (v:=NV r) (by simp[results,Tryz.results27,go_sem,k0,k1,k2,k3]) rfl ⟨rfl,((((hBf).setCell (p:=⟨w.heap.size+1,0,none⟩) (Nat.le_succ _) _).setCell (p:=⟨w.heap.size+1,1,none⟩) (Nat.le_succ _) _).setCell (p:=⟨w.heap.size+1,2,none⟩) (Nat.le_succ _) _).setCell (p:=⟨w.heap.size+1,3,none⟩) (Nat.le_succ _) _⟩
theorem cDigest(bs:List Nat)(v:Value)(s:ByteArray)(m:Int)(w:World)(hV:GV w)(hm:In m)(hm0:m≠0)(hin:IN w w.heap.size v bs)(hb: ∀x∈bs,x<256)(hl:bs.length<=1000)(hs:s.size<=1000):
 CC 27 #[.string s,v,NV m] w (NV (dgN bs s m)):=by
 obtain⟨d,ed⟩: ∃d,exY (mac [] bs) (txt s) 64=d:=⟨_,rfl⟩
 have hdl:d.length=64:=by rw[<-ed];exact exY64 _ _
 have hdb: ∀x∈d,x<256:=by rw[<-ed];exact exY_m _ _ _
 have hta:(d.take 32).length=32:=by rw[List.length_take];omega
 have htb:(d.drop 32).length=32:=by rw[List.length_drop];omega
 have hba: ∀x∈d.take 32,x<256:=fun x hx=>hdb x (List.mem_of_mem_take hx)
 have hbb: ∀x∈d.drop 32,x<256:=fun x hx=>hdb x (List.mem_of_mem_drop hx)
 have ih:=num_lt _ hta hba
 have il:=num_lt _ htb hbb
 have e1:dgN bs s m=(((num8 (d.drop 32):Nat):Int)+((num8 (d.take 32):Nat):Int)*0x10000000000000000000000000000000000000000000000000000000000000000)%m:=by
  unfold dgN
  rw[ed]
  have h:=nu_app (d.take 32) (d.drop 32)
  rw[List.take_append_drop,htb] at h
  have e2:(256^32:Nat)=0x10000000000000000000000000000000000000000000000000000000000000000:=by decide+kernel
  rw[e2] at h
  generalize num8 d=x at h
  generalize num8 (d.take 32)=y at h
  generalize num8 (d.drop 32)=z at h
  rw[show (x:Int)=(z:Int)+(y:Int)*0x10000000000000000000000000000000000000000000000000000000000000000 by omega]
 rw[e1]
 refine digest_core v s (d.take 32) (d.drop 32) m _ _ _ w (fun u hB=>?_) (fun u g o c hg hS=>cReadN _ g o c u hta hba hg hS) (fun u g o c hg hS=>cReadN _ g o c u htb hbb hg hS) (fun u=>?_)
 ·have hw:0<u.heap.size:=by have:=hV.sz;have:=hB.size;omega
  refine(cDerive bs [] v (.slice none 0 0) s 64 u (hV.below hB hV.sz) ((IN.below hin hB).mono hB.size) (IN_nil u hw) (fun n c e=>by cases e;rfl) hb (by simp) hl (by simp) hs).mono ?_
  rintro e u2 ⟨y,rfl,⟨z,rfl,hz⟩,hB2⟩
  rw[ed] at hz
  obtain⟨sl,cap,gb,go,rfl,h1,h2,h3,h4⟩:=hz
  obtain rfl:=h2.resolve_left (by omega)
  rw[hdl] at h1⊢
  refine⟨_,rfl,⟨_,rfl,gb,go,cap,rfl,h1,h3,fun j hj=>?_,fun j hj=>?_⟩,hB2⟩
  ·rw[hta] at hj
   rw[h4 j (by omega)]
   simp[List.getD_eq_getElem?_getD,List.getElem?_take,hj]
  ·rw[htb] at hj
   have:=h4 (32+j) (by omega)
   rw[Nat.add_assoc,this]
   simp[List.getD_eq_getElem?_getD,List.getElem?_drop]
 ·have:=Xz (n:=((num8 (d.drop 32):Nat):Int)+((num8 (d.take 32):Nat):Int)*0x10000000000000000000000000000000000000000000000000000000000000000) m u ⟨by have:=ih.1;have:=il.1;omega,by have:=ih.2;have:=il.2;omega⟩ hm hm0
  rw[WV_cat _ _ il ih] at this
  exact this
section
abbrev Z4:List Value:=[iU 0,iU 0,iU 0,iU 0]
def PIn(ys:List Nat)(u:World)(v:Value):Prop:=IN u u.heap.size v ys
theorem PIn.stab{ys:List Nat}{u u2:World}{x:Value}(hB:Bw u u2)(h:PIn ys u x):PIn ys u2 x:=(IN.below h hB).mono hB.size
def P8(lo:Nat)(xs:List Nat)(u:World)(v:Value):Prop:= ∃b,v= .slice (some ⟨b,0,none⟩) 8 8/\lo<=b/\b<u.heap.size/\CV u b (U8 xs)
theorem P8.stab{lo:Nat}{xs:List Nat}{u u2:World}{x:Value}(hB:Bw u u2)(h:P8 lo xs u x):P8 lo xs u2 x:=by
 obtain⟨b,e,h1,h2,h3⟩:=h
 exact⟨b,e,h1,Nat.lt_of_lt_of_le h2 hB.size,h3.below hB h2⟩
theorem bs8c(i:Nat)(w:World):(Instr.buildSlice 46 8 ([0,1,2,3,4,5,6,7].zip [.int .u8 0,.int .u8 0,.int .u8 0,.int .u8 0,.int .u8 0,.int .u8 0,.int .u8 0,.int .u8 (i:Int)]).toArray).run Tryz.prog w= .ok (.slice (some ⟨w.heap.size,0,none⟩) 8 8) (w.alloc (.cells (U8 [0,0,0,0,0,0,0,i]).toArray 5)):=by kernel_rfl
theorem app_P8{lo:Nat}{xs ys:List Nat}{b:Nat}{y:Value}{ty:TypeId}{u:World}(hlo:lo<=b)(hlu:lo<=u.heap.size)(hb:b<u.heap.size)(hxl:xs.length=8)(hl:ys.length<=100000)(hy:IN u u.heap.size y ys)(h:CV u b (U8 xs)):
 ∃v u',(Builtin.append_ #[46,46] ty #[.slice (some ⟨b,0,none⟩) 8 8,y]).run Tryz.prog u= .ok v u'/\Bw u u'/\IN u' u'.heap.size v (xs++ys):=by
 obtain⟨ti,hti,htm⟩:=Option.map_eq_some_iff.1 infoB
 simp only[Prod.mk.injEq] at htm
 obtain⟨hzv,hsz,hby⟩:=htm
 obtain⟨v',u',hr,hB,hg⟩:=run_appF (P:=Tryz.prog) u (ty:=ty) Tryz.underlying46 hti hzv (by rw[hsz];rfl) (n:=8) (m:=ys.length) (xs:=U8 xs) (news:=U8 ys) h hlo hlu hb (by rw[hsz,Z2,hxl]) (IN_NW hy) (by rw[hsz,Z2];omega) (by rw[hby];omega) (by omega)
 rw[hsz,<-Wb] at hg
 exact⟨v',u',hr,hB,PG_in (by rw[List.length_append,hxl];exact hg)⟩
theorem lss_k(p q:Operand)(x y:Int)(b:Bool)(w:World)(h:decide (x<y)=b):(do eqGuard .lss 3 p q (iI x) (iI y);binOp .lss 3 (iI x) (iI y):Sem Value).run Tryz.prog w= .ok (.bool b) w:=by
 subst h;go_simp
theorem gtr_k(p q:Operand)(x y:Int)(b:Bool)(w:World)(h:decide (y<x)=b):(do eqGuard .gtr 3 p q (iI x) (iI y);binOp .gtr 3 (iI x) (iI y):Sem Value).run Tryz.prog w= .ok (.bool b) w:=by
 subst h;go_simp
theorem bd1m(w:World):(Instr.build 24 [(0,iU 1)].toArray).run Tryz.prog w= .ok (NV 1) w:=by kernel_rfl
theorem cvi8k{o:Oper}{ev:Operand->Value}{x:Operand}{n:Nat}(u:World)(h1:n<256)(ho:o.op= .convert 3 5 x)(hx:ev x=iI (n:Int)):(execOp ev o).run Tryz.prog u= .ok (.value (.int .u8 (n:Int))) u:=by
 have e1:IntKind.u8.wrap (n:Int)=(n:Int):=wraps_u8 _ (by omega) (by omega)
 unfold execOp;rw[ho];simp only[hx];go_simp
section
variable {R:Rg} {P:Program} {ops:Array Oper} {Q:Exit->Act->World->Prop} {f:Nat->Bool} {t:Nat->Value} {u:World} {a:Act} {i:Nat} {o:Oper}
theorem g_aK(n:Nat)(p:World->Value->Prop){T:TypeId}{x y:Operand}{vx vy:Value}(h: ∀f u,KC f u R.lo R.base R.es->R.base<=u.heap.size->Below R.lo R.w u-> ∃v u',(Builtin.append_ #[T,T] o.type #[vx,vy]).run P u= .ok v u'/\Bw u u'/\p u' v)(hop:o.op= .call {callee:= .builtin .append,args:=[x,y].toArray,argTypes:=[T,T].toArray}:=by rfl)(hx:evR R i o x=some vx:=by rfl)(hy:evR R i o y=some vy:=by rfl)(hn:(R.E[n]?).map (·.p)=some p:=by rfl)(hc:R.chkE ops n i o=true:=by rfl):OG R P ops Q i o:=fun f t u a X=>by
 obtain⟨d,q,hd,hq,_,_,_,_,_,_,_,_,hw⟩:=Zq hc
 obtain⟨v,u',hr,hB,hp⟩:=h f u X.I.2.1 X.I.1.sz X.I.1.bel
 exact X.go hw fun K hK=>Tb hop (X.ev hx) (X.ev hy) hr (hK _ _ (X.putE hc (fun q hq=>by rw[hq] at hn;cases hn;exact hp) hB))
theorem g_cWg(m:Nat)(p:World->Value->Prop){N:FuncId}{j d:Nat}{args:List Operand}{tys:Array TypeId}{v:Value}(vs:Value->List Value)(hr: ∀(vs:Array Value) (w:World),(callFunc N vs).run P w= .ok (.enter N vs) w)
 (hcall: ∀(u:World) (y:Value),Below R.lo R.w u->p u y->Calls P N (vs y).toArray u fun e u'=>e= .returned v/\Bw u u')(hop:o.op= .call {callee:= .value (.func N),args:=args.toArray,argTypes:=tys}:=by rfl)(hm:R.E[m]?=some ⟨j,d,some i,p⟩:=by rfl)(hx: ∀y,args.mapM (ev1 R i o d y)=some (vs y):=by intro y;rfl)(hd:(Yb o j&&R.S.contains d)=true:=by rfl)(hv:some v=Y4 i R.G:=by rfl)(hc:R.chk ops i o=true:=by rfl):OG R P ops Q i o:=fun f t u a X=>by
 rw[Bool.and_eq_true,List.contains_iff_mem] at hd
 obtain⟨h2,h4⟩:=hd
 have hy:p u (t d):=X.val hm h2 rfl
 exact X.go (X7 hc).choose_spec.2.2.2.2.2.2.2 fun K hK=>Ws hop (evs1 X h4 (hx (t d))) hr (hcall u (t d) X.I.1.bel hy) fun w' hB=>hK _ _ (X.put hv hc (X.I.1.call hB) (X.I.2.1.below hB X.I.1.sz) hB)
end
theorem Yz:EnT 32:=fun _ _=>by kernel_rfl
theorem xMember_core(p q g h rv:Int)(bs:List Nat)(vb:Value)(f sq cf:Nat->Int)(w:World)(hin:IN w w.heap.size vb bs)(hbl:bs.length<=100000)
 (hC:Hid (∀u,CC 31 #[GX p q g h] u (iI 0)))
 (hD:Hid (∀(k:Nat) u y,k<64->Bw w u->PIn ([0,0,0,0,0,0,0,k]++bs) u y->CC 32 #[y,.string ⟨#[109,101,109,98,101,114]⟩,NV p] u (NV (f k))))
 (hM:Hid (∀(k:Nat) u,k<64->CC 33 #[NV (f k),NV (f k),NV p] u (.tuple #[NV (sq k),iI 0])))
 (hQ:Hid (∀(k:Nat) u,k<64->CC 34 #[NV (sq k),NV 1] u (iI (cf k))))
 (hc:Hid (∀k,k<64->(1<sq k->0<cf k)/\(¬1<sq k->cf k<=0)))
 (hE:Hid (∀k,k<64->(∀j,j<k->sq j<=1)->1<sq k->sq k=rv))(hE2:Hid ((∀j,j<64->sq j<=1)->rv=1)):
 CC 15 #[GX p q g h,vb] w (.tuple #[NV rv,iI 0]):=by
 go_enter Tryz.func15,Tryz.ntmps15
 go_upto_region 1 with fail
 obtain⟨v0,hC,HB0,K0⟩:=bx2 w (GE p q g h) 26 L0s 24
 rw[hC]
 clear hC
 refine Rn K0 HB0 (cG 0 11 [_,_,_] []) (oc (g_ld 0 Tryz.underlying26 Z3)<|oc (g_cl Wl hC.out)<|oc (g_bn (fun uZ=>V9 _ _ _ 0 0 _ uZ rfl)) on) fun u1 HB1 _ K1=>?_
 simp only[sQ] at K1⊢
 go_upto_region 3 with fail
 refine Rn K1 HB1 [(0,6,_)] (oc g_as on) fun u2 HB2 _ K2=>?_
 simp only[sQ] at K2⊢
 go_wp2_with fail
 go_loopw [6] (fun s6 wr=> ∃(k:Nat),k<=64/\s6=iI (k:Int)/\Hid (∀j,j<k->sq j<=1)/\Bw w wr/\CV wr (w.heap.size) (GE p q g h)/\w.heap.size<wr.heap.size/\CV wr (w.heap.size+1) (L0s)/\w.heap.size+1<wr.heap.size) (fun s6 _=>64 -(intOf s6).toNat)
 case atStart=>exact⟨0,by omega,rfl,fun j hj=>absurd hj (by omega),HB2,(K2.cv 0),(K2.lt 0),(K2.cv 1),(K2.lt 1)⟩
 case round=>
  obtain⟨k,hk,rfl,hall,HBr,Kp,lp,Kr,lr⟩:=hrel
  have hnK:=K2.n
  simp at hnK
  by_cases hj:k<64
  ·have hl:decide ((k:Int)<64)=true:=by simp;omega
   have hDg:=fun u y (hB:Bw w u) h=>hD.out k u y hj hB h
   have hMu:=fun u=>hM.out k u hj
   have hCp:=fun u=>hQ.out k u hj
   have hc1:=hc.out k hj
   have hev:=hE.out k hj hall.out
   have hall2: ¬1<sq k->Hid (∀j,j<k+1->sq j<=1):=fun hb j hj2=>by
    by_cases e:j=k
    ·subst e;omega
    ·exact hall.out j (by omega)
   have hDg:Hid _:=hDg
   have hMu:Hid _:=hMu
   have hCp:Hid _:=hCp
   have hk64:(k:Int)<64:=by omega
   obtain⟨x,ex⟩: ∃x,f k=x:=⟨_,rfl⟩
   obtain⟨y,ey⟩: ∃y,sq k=y:=⟨_,rfl⟩
   obtain⟨c,ec⟩: ∃c,cf k=c:=⟨_,rfl⟩
   rw[ex] at hDg hMu
   rw[ey] at hMu hCp hev hall2 hc1
   rw[ec] at hCp hc1
   clear ex ey ec
   by_cases hy1:1<y
   ·have hcb:decide (0<c)=true:=by have:=hc1.1 (by omega);simp;omega
    have hrv:=hev hy1
    subst hrv
    have K2_1:Bk w.heap.size wr [(false,w.heap.size,GE p q g h),(true,w.heap.size+1,L0s)]:=⟨.c lp Kp<| .o lr (K2.lo 1) Kr<|trivial,by simp<;>omega⟩
    go_upto_region 4 with fail
    refine Rn K2_1 HBr [(0,15,_),(1,16,_)] (oc g_mv<|oc (g_bn (fun uZ=>lss_k _ _ (k:Int) 64 _ uZ hl)) on) fun u3 HB3 sz3 K3=>?_
    simp only[sQ] at K3⊢
    go_upto_region 6 with fail
    refine Rf K3 HB3 [] [] [(0,19,_),(1,20,_)] [] [] [⟨2,21,some 3,P8 u3.heap.size [0,0,0,0,0,0,0,k]⟩,⟨3,7,none,P8 u3.heap.size [0,0,0,0,0,0,0,k]⟩] [] (oc g_mv<|oc (g_op (fun ev uZ he=>cvi8k uZ (by omega) rfl (he _ _ rfl)))<|oc (g_bR 0 (P8 u3.heap.size [0,0,0,0,0,0,0,k]) [0,1,2,3,4,5,6,7] [.int .u8 0,.int .u8 0,.int .u8 0,.int .u8 0,.int .u8 0,.int .u8 0,.int .u8 0,.int .u8 (k:Int)] (U8 [0,0,0,0,0,0,0,k]) (bs8c k) (fun u hu=>⟨_,rfl,hu,by simp,CV.new u _ _⟩))<|oc (g_sE 0 1 (P8 u3.heap.size [0,0,0,0,0,0,0,k])) on) fun u4 v4_2 hv4_2 v4_3 hv4_3 HB4 sz4 K4=>?_
    simp only[sQ] at K4⊢
    obtain⟨b8,rfl,l1,l2,l3⟩:=hv4_3 rfl
    have K4xe8:=Bk.more3 K3 K4 l1 l2 l3 (by intro x hx;first | (simp at hx;done) | (simp at hx⊢;omega))
    simp only[aK] at K4xe8
    go_upto_region 7 with fail
    refine Re K4xe8 HB4 [] [(6,8,L0s,some (7,LN x))] [(0,22,_),(1,23,_),(3,25,_),(4,26,_),(5,27,_)] [(7,6)] [] [⟨2,24,some 5,PIn ([0,0,0,0,0,0,0,k]++bs)⟩] [true,true,false] (oc g_mv<|oc g_mv<|oc (g_aK 0 (PIn ([0,0,0,0,0,0,0,k]++bs)) (fun f u kZ hs bZ=>app_P8 (lo:=0) (Nat.zero_le _) (Nat.zero_le _) (Nat.lt_of_lt_of_le (KC.get kZ (k:=2) rfl).1 hs) rfl hbl ((IN.below hin bZ).mono bZ.size) (KC.cv kZ 2)))<|oc (g_fd (fdG0 _))<|oc (g_lo 0 0 uN iN)<|oc (g_cWg 0 (PIn ([0,0,0,0,0,0,0,k]++bs)) (fun y=>[y,.string ⟨#[109,101,109,98,101,114]⟩,NV p]) Yz (fun u y bZ hy=>hDg.out u y bZ hy))<|oc (g_al 0 aN)<|oc (g_sn 0 iN) on) fun u5 b5_6 v5_2 hv5_2 HB5 sz5 K5=>?_
    simp only[sQ] at K5⊢
    go_upto_region 8 with fail
    refine Rp K5 HB5 [] [(8,9,L0s,some (9,LN y))] (cG 0 29 [_,_,_,_,_] [(5,28,_),(6,34,_),(7,35,_),(10,10,_)]) [(9,8)] [] [true,true,false] (oc (g_ld 2 uN iN)<|oc (g_ld 2 uN iN)<|oc (g_fd (fdG0 _))<|oc (g_lo 0 0 uN iN)<|oc (g_cl Ya hMu.out)<|oc g_mv<|oc g_ex<|oc g_ex<|oc (g_al 0 aN)<|oc (g_sn 0 iN)<|oc g_as on) fun u6 b6_8 HB6 sz6 K6=>?_
    simp only[sQ] at K6⊢
    go_upto_region 9 with fail
    refine Rn K6 HB6 (cG 0 36 [_,_,_,_] []) (oc (g_ld 2 uN iN)<|oc (g_bd bd1m)<|oc (g_cl Z0 hCp.out)<|oc (g_bn (fun uZ=>gtr_k _ _ c 0 _ uZ hcb)) on) fun u7 HB7 sz7 K7=>?_
    simp only[sQ] at K7⊢
    go_upto_region 10 with fail
    refine Rp K7 HB7 [.no,.all 1 (LN y)] [] [(0,40,_),(2,5,_)] [] [] [true,true,false] (oc (g_ld 2 uN iN)<|oc (g_st 1 iN)<|oc g_as on) fun u8 HB8 sz8 K8=>?_
    simp only[sQ] at K8⊢
    have c4:=(K8.cv 1).n4
    go_wp2
    refine bodyPost_ret (v:= .tuple #[NV y,iI 0]) (by simp[results,Tryz.results15,go_sem,c4]) rfl ⟨rfl,HB8⟩
   ·have hcb:decide (0<c)=false:=by have:=hc1.2 (by omega);simp;omega
    have hall3:=hall2 hy1
    have hall3:Hid _:=hall3
    clear hall2 hev
    have K2_1:Bk w.heap.size wr [(false,w.heap.size,GE p q g h),(true,w.heap.size+1,L0s)]:=⟨.c lp Kp<| .o lr (K2.lo 1) Kr<|trivial,by simp<;>omega⟩
    go_upto_region 4 with fail
    refine Rn K2_1 HBr [(0,15,_),(1,16,_)] (oc g_mv<|oc (g_bn (fun uZ=>lss_k _ _ (k:Int) 64 _ uZ hl)) on) fun u3 HB3 sz3 K3=>?_
    simp only[sQ] at K3⊢
    go_upto_region 6 with fail
    refine Rf K3 HB3 [] [] [(0,19,_),(1,20,_)] [] [] [⟨2,21,some 3,P8 u3.heap.size [0,0,0,0,0,0,0,k]⟩,⟨3,7,none,P8 u3.heap.size [0,0,0,0,0,0,0,k]⟩] [] (oc g_mv<|oc (g_op (fun ev uZ he=>cvi8k uZ (by omega) rfl (he _ _ rfl)))<|oc (g_bR 0 (P8 u3.heap.size [0,0,0,0,0,0,0,k]) [0,1,2,3,4,5,6,7] [.int .u8 0,.int .u8 0,.int .u8 0,.int .u8 0,.int .u8 0,.int .u8 0,.int .u8 0,.int .u8 (k:Int)] (U8 [0,0,0,0,0,0,0,k]) (bs8c k) (fun u hu=>⟨_,rfl,hu,by simp,CV.new u _ _⟩))<|oc (g_sE 0 1 (P8 u3.heap.size [0,0,0,0,0,0,0,k])) on) fun u4 v4_2 hv4_2 v4_3 hv4_3 HB4 sz4 K4=>?_
    simp only[sQ] at K4⊢
    obtain⟨b8,rfl,l1,l2,l3⟩:=hv4_3 rfl
    have K4xe8:=Bk.more3 K3 K4 l1 l2 l3 (by intro x hx;first | (simp at hx;done) | (simp at hx⊢;omega))
    simp only[aK] at K4xe8
    go_upto_region 7 with fail
    refine Re K4xe8 HB4 [] [(6,8,L0s,some (7,LN x))] [(0,22,_),(1,23,_),(3,25,_),(4,26,_),(5,27,_)] [(7,6)] [] [⟨2,24,some 5,PIn ([0,0,0,0,0,0,0,k]++bs)⟩] [true,true,false] (oc g_mv<|oc g_mv<|oc (g_aK 0 (PIn ([0,0,0,0,0,0,0,k]++bs)) (fun f u kZ hs bZ=>app_P8 (lo:=0) (Nat.zero_le _) (Nat.zero_le _) (Nat.lt_of_lt_of_le (KC.get kZ (k:=2) rfl).1 hs) rfl hbl ((IN.below hin bZ).mono bZ.size) (KC.cv kZ 2)))<|oc (g_fd (fdG0 _))<|oc (g_lo 0 0 uN iN)<|oc (g_cWg 0 (PIn ([0,0,0,0,0,0,0,k]++bs)) (fun y=>[y,.string ⟨#[109,101,109,98,101,114]⟩,NV p]) Yz (fun u y bZ hy=>hDg.out u y bZ hy))<|oc (g_al 0 aN)<|oc (g_sn 0 iN) on) fun u5 b5_6 v5_2 hv5_2 HB5 sz5 K5=>?_
    simp only[sQ] at K5⊢
    go_upto_region 8 with fail
    refine Rp K5 HB5 [] [(8,9,L0s,some (9,LN y))] (cG 0 29 [_,_,_,_,_] [(5,28,_),(6,34,_),(7,35,_),(10,10,_)]) [(9,8)] [] [true,true,false] (oc (g_ld 2 uN iN)<|oc (g_ld 2 uN iN)<|oc (g_fd (fdG0 _))<|oc (g_lo 0 0 uN iN)<|oc (g_cl Ya hMu.out)<|oc g_mv<|oc g_ex<|oc g_ex<|oc (g_al 0 aN)<|oc (g_sn 0 iN)<|oc g_as on) fun u6 b6_8 HB6 sz6 K6=>?_
    simp only[sQ] at K6⊢
    go_upto_region 9 with fail
    refine Rp K6 HB6 [] [] (cG 0 36 [_,_,_,_] []) [] [] [true,true,false] (oc (g_ld 2 uN iN)<|oc (g_bd bd1m)<|oc (g_cl Z0 hCp.out)<|oc (g_bn (fun uZ=>gtr_k _ _ c 0 _ uZ hcb)) on) fun u7 HB7 sz7 K7=>?_
    simp only[sQ] at K7⊢
    go_upto_region 5 with fail
    refine Rp K7 HB7 [] [] [(0,17,_),(1,18,_),(2,6,_)] [(2,0)] [(2,6)] [] (oc g_mv<|oc (g_bn (fun uZ=>Zy _ _ (k:Int) 1 ((k+1:Nat):Int) uZ (by omega) (by omega) (by omega)))<|oc g_as on) fun u8 HB8 sz8 K8=>?_
    simp only[sQ] at K8⊢
    go_wp2
    refine⟨⟨k+1,by omega,rfl,hall3.out,HB8,(K8.cv 0),(K8.lt 0),(K8.cv 1),(K8.lt 1)⟩,?_⟩
    simp[intOf]<;>omega
  ·have hl:decide ((k:Int)<64)=false:=by simp;omega
   have hkn:k=64:=by omega
   have hrv:=hE2.out (by rw[<-hkn];exact hall.out)
   clear hkn
   subst hrv
   have K2_1:Bk w.heap.size wr [(false,w.heap.size,GE p q g h),(true,w.heap.size+1,L0s)]:=⟨.c lp Kp<| .o lr (K2.lo 1) Kr<|trivial,by simp<;>omega⟩
   go_upto_region 4 with fail
   refine Rn K2_1 HBr [(0,15,_),(1,16,_)] (oc g_mv<|oc (g_bn (fun uZ=>lss_k _ _ (k:Int) 64 _ uZ hl)) on) fun u3 HB3 sz3 K3=>?_
   simp only[sQ] at K3⊢
   go_upto_region 11 with fail
   refine Rp K3 HB3 [.no,.all 1 (LN 1)] [] [(0,41,_),(2,5,_)] [] [] [] (oc (g_bd bd1m)<|oc (g_st 1 iN)<|oc g_as on) fun u4 HB4 sz4 K4=>?_
   simp only[sQ] at K4⊢
   have c4:=(K4.cv 1).n4
   go_wp2
   refine bodyPost_ret (v:= .tuple #[NV 1,iI 0]) (by simp[results,Tryz.results15,go_sem,c4]) rfl ⟨rfl,HB4⟩
end
theorem lss_q(p q:Operand)(x y:Int)(b:Bool)(w:World)(h:decide (x<y)=b):(do eqGuard .lss 22 p q (iU x) (iU y);binOp .lss 22 (iU x) (iU y):Sem Value).run Tryz.prog w= .ok (.bool b) w:=by
 subst h;go_simp
theorem gtr_q(p q:Operand)(x y:Int)(b:Bool)(w:World)(h:decide (y<x)=b):(do eqGuard .gtr 3 p q (iI x) (iI y);binOp .gtr 3 (iI x) (iI y):Sem Value).run Tryz.prog w= .ok (.bool b) w:=by
 subst h;go_simp
theorem memberOf_core(p rv:Int)(bs:List Nat)(vb:Value)(f sq cf:Nat->Int)(w:World)
 (hC:Hid (∀(k:Nat) u,k<64->Bw w u->Calls Tryz.prog 28 #[iU (k:Int),vb] u fun e u'=> ∃y,e= .returned y/\PIn ([0,0,0,0,0,0,0,k]++bs) u' y/\Bw u u'))
 (hD:Hid (∀(k:Nat) u y,k<64->Bw w u->PIn ([0,0,0,0,0,0,0,k]++bs) u y->CC 27 #[.string ⟨#[109,101,109,98,101,114]⟩,y,NV p] u (NV (f k))))
 (hM:Hid (∀(k:Nat) u,k<64->CC 29 #[NV (f k),NV (f k),NV p] u (.tuple #[NV (sq k),iI 0])))
 (hQ:Hid (∀(k:Nat) u,k<64->CC 30 #[NV (sq k),NV 1] u (iI (cf k))))
 (hc:Hid (∀k,k<64->(1<sq k->0<cf k)/\(¬1<sq k->cf k<=0)))
 (hE:Hid (∀k,k<64->(∀j,j<k->sq j<=1)->1<sq k->sq k=rv))(hE2:Hid ((∀j,j<64->sq j<=1)->rv=1)):
 CC 13 #[NV p,vb] w (NV rv):=by
 go_enter Tryz.func13,Tryz.ntmps13
 go_upto_region 1 with fail
 obtain⟨v0,hC,HB0,K0⟩:=bx2 w (LN p) 24 L0s 24
 rw[hC]
 clear hC
 refine Rp K0 HB0 [] [(1,5,L0s,some (2,LN 1))] [(0,10,_)] [(2,1)] [] [] (oc (g_cl Zl (fun uZ=>nOf 1 uZ (by decide) (by decide)))<|oc (g_al 0 aN)<|oc (g_sn 0 iN) on) fun u1 b1_1 HB1 _ K1=>?_
 simp only[sQ] at K1⊢
 go_upto_region 2 with fail
 refine Rn K1 HB1 [(0,11,_)] (oc g_mv on) fun u2 HB2 _ K2=>?_
 simp only[sQ] at K2⊢
 go_wp2_with fail
 have hb1:w.heap.size+1<b1_1:=by have:=K2.n;have h3:=K2.lo 2;simp at this;omega
 go_loopw [11] (fun s11 wr=> ∃(k:Nat),k<=64/\s11=iU (k:Int)/\Hid (∀j,j<k->sq j<=1)/\Bw w wr/\CV wr (w.heap.size) (LN p)/\w.heap.size<wr.heap.size/\CV wr (w.heap.size+1) (L0s)/\w.heap.size+1<wr.heap.size/\CV wr b1_1 (LN 1)/\b1_1<wr.heap.size) (fun s11 _=>64 -(intOf s11).toNat)
 case atStart=>exact⟨0,by omega,rfl,fun j hj=>absurd hj (by omega),HB2,(K2.cv 0),(K2.lt 0),(K2.cv 1),(K2.lt 1),(K2.cv 2),(K2.lt 2)⟩
 case round=>
  obtain⟨k,hk,rfl,hall,HBr,Kp,lp,Kr,lr,Ko,lo⟩:=hrel
  have hnK:=K2.n
  simp at hnK
  have hoK2:=K2.lo 2
  by_cases hj:k<64
  ·have hl:decide ((k:Int)<64)=true:=by simp;omega
   have hCn:=fun u (hB:Bw w u)=>hC.out k u hj hB
   have hDg:=fun u y (hB:Bw w u) h=>hD.out k u y hj hB h
   have hMu:=fun u=>hM.out k u hj
   have hCp:=fun u=>hQ.out k u hj
   have hc1:=hc.out k hj
   have hev:=hE.out k hj hall.out
   have hall2: ¬1<sq k->Hid (∀j,j<k+1->sq j<=1):=fun hb j hj2=>by
    by_cases e:j=k
    ·subst e;omega
    ·exact hall.out j (by omega)
   have hCn:Hid _:=hCn
   have hDg:Hid _:=hDg
   have hMu:Hid _:=hMu
   have hCp:Hid _:=hCp
   have hk64:(k:Int)<64:=by omega
   obtain⟨x,ex⟩: ∃x,f k=x:=⟨_,rfl⟩
   obtain⟨y,ey⟩: ∃y,sq k=y:=⟨_,rfl⟩
   obtain⟨c,ec⟩: ∃c,cf k=c:=⟨_,rfl⟩
   rw[ex] at hDg hMu
   rw[ey] at hMu hCp hev hall2 hc1
   rw[ec] at hCp hc1
   clear ex ey ec
   by_cases hy1:1<y
   ·have hcb:decide (0<c)=true:=by have:=hc1.1 (by omega);simp;omega
    have hrv:=hev hy1
    subst hrv
    have K2_1:Bk w.heap.size wr [(false,w.heap.size,LN p),(true,w.heap.size+1,L0s),(false,b1_1,LN 1)]:=⟨.c lp Kp<| .o lr (K2.lo 1) Kr<| .c lo Ko<|trivial,by simp<;>omega⟩
    go_upto_region 3 with fail
    refine Rn K2_1 HBr [(0,12,_)] (oc (g_bn (fun uZ=>lss_q _ _ (k:Int) 64 _ uZ hl)) on) fun u3 HB3 sz3 K3=>?_
    simp only[sQ] at K3⊢
    go_upto_region 4 with fail
    refine Rn K3 HB3 [(0,13,_),(1,6,_)] (oc g_mv<|oc g_as on) fun u4 HB4 sz4 K4=>?_
    simp only[sQ] at K4⊢
    go_upto_region 5 with fail
    refine Re K4 HB4 [] [(5,7,L0s,some (6,LN x))] [(0,14,_),(1,15,_),(3,17,_),(4,18,_)] [(6,5)] [] [⟨2,16,some 4,PIn ([0,0,0,0,0,0,0,k]++bs)⟩] [] (oc g_mv<|oc g_mv<|oc (g_cE 0 (PIn ([0,0,0,0,0,0,0,k]++bs)) Vk (fun u hB hs=>hCn.out u hB))<|oc (g_ld 0 uN iN)<|oc (g_cWg 0 (PIn ([0,0,0,0,0,0,0,k]++bs)) (fun y=>[.string ⟨#[109,101,109,98,101,114]⟩,y,NV p]) U4 (fun u y bZ hy=>hDg.out u y bZ hy))<|oc (g_al 0 aN)<|oc (g_sn 0 iN) on) fun u5 b5_5 v5_2 hv5_2 HB5 sz5 K5=>?_
    simp only[sQ] at K5⊢
    go_upto_region 6 with fail
    refine Rp K5 HB5 [] [(7,8,L0s,some (8,LN y))] (cG 0 20 [_,_,_,_] [(4,19,_),(5,24,_),(6,25,_),(9,9,_)]) [(8,7)] [] [true,true,true,false] (oc (g_ld 3 uN iN)<|oc (g_ld 3 uN iN)<|oc (g_ld 0 uN iN)<|oc (g_cl Ua hMu.out)<|oc g_mv<|oc g_ex<|oc g_ex<|oc (g_al 0 aN)<|oc (g_sn 0 iN)<|oc g_as on) fun u6 b6_7 HB6 sz6 K6=>?_
    simp only[sQ] at K6⊢
    go_upto_region 7 with fail
    refine Rn K6 HB6 (cG 0 26 [_,_,_,_] []) (oc (g_ld 3 uN iN)<|oc (g_ld 2 uN iN)<|oc (g_cl Y2 hCp.out)<|oc (g_bn (fun uZ=>gtr_q _ _ c 0 _ uZ hcb)) on) fun u7 HB7 sz7 K7=>?_
    simp only[sQ] at K7⊢
    go_upto_region 8 with fail
    refine Rp K7 HB7 [.no,.all 1 (LN y)] [] [(0,30,_)] [] [] [true,true,true,false] (oc (g_ld 3 uN iN)<|oc (g_st 1 iN) on) fun u8 HB8 sz8 K8=>?_
    simp only[sQ] at K8⊢
    have c4:=(K8.cv 1).n4
    go_wp2
    refine bodyPost_ret (v:=NV y) (by simp[results,Tryz.results13,go_sem,c4]) rfl ⟨rfl,HB8⟩
   ·have hcb:decide (0<c)=false:=by have:=hc1.2 (by omega);simp;omega
    have hall3:=hall2 hy1
    have hall3:Hid _:=hall3
    clear hall2 hev
    have K2_1:Bk w.heap.size wr [(false,w.heap.size,LN p),(true,w.heap.size+1,L0s),(false,b1_1,LN 1)]:=⟨.c lp Kp<| .o lr (K2.lo 1) Kr<| .c lo Ko<|trivial,by simp<;>omega⟩
    go_upto_region 3 with fail
    refine Rn K2_1 HBr [(0,12,_)] (oc (g_bn (fun uZ=>lss_q _ _ (k:Int) 64 _ uZ hl)) on) fun u3 HB3 sz3 K3=>?_
    simp only[sQ] at K3⊢
    go_upto_region 4 with fail
    refine Rn K3 HB3 [(0,13,_),(1,6,_)] (oc g_mv<|oc g_as on) fun u4 HB4 sz4 K4=>?_
    simp only[sQ] at K4⊢
    go_upto_region 5 with fail
    refine Re K4 HB4 [] [(5,7,L0s,some (6,LN x))] [(0,14,_),(1,15,_),(3,17,_),(4,18,_)] [(6,5)] [] [⟨2,16,some 4,PIn ([0,0,0,0,0,0,0,k]++bs)⟩] [] (oc g_mv<|oc g_mv<|oc (g_cE 0 (PIn ([0,0,0,0,0,0,0,k]++bs)) Vk (fun u hB hs=>hCn.out u hB))<|oc (g_ld 0 uN iN)<|oc (g_cWg 0 (PIn ([0,0,0,0,0,0,0,k]++bs)) (fun y=>[.string ⟨#[109,101,109,98,101,114]⟩,y,NV p]) U4 (fun u y bZ hy=>hDg.out u y bZ hy))<|oc (g_al 0 aN)<|oc (g_sn 0 iN) on) fun u5 b5_5 v5_2 hv5_2 HB5 sz5 K5=>?_
    simp only[sQ] at K5⊢
    go_upto_region 6 with fail
    refine Rp K5 HB5 [] [(7,8,L0s,some (8,LN y))] (cG 0 20 [_,_,_,_] [(4,19,_),(5,24,_),(6,25,_),(9,9,_)]) [(8,7)] [] [true,true,true,false] (oc (g_ld 3 uN iN)<|oc (g_ld 3 uN iN)<|oc (g_ld 0 uN iN)<|oc (g_cl Ua hMu.out)<|oc g_mv<|oc g_ex<|oc g_ex<|oc (g_al 0 aN)<|oc (g_sn 0 iN)<|oc g_as on) fun u6 b6_7 HB6 sz6 K6=>?_
    simp only[sQ] at K6⊢
    go_upto_region 7 with fail
    refine Rp K6 HB6 [] [] (cG 0 26 [_,_,_,_] []) [] [] [true,true,true,false] (oc (g_ld 3 uN iN)<|oc (g_ld 2 uN iN)<|oc (g_cl Y2 hCp.out)<|oc (g_bn (fun uZ=>gtr_q _ _ c 0 _ uZ hcb)) on) fun u7 HB7 sz7 K7=>?_
    simp only[sQ] at K7⊢
    go_upto_region 9 with fail
    refine Rp K7 HB7 [] [] [(0,31,_),(1,11,_)] [(1,0)] [(1,11)] [] (oc (g_bn (fun uZ=>add_u _ _ (k:Int) 1 ((k+1:Nat):Int) uZ (by omega)))<|oc g_mv on) fun u8 HB8 sz8 K8=>?_
    simp only[sQ] at K8⊢
    go_wp2
    refine⟨⟨k+1,by omega,rfl,hall3.out,HB8,(K8.cv 0),(K8.lt 0),(K8.cv 1),(K8.lt 1),(K8.cv 2),(K8.lt 2)⟩,?_⟩
    simp[intOf]<;>omega
  ·have hl:decide ((k:Int)<64)=false:=by simp;omega
   have hkn:k=64:=by omega
   have hrv:=hE2.out (by rw[<-hkn];exact hall.out)
   clear hkn
   subst hrv
   have K2_1:Bk w.heap.size wr [(false,w.heap.size,LN p),(true,w.heap.size+1,L0s),(false,b1_1,LN 1)]:=⟨.c lp Kp<| .o lr (K2.lo 1) Kr<| .c lo Ko<|trivial,by simp<;>omega⟩
   go_upto_region 3 with fail
   refine Rn K2_1 HBr [(0,12,_)] (oc (g_bn (fun uZ=>lss_q _ _ (k:Int) 64 _ uZ hl)) on) fun u3 HB3 sz3 K3=>?_
   simp only[sQ] at K3⊢
   go_upto_region 10 with fail
   refine Rp K3 HB3 [.no,.all 1 (LN 1)] [] [(0,32,_)] [] [] [] (oc (g_ld 2 uN iN)<|oc (g_st 1 iN) on) fun u4 HB4 sz4 K4=>?_
   simp only[sQ] at K4⊢
   have c4:=(K4.cv 1).n4
   go_wp2
   refine bodyPost_ret (v:=NV 1) (by simp[results,Tryz.results13,go_sem,c4]) rfl ⟨rfl,HB4⟩
end Go.Proofs.YtdhlekdohebbbaaGreatDoor
