import Derived.Test.YtgieoghechekpaaGreatDoorNN
import Derived.Deep.OwnRows
namespace Go.Proofs.YtgieoghechekpaaGreatDoor
set_option linter.unusedVariables false
set_option linter.unusedSimpArgs false
set_option maxRecDepth 100000
set_option maxHeartbeats 4000000
open Go.RowKit
def byp(a b c d:Int)(p:Nat):Int:=(if p/8=0 then a else if p/8=1 then b else if p/8=2 then c else d)/2^(p%8*8)%256
def CB(w:World)(n k:Nat)(a b c d:Int):Prop:= ∀j,j<32->w.cell? ⟨n,j,none⟩=some (.int .u8 (if 32<=j+k then byp a b c d (31 -j) else 0))/\w.frozen? ⟨n,j,none⟩=false
theorem CB.below{w w':World}{m n k:Nat}{a b c d:Int}(h:CB w n k a b c d)(hb:Below m w w')(hn:n<m):CB w' n k a b c d:=fun j hj=>by
 rw[hb.cell (p:=⟨n,j,none⟩) hn,hb.frozen (p:=⟨n,j,none⟩) hn];exact h j hj
theorem CB.set{w:World}{n k:Nat}{a b c d:Int}(h:CB w n k a b c d)(hk:k<32)(v:Int)(hv:v=byp a b c d k):CB (w.setCell ⟨n,31 -k,none⟩ (.int .u8 v)) n (k+1) a b c d:=fun j hj=>by
 rw[World.frozen?_setCell]
 obtain⟨hc,hf⟩:=h (31 -k) (by omega)
 by_cases e:j=31 -k
 ·subst e
  refine⟨?_,hf⟩
  rw[if_pos (by omega),show 31 -(31 -k)=k by omega,hv]
  simp[go_sem,hc]
 ·obtain⟨hc',hf'⟩:=h j hj
  refine⟨?_,hf'⟩
  rw[World.cell?_setCell_other _ _ _ _ (by simp<;>omega),hc']
  by_cases g:32<=j+k
  ·rw[if_pos g,if_pos (by omega)]
  ·rw[if_neg g,if_neg (by omega)]
def z32b:Array Value:=Array.replicate 32 (.int .u8 0)
theorem CB.new(w:World)(a b c d:Int):CB (w.alloc (.cells z32b 5)) w.heap.size 0 a b c d:=fun j hj=>by
 have hf:(w.alloc (.cells z32b 5)).frozen? ⟨w.heap.size,j,none⟩=false:=by simp[go_sem]
 refine⟨?_,hf⟩
 rw[cell_of_row _ w.heap.size j _ 5 (0,0) (heap_alloc_new _ _),if_neg (by omega)]
 simp[z32b,hj]
def byl(a b c d:Int):List Int:=(List.range 32).map fun j=>byp a b c d (31 -j)
theorem CB.get{w:World}{g:Nat}{a b c d:Int}(h:CB w g 32 a b c d): ∀i,i<32->w.cell? ⟨g,0+i,none⟩=some (.int .u8 ((byl a b c d).getD i 0)):=fun i hi=>by
 have:=(h i hi).1
 rw[if_pos (by omega)] at this
 rw[Nat.zero_add,this]
 unfold byl
 simp[List.getD,hi]
theorem Tryz.info5:(Tryz.prog.info? 5).map (fun i=>(i.zero,i.size,i.bytes))=some (some (.int .u8 0),1,1):=by kernel_rfl
def hexc(v:Int):Int:=if v<10 then 48+v else 87+v
def nib(a b c d:Int)(p:Nat):Int:=(if p/16=0 then a else if p/16=1 then b else if p/16=2 then c else d)/2^(p%16*4)%16
theorem hex_at(v:Int)(h0:0<=v)(h1:v<16)(hh:v.toNat<(ByteArray.mk #[48,49,50,51,52,53,54,55,56,57,97,98,99,100,101,102]).size):((((ByteArray.mk #[48,49,50,51,52,53,54,55,56,57,97,98,99,100,101,102])[v.toNat]'hh).toNat:Nat):Int)=hexc v:=by
 obtain⟨n,rfl⟩:=Int.eq_ofNat_of_zero_le h0
 have hn:n<16:=by omega
 have key: ∀m:Fin 16,((((ByteArray.mk #[48,49,50,51,52,53,54,55,56,57,97,98,99,100,101,102])[m.val]'(by have:=m.isLt;show m.val<16;omega)).toNat:Nat):Int)=hexc (m.val:Int):=by decide
 exact key ⟨n,hn⟩
theorem and15(x:Int)(h:W64 x):bits .and .u64 x 15=x%16:=by
 obtain⟨h1,h2⟩:=h
 obtain⟨x,rfl⟩:=Int.eq_ofNat_of_zero_le h1
 have e:=bits_and_u64_nat x 15 (by omega) (by omega)
 have f:x&&&15=x%16:=Nat.and_two_pow_sub_one_eq_mod x 4
 rw[f] at e
 exact e.trans (by omega)
def CT(w:World)(n N k:Nat)(a b c d:Int):Prop:= ∀j,j<N->w.cell? ⟨n,j,none⟩=some (.int .u8 (if N<=j+k then hexc (nib a b c d (N -1 -j)) else 0))/\w.frozen? ⟨n,j,none⟩=false
theorem CT.set{w:World}{n N k o:Nat}{a b c d:Int}(h:CT w n N k a b c d)(hk:k<N)(ho:o=N -1 -k)(v:Int)(hv:v=hexc (nib a b c d k)):CT (w.setCell ⟨n,o,none⟩ (.int .u8 v)) n N (k+1) a b c d:=fun j hj=>by
 subst ho
 rw[World.frozen?_setCell]
 obtain⟨hc,hf⟩:=h (N -1 -k) (by omega)
 by_cases e:j=N -1 -k
 ·subst e
  refine⟨?_,hf⟩
  rw[if_pos (by omega),show N -1 -(N -1 -k)=k by omega,hv]
  simp[go_sem,hc]
 ·obtain⟨hc',hf'⟩:=h j hj
  refine⟨?_,hf'⟩
  rw[World.cell?_setCell_other _ _ _ _ (by simp<;>omega),hc']
  by_cases g:N<=j+k
  ·rw[if_pos g,if_pos (by omega)]
  ·rw[if_neg g,if_neg (by omega)]
theorem CT.new(w:World)(N:Nat)(a b c d:Int):CT (w.alloc (.cells (madeCells #[.int .u8 0] N) 5)) w.heap.size N 0 a b c d:=fun j hj=>by
 have hf:(w.alloc (.cells (madeCells #[.int .u8 0] N) 5)).frozen? ⟨w.heap.size,j,none⟩=false:=by simp[go_sem]
 refine⟨?_,hf⟩
 rw[cell_of_row _ w.heap.size j _ 5 (0,0) (heap_alloc_new _ _),if_neg (by omega)]
 simp[madeCells,hj,Nat.mod_one]
def txl(a b c d:Int)(N:Nat):List Int:=(List.range N).map fun j=>hexc (nib a b c d (N -1 -j))
theorem CT.get{w:World}{g N:Nat}{a b c d:Int}(h:CT w g N N a b c d): ∀i,i<N->w.cell? ⟨g,0+i,none⟩=some (.int .u8 ((txl a b c d N).getD i 0)):=fun i hi=>by
 have:=(h i hi).1
 rw[if_pos (by omega)] at this
 rw[Nat.zero_add,this]
 unfold txl
 simp[List.getD,hi]
def nd(a b c d:Int):Nat:=if blen a b c d=0 then 1 else ((blen a b c d+3)/4).toNat
theorem blen_bd(a b c d:Int)(ha:W64 a)(hb:W64 b)(hc:W64 c)(hd:W64 d):0<=blen a b c d/\blen a b c d<=256:=by
 have h1:=bl_bd a ha;have h2:=bl_bd b hb;have h3:=bl_bd c hc;have h4:=bl_bd d hd
 unfold blen;split
 ·omega
 ·split
  ·omega
  ·split
   ·omega
   ·split<;>omega
theorem Text_any(a b c d:Int)(w:World)(ha:W64 a)(hb:W64 b)(hc:W64 c)(hd:W64 d):
 CC 63 #[A4 a b c d] w (.string (strOfNums (txl a b c d (nd a b c d)))):=by
 have hbb:=blen_bd a b c d ha hb hc hd
 obtain⟨N,eN⟩: ∃N,nd a b c d=N:=⟨_,rfl⟩
 rw[eN]
 have hmax:(max 1 ((blen a b c d+3)/4):Int)=(N:Int):=by
  rw[<-eN];unfold nd;split<;>omega
 have hN1:1<=N:=by omega
 have hN2:N<=64:=by omega
 obtain⟨L,eL⟩: ∃L,blen a b c d=L:=⟨_,rfl⟩
 have hlen:=length_any a b c d
 simp only[eL] at hlen hbb hmax
 have HLEN:Hid _:=hlen
 clear hlen eL eN
 have hmk:=fun w=>run_make_row' (P:=Tryz.prog) 128 5 (.int .u8 0) 1 Tryz.underlying128 Tryz.info5 rfl .i64 .i64 N (by omega) (by omega) w
 go_enter Tryz.func63,Tryz.ntmps63
 go_wp2_with fail
 refine(HLEN.out _ ha hb hc hd).mono ?_
 rintro en w1 ⟨rfl,hB⟩
 have hA1:C4 w1 w.heap.size a b c d:=C4.below (by unfold C4;simp[go_sem]) hB (by simp)
 have hq1:Bw w w1:=Z3 (Z0 (Z2 w) _) hB
 have hs1:=hB.size
 simp only[World.size_alloc] at hs1
 clear hB
 have HM:Hid _:=hmax
 go_wp2
 go_loopw [14] (fun i wr=> ∃k:Nat,k<=N/\i= .int .i64 k/\Bw w wr/\w1.heap.size<wr.heap.size/\C4 wr w.heap.size a b c d/\CT wr w1.heap.size N k a b c d) (fun i _=>N -(intOf i).toNat)
 case atStart=>
  exact⟨0,by omega,rfl,Z0 hq1 _,by simp,hA1.alloc (by omega) _,CT.new w1 N a b c d⟩
 case round=>
  clear hA1 hq1 hmk hmax
  obtain⟨k,hk,rfl,hB,hs,hA,hO⟩:=hrel
  by_cases hlt:k<N
  ·have hlt':(k:Int)<(N:Int):=by omega
   have hA':=hA
   obtain⟨⟨ac0,ac1,ac2,ac3⟩,_⟩:=hA'
   obtain⟨oc,of⟩:=hO (N -1 -k) (by omega)
   have hz:(if N<=N -1 -k+k then hexc (nib a b c d (N -1 -(N -1 -k))) else 0)=0:=if_neg (by omega)
   rw[hz] at oc
   clear hz
   have hq:k/16=0\/k/16=1\/k/16=2\/k/16=3:=by omega
   rcases hq with hq | hq | hq | hq
   ·have hq':(k:Int)/16=0:=by omega
    have hnd:=and15 _ (W_shr a (k%16*4) ha)
    have hv0:0<=a/2^(k%16*4)%16:=by omega
    have hv1:a/2^(k%16*4)%16<16:=by omega
    go_wp2
    refine⟨⟨k+1,by omega,by go_num,?_,by simpa using hs,hA.other _ (by dsimp only;omega) _,hO.set hlt (by omega) _ ?_⟩,by simp[intOf];omega⟩
    ·exact hB.setCell (by show _<=_;dsimp only;omega) _
    ·rw[hex_at _ hv0 hv1];unfold nib;simp[hq]
   ·have hq':(k:Int)/16=1:=by omega
    have hnd:=and15 _ (W_shr b (k%16*4) hb)
    have hv0:0<=b/2^(k%16*4)%16:=by omega
    have hv1:b/2^(k%16*4)%16<16:=by omega
    go_wp2
    refine⟨⟨k+1,by omega,by go_num,?_,by simpa using hs,hA.other _ (by dsimp only;omega) _,hO.set hlt (by omega) _ ?_⟩,by simp[intOf];omega⟩
    ·exact hB.setCell (by show _<=_;dsimp only;omega) _
    ·rw[hex_at _ hv0 hv1];unfold nib;simp[hq]
   ·have hq':(k:Int)/16=2:=by omega
    have hnd:=and15 _ (W_shr c (k%16*4) hc)
    have hv0:0<=c/2^(k%16*4)%16:=by omega
    have hv1:c/2^(k%16*4)%16<16:=by omega
    go_wp2
    refine⟨⟨k+1,by omega,by go_num,?_,by simpa using hs,hA.other _ (by dsimp only;omega) _,hO.set hlt (by omega) _ ?_⟩,by simp[intOf];omega⟩
    ·exact hB.setCell (by show _<=_;dsimp only;omega) _
    ·rw[hex_at _ hv0 hv1];unfold nib;simp[hq]
   ·have hq':(k:Int)/16=3:=by omega
    have hnd:=and15 _ (W_shr d (k%16*4) hd)
    have hv0:0<=d/2^(k%16*4)%16:=by omega
    have hv1:d/2^(k%16*4)%16<16:=by omega
    go_wp2
    refine⟨⟨k+1,by omega,by go_num,?_,by simpa using hs,hA.other _ (by dsimp only;omega) _,hO.set hlt (by omega) _ ?_⟩,by simp[intOf];omega⟩
    ·exact hB.setCell (by show _<=_;dsimp only;omega) _
    ·rw[hex_at _ hv0 hv1];unfold nib;simp[hq]
  ·have hkN:k=N:=by omega
   subst hkN
   have hcv:=run_convert_bytes_arg (P:=Tryz.prog) wr 128 5 Tryz.underlying128 Tryz.underlying5 w1.heap.size 0 k k (txl a b c d k) (by simp[txl]) hO.get 9 Tryz.underlying9
   go_wp2
   go_ret
   exact⟨rfl,hB⟩
end Go.Proofs.YtgieoghechekpaaGreatDoor
