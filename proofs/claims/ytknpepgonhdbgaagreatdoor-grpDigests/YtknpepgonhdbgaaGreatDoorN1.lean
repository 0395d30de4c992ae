import Derived.Test.YtknpepgonhdbgaaGreatDoorM4
import Derived.Test.YtknpepgonhdbgaaGreatDoorD1
import Derived.Laws.CopyOwn
namespace Go.Proofs.YtknpepgonhdbgaaGreatDoor
set_option linter.unusedVariables false
set_option linter.unusedSimpArgs false
set_option maxRecDepth 100000
set_option maxHeartbeats 4000000
section
open Go.RowKit
def In (n:Int):Prop:=0<=n/\n<115792089237316195423570985008687907853269984665640564039457584007913129639936
def InW (n:Int):Prop:=0<=n/\n<115792089237316195423570985008687907853269984665640564039457584007913129639936*115792089237316195423570985008687907853269984665640564039457584007913129639936
def ovB (a b:Int):Bool:=decide (115792089237316195423570985008687907853269984665640564039457584007913129639936<=a+b)
def ltB (a b:Int):Bool:=decide (a<b)
theorem V_In {n:Int} (h:In n):V (D0 n) (D1 n) (D2 n) (D3 n)=n:=by rw[V_D];unfold In at h;omega
theorem V_InW {n:Int} (h:InW n):V (D0 n) (D1 n) (D2 n) (D3 n)+V (D0 (D4 n)) (D1 (D4 n)) (D2 (D4 n)) (D3 (D4 n))*115792089237316195423570985008687907853269984665640564039457584007913129639936=n:=by
 unfold InW at h;rw[V_D,V_D];unfold D4;omega
theorem In_V {a b c d:Int} (ha:W64 a) (hb:W64 b) (hc:W64 c) (hd:W64 d):In (V a b c d):=V_bd a b c d ha hb hc hd
theorem NV_V {a b c d:Int} (ha:W64 a) (hb:W64 b) (hc:W64 c) (hd:W64 d):NV (V a b c d)=A4 a b c d:=by
 obtain⟨h0,h1,h2,h3,_⟩:=D_of (V a b c d) a b c d 0 ha hb hc hd (by omega)
 rw[NV,h0,h1,h2,h3]
theorem In.wide {n:Int} (h:In n):InW n:=by unfold In at h;unfold InW;omega
theorem In_mul {a b:Int} (ha:In a) (hb:In b):InW (a*b):=by
 refine⟨Int.mul_nonneg ha.1 hb.1,?_⟩
 have k1:=Int.mul_le_mul_of_nonneg_right (a:=a) (b:=115792089237316195423570985008687907853269984665640564039457584007913129639936 -1) (by have:=ha.2;omega) hb.1
 have:=hb.2;omega
theorem Zw {n m:Int} (hm:In m) (h:m≠0):In (n%m):=by
 have h0:=hm.1
 exact⟨Int.emod_nonneg _ h,by have:=Int.emod_lt_of_pos n (show 0<m by omega);have:=hm.2;omega⟩
theorem WV_In {n:Int} (h:In n):WV n=A8 (D0 n) (D1 n) (D2 n) (D3 n) 0 0 0 0:=by
 have e:D4 n=0:=by unfold D4;unfold In at h;omega
 rw[WV,e];rfl
theorem nAdd (a b:Int) (w:World) (ha:In a) (hb:In b):CC 98 #[NV a,NV b] w (.tuple #[NV (a+b),.bool (ovB a b)]):=by
 have k:=Add_any _ _ _ _ _ _ _ _ w (W_D0 a) (W_D1 a) (W_D2 a) (W_D3 a) (W_D0 b) (W_D1 b) (W_D2 b) (W_D3 b)
 simp only[V_In ha,V_In hb] at k
 have e:(D4 (a+b)==1)=ovB a b:=by
  unfold In at ha hb;unfold ovB D4;rw[Bool.eq_iff_iff];simp;omega
 rw[e] at k
 exact k
theorem nSub (a b:Int) (w:World) (ha:In a) (hb:In b):CC 101 #[NV a,NV b] w (.tuple #[NV (a -b),.bool (ltB a b)]):=by
 have k:=Sub_any _ _ _ _ _ _ _ _ w (W_D0 a) (W_D1 a) (W_D2 a) (W_D3 a) (W_D0 b) (W_D1 b) (W_D2 b) (W_D3 b)
 simp only[V_In ha,V_In hb] at k
 have e:(-D4 (a -b)==1)=ltB a b:=by
  unfold In at ha hb;unfold ltB D4;rw[Bool.eq_iff_iff];simp;omega
 rw[e] at k
 exact k
theorem nMul (a b:Int) (w:World) (ha:In a) (hb:In b):CC 100 #[NV a,NV b] w (WV (a*b)):=by
 have k:=Mul_any _ _ _ _ _ _ _ _ w (W_D0 a) (W_D1 a) (W_D2 a) (W_D3 a) (W_D0 b) (W_D1 b) (W_D2 b) (W_D3 b)
 simp only[V_In ha,V_In hb] at k
 exact k
theorem Tv (n m:Int) (w:World) (hn:InW n) (hm:In m) (h:m≠0):CC 72 #[WV n,NV m] w (.tuple #[WV (n/m),NV (n%m),.int .i64 0]):=by
 have k:=Divide_1 _ _ _ _ _ _ _ _ _ _ _ _ w (W_D0 n) (W_D1 n) (W_D2 n) (W_D3 n) (W_D0 (D4 n)) (W_D1 (D4 n)) (W_D2 (D4 n)) (W_D3 (D4 n)) (W_D0 m) (W_D1 m) (W_D2 m) (W_D3 m) (by rw[V_In hm];exact h)
 simp only[V_In hm,V_InW hn] at k
 exact k
theorem W9 (n:Int) (w:World) (hn:In n):CC 62 #[NV n] w (WV n):=by
 rw[WV_In hn];exact Widen_any _ _ _ _ w
theorem Vj {k:Int} (h0:0<=k) (h1:k<18446744073709551616):NV k=A4 k 0 0 0:=by
 have e0:D0 k=k:=by unfold D0;omega
 have e1:D1 k=0:=by unfold D1;omega
 have e2:D2 k=0:=by unfold D2;omega
 have e3:D3 k=0:=by unfold D3;omega
 rw[NV,e0,e1,e2,e3]
theorem nOf (k:Int) (w:World) (h0:0<=k) (h1:k<18446744073709551616):CC 55 #[.int .u64 k] w (NV k):=by
 rw[Vj h0 h1];exact of_any k w
def wordOf (a b c d i:Int):Int:=if i/64=0 then a else if i/64=1 then b else if i/64=2 then c else d
def bitv (a b c d i:Int):Bool:=decide (0<=i)&&decide (i<256)&&(wordOf a b c d i/2^(i%64).toNat%2==1)
theorem and1 (x:Int) (h:W64 x):bits .and .u64 x 1=x%2:=by
 obtain⟨h1,h2⟩:=h
 obtain⟨x,rfl⟩:=Int.eq_ofNat_of_zero_le h1
 have e:=bits_and_u64_nat x 1 (by omega) (by omega)
 have f:x&&&1=x%2:=Nat.and_two_pow_sub_one_eq_mod x 1
 rw[f] at e
 exact e.trans (by omega)
theorem W_shr (x:Int) (n:Nat) (hx:W64 x):W64 (x/2^n):=by
 obtain⟨x1,x2⟩:=hx
 have p:(0:Int)<2^n:=Int.pow_pos (by omega)
 have h1:0<=x/2^n:=Int.ediv_nonneg x1 (by omega)
 have h2:x/2^n<=x:=Int.ediv_le_self _ x1
 exact⟨h1,by omega⟩
theorem bit_out (a b c d i:Int) (w:World) (h:i<0\/256<=i):
 CC 89 #[A4 a b c d,.int .i64 i] w (.bool false):=by
 by_cases h0:i<0
 ·go_enter Tryz.func89,Tryz.ntmps89
  go_wp2
  go_ret
  exact⟨rfl,by go_grown⟩
 ·have h1:256<=i:=by omega
  go_enter Tryz.func89,Tryz.ntmps89
  go_wp2
  go_ret
  exact⟨rfl,by go_grown⟩
theorem bit_in0 (a b c d i r:Int) (w:World) (hx:W64 a) (h0:0<=i) (h1:i<256) (hk:i/64=0) (hr:i%64=r) (r0:0<=r) (r1:r<=63):
 CC 89 #[A4 a b c d,.int .i64 i] w (.bool (a/2^r.toNat%2==1)):=by
 have ha:=and1 _ (W_shr a r.toNat hx)
 go_enter Tryz.func89,Tryz.ntmps89
 go_wp2
 go_ret
 exact⟨rfl,by go_grown⟩
theorem bit_in1 (a b c d i r:Int) (w:World) (hx:W64 b) (h0:0<=i) (h1:i<256) (hk:i/64=1) (hr:i%64=r) (r0:0<=r) (r1:r<=63):
 CC 89 #[A4 a b c d,.int .i64 i] w (.bool (b/2^r.toNat%2==1)):=by
 have ha:=and1 _ (W_shr b r.toNat hx)
 go_enter Tryz.func89,Tryz.ntmps89
 go_wp2
 go_ret
 exact⟨rfl,by go_grown⟩
theorem bit_in2 (a b c d i r:Int) (w:World) (hx:W64 c) (h0:0<=i) (h1:i<256) (hk:i/64=2) (hr:i%64=r) (r0:0<=r) (r1:r<=63):
 CC 89 #[A4 a b c d,.int .i64 i] w (.bool (c/2^r.toNat%2==1)):=by
 have ha:=and1 _ (W_shr c r.toNat hx)
 go_enter Tryz.func89,Tryz.ntmps89
 go_wp2
 go_ret
 exact⟨rfl,by go_grown⟩
theorem bit_in3 (a b c d i r:Int) (w:World) (hx:W64 d) (h0:0<=i) (h1:i<256) (hk:i/64=3) (hr:i%64=r) (r0:0<=r) (r1:r<=63):
 CC 89 #[A4 a b c d,.int .i64 i] w (.bool (d/2^r.toNat%2==1)):=by
 have ha:=and1 _ (W_shr d r.toNat hx)
 go_enter Tryz.func89,Tryz.ntmps89
 go_wp2
 go_ret
 exact⟨rfl,by go_grown⟩
theorem Bit_any (a b c d i:Int) (w:World) (ha:W64 a) (hb:W64 b) (hc:W64 c) (hd:W64 d):
 CC 89 #[A4 a b c d,.int .i64 i] w (.bool (bitv a b c d i)):=by
 by_cases h:i<0\/256<=i
 ·have e:bitv a b c d i=false:=by
   unfold bitv;rcases h with h | h
   ·simp;omega
   ·simp;omega
  rw[e];exact bit_out a b c d i w h
 ·have h0:0<=i:=by omega
  have h1:i<256:=by omega
  have hc4:i/64=0\/i/64=1\/i/64=2\/i/64=3:=by omega
  unfold bitv wordOf
  simp only[h0,h1,decide_true,Bool.true_and]
  rcases hc4 with hk | hk | hk | hk
  ·rw[hk];exact bit_in0 a b c d i (i%64) w ha h0 h1 hk rfl (by omega) (by omega)
  ·rw[hk];exact bit_in1 a b c d i (i%64) w hb h0 h1 hk rfl (by omega) (by omega)
  ·rw[hk];exact bit_in2 a b c d i (i%64) w hc h0 h1 hk rfl (by omega) (by omega)
  ·rw[hk];exact bit_in3 a b c d i (i%64) w hd h0 h1 hk rfl (by omega) (by omega)
def lenI (e:Int):Int:=blen (D0 e) (D1 e) (D2 e) (D3 e)
def bitI (e i:Int):Bool:=decide (e/2^i.toNat%2=1)
theorem nLen (e:Int) (w:World):CC 102 #[NV e] w (.int .i64 (lenI e)):=
 Tw _ _ _ _ w (W_D0 e) (W_D1 e) (W_D2 e) (W_D3 e)
theorem lenI_bd (e:Int):0<=lenI e/\lenI e<=256:=by
 have a:=T7 _ (W_D0 e);have b:=T7 _ (W_D1 e);have c:=T7 _ (W_D2 e);have d:=T7 _ (W_D3 e)
 unfold lenI blen
 repeat' split
 all_goals omega
theorem bl_lt (x:Int) (h:W64 x) (h0:x≠0):x+1<=2^(bl x).toNat:=by
 obtain⟨h1,h2⟩:=h
 obtain⟨n,rfl⟩:=Int.eq_ofNat_of_zero_le h1
 have:=(Vi 64 n (by omega) (by omega) (by omega)).2.2
 unfold bl
 simp only[Int.toNat_natCast]
 have e:((2^Lib.bitLen n:Nat):Int)=(2:Int)^Lib.bitLen n:=by simp
 omega
theorem top_lt (x k:Int) (h:W64 x) (h0:x≠0) (hk:0<=k):(x+1)*2^k.toNat<=2^(k+bl x).toNat:=by
 have hb:=T7 x h
 rw[Int.toNat_add hk hb.1,Int.pow_add,Int.mul_comm]
 exact Int.mul_le_mul_of_nonneg_left (bl_lt x h h0) (Int.le_of_lt (Int.pow_pos (by decide)))
theorem lenI_lt {e:Int} (he:In e):e<2^(lenI e).toNat:=by
 have a:=W_D0 e;have b:=W_D1 e;have c:=W_D2 e;have d:=W_D3 e
 have hv:=V_In he
 have ha:=a;have hb:=b;have hc:=c;have hd:=d
 unfold W64 at a b c d
 unfold lenI blen
 unfold V at hv
 split
 ·have:=top_lt _ 192 hd ‹_› (by decide)
  have e2:((2:Int)^(192:Int).toNat)=6277101735386680763835789423207666416102355444464034512896:=by decide
  rw[e2] at this
  omega
 ·split
  ·have:=top_lt _ 128 hc ‹_› (by decide)
   have e2:((2:Int)^(128:Int).toNat)=340282366920938463463374607431768211456:=by decide
   rw[e2] at this
   omega
  ·split
   ·have:=top_lt _ 64 hb ‹_› (by decide)
    have e2:((2:Int)^(64:Int).toNat)=18446744073709551616:=by decide
    rw[e2] at this
    omega
   ·split
    ·have:=bl_lt _ ha ‹_›
     omega
    ·have:e=0:=by omega
     rw[this];decide
theorem bit_mod (x:Int) (r:Nat) (hr:r<64):x%18446744073709551616/2^r%2=x/2^r%2:=by
 have e:=Int.mul_ediv_add_emod x 18446744073709551616
 have hp:(18446744073709551616:Int)=2^r*(2*2^(63 -r)):=by
  have:(18446744073709551616:Int)=2^(r+(1+(63 -r))):=by rw[show r+(1+(63 -r))=64 by omega];decide
  rw[this,Int.pow_add,Int.pow_add];simp
 have h2:(2:Int)^r≠0:=Int.ne_of_gt (Int.pow_pos (by decide))
 generalize x/18446744073709551616=q at *
 generalize x%18446744073709551616=s at *
 have hx:x=s+2^r*(2*2^(63 -r)*q):=by rw[<-e,hp];grind
 rw[hx,Int.add_mul_ediv_left _ _ h2,Int.mul_assoc,Int.add_mul_emod_self_left]
theorem bitv_I {e i:Int} (h0:0<=i) (h1:i<256):bitv (D0 e) (D1 e) (D2 e) (D3 e) i=bitI e i:=by
 unfold bitv bitI
 have hr:(i%64).toNat<64:=by omega
 have key: ∀(k:Int),wordOf (D0 e) (D1 e) (D2 e) (D3 e) i=e/2^(64*(i/64)).toNat%18446744073709551616:=fun _=>by
  unfold wordOf
  have h4:i/64=0\/i/64=1\/i/64=2\/i/64=3:=by omega
  rcases h4 with h | h | h | h<;>rw[h]
  ·simp[D0]
  ·have e2:((2:Int)^(64*(1:Int)).toNat)=18446744073709551616:=by decide
   rw[e2];simp[D1]
  ·have e2:((2:Int)^(64*(2:Int)).toNat)=340282366920938463463374607431768211456:=by decide
   rw[e2];simp[D2]
  ·have e2:((2:Int)^(64*(3:Int)).toNat)=6277101735386680763835789423207666416102355444464034512896:=by decide
   rw[e2];simp[D3]
 rw[key 0,bit_mod _ _ hr,Int.ediv_ediv_of_nonneg (Int.le_of_lt (Int.pow_pos (by decide))),<-Int.pow_add,<-Int.toNat_add (by omega) (by omega),show 64*(i/64)+i%64=i by omega]
 simp[h0,h1]
 rw[Bool.eq_iff_iff];simp
theorem nBit (e i:Int) (w:World) (h0:0<=i) (h1:i<256):CC 89 #[NV e,.int .i64 i] w (.bool (bitI e i)):=by
 rw[<-bitv_I h0 h1];exact Bit_any _ _ _ _ i w (W_D0 e) (W_D1 e) (W_D2 e) (W_D3 e)
theorem top_step (e:Int) (he:0<=e) (k:Nat):e/2^k=2*(e/2^(k+1))+(if bitI e k then 1 else 0):=by
 unfold bitI
 rw[Int.toNat_natCast,Int.pow_succ,<-Int.ediv_ediv_of_nonneg (Int.le_of_lt (Int.pow_pos (by decide)))]
 generalize e/2^k=q
 by_cases h:q%2=1<;>simp[h]<;>omega
def byp (a b c d:Int) (p:Nat):Int:=(if p/8=0 then a else if p/8=1 then b else if p/8=2 then c else d)/2^(p%8*8)%256
def CB (w:World) (n k:Nat) (a b c d:Int):Prop:= ∀j,j<32->w.cell? ⟨n,j,none⟩=some (.int .u8 (if 32<=j+k then byp a b c d (31 -j) else 0))/\w.frozen? ⟨n,j,none⟩=false
theorem CB.below {w w':World} {m n k:Nat} {a b c d:Int} (h:CB w n k a b c d) (hb:Below m w w') (hn:n<m):CB w' n k a b c d:=fun j hj=>by
 rw[hb.cell (p:=⟨n,j,none⟩) hn,hb.frozen (p:=⟨n,j,none⟩) hn];exact h j hj
theorem CB.set {w:World} {n k:Nat} {a b c d:Int} (h:CB w n k a b c d) (hk:k<32) (v:Int) (hv:v=byp a b c d k):CB (w.setCell ⟨n,31 -k,none⟩ (.int .u8 v)) n (k+1) a b c d:=fun j hj=>by
 rw[World.frozen?_setCell]
 obtain⟨hc,hf⟩:=h (31 -k) (by omega)
 by_cases e:j=31 -k
 ·subst e
  refine⟨?_,hf⟩
  rw[if_pos (by omega),show 31 -(31 -k)=k by omega,hv]
  simp[go_sem,hc]
 ·obtain⟨hc',hf'⟩:=h j hj
  refine⟨?_,hf'⟩
  rw[World.cell?_setCell_other _ _ _ _ (by simp<;>omega),hc']
  by_cases g:32<=j+k
  ·rw[if_pos g,if_pos (by omega)]
  ·rw[if_neg g,if_neg (by omega)]
def z32b:Array Value:=Array.replicate 32 (.int .u8 0)
theorem CB.new (w:World) (a b c d:Int):CB (w.alloc (.cells z32b 5)) w.heap.size 0 a b c d:=fun j hj=>by
 have hf:(w.alloc (.cells z32b 5)).frozen? ⟨w.heap.size,j,none⟩=false:=by simp[go_sem]
 refine⟨?_,hf⟩
 rw[cell_of_row _ w.heap.size j _ 5 (0,0) (heap_alloc_new _ _),if_neg (by omega)]
 simp[z32b,hj]
theorem Bytes_any (a b c d:Int) (w:World) (ha:W64 a) (hb:W64 b) (hc:W64 c) (hd:W64 d):
 Calls Tryz.prog 108 #[A4 a b c d] w fun en w'=> ∃g,en= .returned (.slice (some ⟨g,0,none⟩) 32 32)/\CB w' g 32 a b c d/\w.heap.size<=g/\g<w'.heap.size/\Bw w w':=by
 have hmk: ∀w,(Instr.makeSlice 36 (.int .i64 32) (.int .i64 32)).run Tryz.prog w= .ok (.slice (some ⟨w.heap.size,0,none⟩) 32 32) (w.alloc (.cells z32b 5)):=fun _=>by kernel_rfl
 obtain⟨a1,a2⟩:=ha
 obtain⟨b1,b2⟩:=hb
 obtain⟨c1,c2⟩:=hc
 obtain⟨d1,d2⟩:=hd
 go_enter Tryz.func108,Tryz.ntmps108
 go_wp2
 go_loopw [6] (fun i wr=> ∃k:Nat,k<=32/\i= .int .i64 k/\Bw w wr/\w.heap.size+1<wr.heap.size/\C4 wr w.heap.size a b c d/\CB wr (w.heap.size+1) k a b c d) (fun i _=>32 -(intOf i).toNat)
 case atStart=>
  refine⟨0,by omega,rfl,?_,by simp,by unfold C4;simp[go_sem],?_⟩
  ·iterate 6 all_goals (go_grown<;>try with_reducible refine below_drewN ?_ _)
  ·have:=CB.new (w.alloc (.cells #[.int .u64 a,.int .u64 b,.int .u64 c,.int .u64 d] 24)) a b c d
   simpa using this
 case round=>
  obtain⟨k,hk,rfl,hB,hs,hA,hO⟩:=hrel
  by_cases hlt:k<32
  ·have hlt':(k:Int)<32:=by omega
   have hA':=hA
   obtain⟨⟨ac0,ac1,ac2,ac3⟩,_⟩:=hA'
   obtain⟨oc,of⟩:=hO (31 -k) (by omega)
   have hz:(if 32<=31 -k+k then byp a b c d (31 -(31 -k)) else 0)=0:=if_neg (by omega)
   rw[hz] at oc
   clear hz
   have hq:k/8=0\/k/8=1\/k/8=2\/k/8=3:=by omega
   rcases hq with hq | hq | hq | hq
   ·have hq':(k:Int)/8=0:=by omega
    go_wp2
    refine⟨⟨k+1,by omega,by go_num,?_,by simpa using hs,hA.other _ (by simp) _,hO.set hlt _ ?_⟩,by simp[intOf];omega⟩
    ·exact hB.setCell (by show _<=_;simp) _
    ·unfold byp;simp[hq]
   ·have hq':(k:Int)/8=1:=by omega
    go_wp2
    refine⟨⟨k+1,by omega,by go_num,?_,by simpa using hs,hA.other _ (by simp) _,hO.set hlt _ ?_⟩,by simp[intOf];omega⟩
    ·exact hB.setCell (by show _<=_;simp) _
    ·unfold byp;simp[hq]
   ·have hq':(k:Int)/8=2:=by omega
    go_wp2
    refine⟨⟨k+1,by omega,by go_num,?_,by simpa using hs,hA.other _ (by simp) _,hO.set hlt _ ?_⟩,by simp[intOf];omega⟩
    ·exact hB.setCell (by show _<=_;simp) _
    ·unfold byp;simp[hq]
   ·have hq':(k:Int)/8=3:=by omega
    go_wp2
    refine⟨⟨k+1,by omega,by go_num,?_,by simpa using hs,hA.other _ (by simp) _,hO.set hlt _ ?_⟩,by simp[intOf];omega⟩
    ·exact hB.setCell (by show _<=_;simp) _
    ·unfold byp;simp[hq]
  ·have hk32:k=32:=by omega
   subst hk32
   go_wp2
   go_ret
   exact⟨w.heap.size+1,rfl,hO,by omega,hs,hB⟩
theorem cGrow (n:Nat) (w:World) (h0:0<n) (hn:n<=100000):
 Calls Tryz.prog 126 #[.slice none 0 0,.int .i64 (n:Int)] w fun e u=> ∃y,e= .returned y/\PG w.heap.size 1 0 [] u y/\Bw w u:=by
 obtain⟨ti,hti,htm⟩:=Option.map_eq_some_iff.1 infoB
 simp only[Prod.mk.injEq] at htm
 obtain⟨hz,hs,hby⟩:=htm
 have hr:=Lib.run_append_nil_zeros (P:=Tryz.prog) w 36 3 36 5 ti (.int .u8 0) .i64 .i64 Tryz.underlying36 Tryz.underlying3 hti hz n h0 (by omega) (by omega) (by rw[hby];omega)
 have hcap:=grownCap_ge w n 0 5
 obtain⟨c,ec⟩: ∃c,grownCap w n 0 5=c:=⟨_,rfl⟩
 rw[ec] at hr hcap
 obtain⟨cs,ecs⟩: ∃cs:List Value,Builtin.zeroCells (Value.int .u8 0).cells n++Builtin.zeroCells (Value.int .u8 0).cells (c -n)=cs.toArray:=⟨(Builtin.zeroCells (Value.int .u8 0).cells n++Builtin.zeroCells (Value.int .u8 0).cells (c -n)).toList,by simp⟩
 have hcl:cs.length=c:=by
  have:=congrArg Array.size ecs
  rw[Array.size_append,size_zeroCells,size_zeroCells] at this
  simp[Value.cells] at this
  omega
 rw[ecs] at hr
 obtain⟨u,eu⟩: ∃u,w.drew.alloc (.cells cs.toArray 5)=u:=⟨_,rfl⟩
 have hB:Bw w u:=by rw[<-eu];exact Z1 (Z6 w).drew _
 have hC:CV u w.heap.size cs:=by rw[<-eu];exact CV.new w.drew cs 5
 have hlt:w.heap.size<u.heap.size:=by rw[<-eu];simp
 rw[eu] at hr
 clear ec ecs eu hz hs hby hti
 have hC:Hid _:=hC
 have n0: ¬((n:Int)<0):=by omega
 have n1:(0:Int)<(n:Int):=by omega
 have e1:IntKind.i64.wrap ((n:Int) -0)=(n:Int):=by rw[IntKind.wrap_i64];omega
 have e2:IntKind.i64.wrap (n:Int)=(n:Int):=by rw[IntKind.wrap_i64];omega
 go_enter Tryz.func126,Tryz.ntmps126
 go_wp2_with (at_builtin;refine Lib.wpList_append_run _ rfl _ _ 36 3 rfl _ _ rfl rfl _ _ hr ?_)
 exact bodyPost_ret (v:= .slice (some ⟨w.heap.size,0,none⟩) 0 c) (by simp[results,Tryz.results126,go_sem]) rfl ⟨_,rfl,⟨_,c,cs,rfl,Nat.le_refl _,hlt,Nat.zero_le _,by omega,(by rw[List.nil_append];exact hC.out)⟩,hB⟩
theorem cConcat2 (gl n1 n2 c1 c2:Nat) (s1 s2:Option Addr) (xs ys:List Nat) (w:World) (h1:w.cell? ⟨gl,0,none⟩=some (.slice s1 n1 c1)) (h2:w.cell? ⟨gl,1,none⟩=some (.slice s2 n2 c2)) (hgl:gl<w.heap.size) (i1:IN w w.heap.size (.slice s1 n1 c1) xs) (i2:IN w w.heap.size (.slice s2 n2 c2) ys) (hx:xs.length=n1) (hy:ys.length=n2) (hp:0<n1) (hle:n1+n2<=10000):
 Calls Tryz.prog 109 #[.slice (some ⟨gl,0,none⟩) 2 2] w fun e u=> ∃y,e= .returned y/\PG w.heap.size 1 (n1+n2) (U8 (xs++ys)) u y/\Bw w u:=by
 have hG:=cGrow (n1+n2) w (by omega) (by omega)
 rw[Int.natCast_add] at hG
 have q1:Hid (∀u,Bw w u->NW n1 (U8 xs) u (.slice s1 n1 c1)):=fun u hB=>by subst hx;exact IN_NW (IN.below i1 hB)
 have q2:Hid (∀u,Bw w u->NW n2 (U8 ys) u (.slice s2 n2 c2)):=fun u hB=>by subst hy;exact IN_NW (IN.below i2 hB)
 clear i1 i2
 have hx:Hid _:=hx
 have hy:Hid _:=hy
 have a1:IntKind.i64.wrap (n1:Int)=(n1:Int):=by rw[IntKind.wrap_i64];omega
 have a2:IntKind.i64.wrap (0+(n1:Int))=(n1:Int):=by rw[IntKind.wrap_i64];omega
 have a3:IntKind.i64.wrap ((n1:Int)+(n2:Int))=(n1:Int)+(n2:Int):=by rw[IntKind.wrap_i64];omega
 have b1: ¬((n1:Int)<0):=by omega
 have b2: ¬((n1:Int)+(n2:Int)<0):=by omega
 obtain⟨w0,rfl⟩: ∃x,x=w:=⟨_,rfl⟩
 go_enter Tryz.func109,Tryz.ntmps109
 go_wp2_with fail
 go_loopw [3,11] (fun s3 s11 wr=>wr=w0/\((s11= .int .i64 0/\s3= .int .i64 0)\/(s11= .int .i64 1/\s3= .int .i64 (n1:Int))\/(s11= .int .i64 2/\s3= .int .i64 ((n1:Int)+(n2:Int))))) (fun _ s11 _=>2 -(intOf s11).toNat)
 case atStart=>exact⟨rfl,.inl ⟨rfl,rfl⟩⟩
 case round=>
  obtain⟨rfl,⟨rfl,rfl⟩ | ⟨rfl,rfl⟩ | ⟨rfl,rfl⟩⟩:=hrel
  ·go_wp2
   exact⟨⟨by simp,.inr (.inl ⟨by simp,by simp⟩)⟩,by simp[intOf]⟩
  ·go_wp2
   exact⟨⟨by simp,.inr (.inr ⟨by simp,by simp⟩)⟩,by simp[intOf]⟩
  ·obtain⟨wo,rfl⟩: ∃x,x=wr:=⟨_,rfl⟩
   go_wp2_with (go_at_call 126;refine hG.mono ?_;clear hG;rintro e ua ⟨y,rfl,hpg,hBa⟩)
   have hpg:Hid (PG wo.heap.size 1 0 [] ua y):=hpg
   go_loopw [6,27] (fun s6 s27 wr=>Bw wo wr/\((s27= .int .i64 0/\Hid (PG wo.heap.size 1 0 (U8 []) wr s6))\/(s27= .int .i64 1/\Hid (PG wo.heap.size 1 n1 (U8 xs) wr s6))\/(s27= .int .i64 2/\Hid (PG wo.heap.size 1 (n1+n2) (U8 (xs++ys)) wr s6)))) (fun _ s27 _=>2 -(intOf s27).toNat)
   case atStart=>exact⟨hBa,.inl ⟨rfl,hpg⟩⟩
   case round=>
    obtain⟨HBr,⟨rfl,hg⟩ | ⟨rfl,hg⟩ | ⟨rfl,hg⟩⟩:=hrel
    ·have k1:wr.cell? ⟨gl,0,none⟩=some (.slice s1 n1 c1):=(HBr.cell (p:=⟨gl,0,none⟩) hgl).trans h1
     have hnw:=q1.out wr HBr
     obtain⟨v,u,b,r,hb,hgr,hq⟩:=app_PG (ty:=36) (lo:=wo.heap.size) (xs:=[]) (n:=0) HBr.size rfl hx.out (by omega) hnw hg.out
     have hB2:=HBr.grown hgr HBr.size (fun j e=>by cases e;exact hb)
     rw[List.nil_append,Nat.zero_add] at hq
     have hq0:=hq
     have hq:Hid _:=hq
     obtain⟨b',c',z',rfl,-⟩:=hq0
     have hg0:=hg.out
     obtain⟨b2,c2',z2,rfl,-⟩:=hg0
     clear hgr hnw
     go_wp2_with (at_builtin;refine Xc rfl _ _ 36 rfl _ _ _ rfl rfl r ?_;clear r)
     exact⟨⟨hB2,.inr (.inl ⟨by simp,hq⟩)⟩,by simp[intOf]⟩
    ·have k1:wr.cell? ⟨gl,1,none⟩=some (.slice s2 n2 c2):=(HBr.cell (p:=⟨gl,1,none⟩) hgl).trans h2
     have hnw:=q2.out wr HBr
     obtain⟨v,u,b,r,hb,hgr,hq⟩:=app_PG (ty:=36) (lo:=wo.heap.size) HBr.size hx.out hy.out (by omega) hnw hg.out
     have hB2:=HBr.grown hgr HBr.size (fun j e=>by cases e;exact hb)
     have hq0:=hq
     have hq:Hid _:=hq
     obtain⟨b',c',z',rfl,-⟩:=hq0
     have hg0:=hg.out
     obtain⟨b2,c2',z2,rfl,-⟩:=hg0
     clear hgr hnw
     go_wp2_with (at_builtin;refine Xc rfl _ _ 36 rfl _ _ _ rfl rfl r ?_;clear r)
     exact⟨⟨hB2,.inr (.inr ⟨by simp,hq⟩)⟩,by simp[intOf]⟩
    ·have hg0:=hg.out
     obtain⟨b2,c2',z2,rfl,-⟩:=hg0
     go_wp2
     exact bodyPost_ret (v:= .slice (some ⟨b2,0,none⟩) (n1+n2) c2') (by simp[results,Tryz.results109,go_sem]) rfl ⟨_,rfl,hg.out,HBr⟩
end
section
def bv (xs:List Int) (p:Nat):Int:=xs.getD (xs.length -1 -p) 0
def Tk (xs:List Int) (q:Nat):Nat->Int
 | 0=>0
 | k+1=>Tk xs q k+if k/8=q then bv xs k*2^(k%8*8) else 0
def Ub (xs:List Int):Prop:= ∀x∈xs,0<=x/\x<256
theorem bv_bd (xs:List Int) (h:Ub xs) (p:Nat):0<=bv xs p/\bv xs p<256:=by
 unfold bv
 by_cases hl:xs.length -1 -p<xs.length
 ·rw[List.getD_eq_getElem?_getD,List.getElem?_eq_getElem hl,Option.getD_some];exact h _ (List.getElem_mem hl)
 ·rw[List.getD_eq_getElem?_getD,List.getElem?_eq_none (by omega)];simp
theorem Tk_lo (xs:List Int) (q:Nat): ∀k,k<=8*q->Tk xs q k=0
 | 0,_=>rfl
 | k+1,h=>by
  unfold Tk
  rw[Tk_lo xs q k (by omega),if_neg (by omega)];omega
theorem Tk_mid (xs:List Int) (h:Ub xs) (q:Nat): ∀k,8*q<=k->k<=8*q+8->0<=Tk xs q k/\Tk xs q k<2^((k -8*q)*8)
 | 0,h1,h2=>by
  have:q=0:=by omega
  subst this;unfold Tk;simp
 | k+1,h1,h2=>by
  by_cases e:8*q<=k
  ·obtain⟨i1,i2⟩:=Tk_mid xs h q k e (by omega)
   have b:=bv_bd xs h k
   unfold Tk
   rw[if_pos (by omega),show (k+1 -8*q)*8=(k -8*q)*8+8 by omega,Int.pow_add,show k%8*8=(k -8*q)*8 by omega]
   have p:=Zp ((k -8*q)*8)
   generalize (2:Int)^((k -8*q)*8)=s at *
   have m1:0<=bv xs k*s:=Int.mul_nonneg b.1 (by omega)
   have m2:bv xs k*s<=255*s:=Int.mul_le_mul_of_nonneg_right (by omega) (by omega)
   have m3:s*2^8=256*s:=by rw[Int.mul_comm];rfl
   omega
  ·have e2:8*q=k+1:=by omega
   rw[Tk_lo xs q (k+1) (by omega),show k+1 -8*q=0 by omega];simp
theorem Tk_hi (xs:List Int) (q:Nat): ∀k,8*q+8<=k->Tk xs q k=Tk xs q (8*q+8)
 | 0,h=>by omega
 | k+1,h=>by
  by_cases e:8*q+8=k+1
  ·rw[e]
  ·have:=Tk_hi xs q k (by omega)
   show Tk xs q k+_=_
   rw[if_neg (by omega),this];omega
theorem Tk_W (xs:List Int) (h:Ub xs) (q k:Nat):W64 (Tk xs q k):=by
 by_cases h1:k<=8*q
 ·rw[Tk_lo xs q k h1];exact⟨by omega,by omega⟩
 ·by_cases h2:k<=8*q+8
  ·obtain⟨i1,i2⟩:=Tk_mid xs h q k (by omega) h2
   refine⟨i1,?_⟩
   have e:(18446744073709551616:Int)=2^((k -8*q)*8)*2^(64 -(k -8*q)*8):=by
    rw[<-Int.pow_add,show (k -8*q)*8+(64 -(k -8*q)*8)=64 by omega];rfl
   have p:=Zp (64 -(k -8*q)*8)
   have m:=Int.mul_le_mul_of_nonneg_left (show (1:Int)<=2^(64 -(k -8*q)*8) by omega) (Int.le_of_lt (Zp ((k -8*q)*8)))
   rw[e];omega
  ·rw[Tk_hi xs q k (by omega)]
   obtain⟨i1,i2⟩:=Tk_mid xs h q (8*q+8) (by omega) (by omega)
   refine⟨i1,?_⟩
   rw[show (8*q+8 -8*q)*8=64 by omega] at i2
   exact i2
theorem Tk_or (xs:List Int) (h:Ub xs) (k q:Nat) (hq:k/8=q):bits .or .u64 (Tk xs q k) (IntKind.u64.wrap (bv xs k*2^(k%8*8)))=Tk xs q (k+1):=by
 obtain⟨i1,i2⟩:=Tk_mid xs h q k (by omega) (by omega)
 rw[show (k -8*q)*8=k%8*8 by omega] at i2
 have b:=bv_bd xs h k
 have wn:=Tk_W xs h q (k+1)
 have e:Tk xs q (k+1)=Tk xs q k+bv xs k*2^(k%8*8):=by
  show Tk xs q k+_=_
  rw[if_pos hq]
 have m1:0<=bv xs k*2^(k%8*8):=Int.mul_nonneg b.1 (Int.le_of_lt (Zp _))
 rw[e] at wn⊢
 rw[IntKind.wrap_u64,Int.emod_eq_of_lt m1 (by have:=wn.2;omega)]
 exact or_int _ _ (k%8*8) ⟨i1,i2⟩ b.1 wn.2
theorem Xy (xs:List Int) (k q:Nat) (hq:k/8≠q):Tk xs q (k+1)=Tk xs q k:=by
 show Tk xs q k+_=_
 rw[if_neg hq];omega
def dv (xs:List Int) (p:Nat):Int:=xs.getD (xs.length -1 -p) 0
def Uk (xs:List Int) (q:Nat):Nat->Int
 | 0=>0
 | k+1=>Uk xs q k+if k/16=q then dv xs k*2^(k%16*4) else 0
def Digs (xs:List Int):Prop:= ∀x∈xs,0<=x/\x<16
theorem dv_bd (xs:List Int) (h:Digs xs) (p:Nat):0<=dv xs p/\dv xs p<16:=by
 unfold dv
 by_cases hl:xs.length -1 -p<xs.length
 ·rw[List.getD_eq_getElem?_getD,List.getElem?_eq_getElem hl,Option.getD_some];exact h _ (List.getElem_mem hl)
 ·rw[List.getD_eq_getElem?_getD,List.getElem?_eq_none (by omega)];simp
theorem Uk_lo (xs:List Int) (q:Nat): ∀k,k<=16*q->Uk xs q k=0
 | 0,_=>rfl
 | k+1,h=>by
  unfold Uk
  rw[Uk_lo xs q k (by omega),if_neg (by omega)];omega
theorem Uk_mid (xs:List Int) (h:Digs xs) (q:Nat): ∀k,16*q<=k->k<=16*q+16->0<=Uk xs q k/\Uk xs q k<2^((k -16*q)*4)
 | 0,h1,h2=>by
  have:q=0:=by omega
  subst this;unfold Uk;simp
 | k+1,h1,h2=>by
  by_cases e:16*q<=k
  ·obtain⟨i1,i2⟩:=Uk_mid xs h q k e (by omega)
   have b:=dv_bd xs h k
   unfold Uk
   rw[if_pos (by omega),show (k+1 -16*q)*4=(k -16*q)*4+4 by omega,Int.pow_add,show k%16*4=(k -16*q)*4 by omega]
   have p:=Zp ((k -16*q)*4)
   generalize (2:Int)^((k -16*q)*4)=s at *
   have m1:0<=dv xs k*s:=Int.mul_nonneg b.1 (by omega)
   have m2:dv xs k*s<=15*s:=Int.mul_le_mul_of_nonneg_right (by omega) (by omega)
   have m3:s*2^4=16*s:=by rw[Int.mul_comm];rfl
   omega
  ·have e2:16*q=k+1:=by omega
   rw[Uk_lo xs q (k+1) (by omega),show k+1 -16*q=0 by omega];simp
theorem Uk_hi (xs:List Int) (q:Nat): ∀k,16*q+16<=k->Uk xs q k=Uk xs q (16*q+16)
 | 0,h=>by omega
 | k+1,h=>by
  by_cases e:16*q+16=k+1
  ·rw[e]
  ·have:=Uk_hi xs q k (by omega)
   show Uk xs q k+_=_
   rw[if_neg (by omega),this];omega
theorem Uk_W (xs:List Int) (h:Digs xs) (q k:Nat):W64 (Uk xs q k):=by
 by_cases h1:k<=16*q
 ·rw[Uk_lo xs q k h1];exact⟨by omega,by omega⟩
 ·by_cases h2:k<=16*q+16
  ·obtain⟨i1,i2⟩:=Uk_mid xs h q k (by omega) h2
   refine⟨i1,?_⟩
   have e:(18446744073709551616:Int)=2^((k -16*q)*4)*2^(64 -(k -16*q)*4):=by
    rw[<-Int.pow_add,show (k -16*q)*4+(64 -(k -16*q)*4)=64 by omega];rfl
   have p:=Zp (64 -(k -16*q)*4)
   have m:=Int.mul_le_mul_of_nonneg_left (show (1:Int)<=2^(64 -(k -16*q)*4) by omega) (Int.le_of_lt (Zp ((k -16*q)*4)))
   rw[e];omega
  ·rw[Uk_hi xs q k (by omega)]
   obtain⟨i1,i2⟩:=Uk_mid xs h q (16*q+16) (by omega) (by omega)
   refine⟨i1,?_⟩
   rw[show (16*q+16 -16*q)*4=64 by omega] at i2
   exact i2
theorem Zv (xs:List Int) (k q:Nat) (hq:k/16≠q):Uk xs q (k+1)=Uk xs q k:=by
 show Uk xs q k+_=_
 rw[if_neg hq];omega
theorem Uk_mono (xs:List Int) (h:Digs xs) (q:Nat): ∀k n,k<=n->Uk xs q k<=Uk xs q n
 | k,0,hk=>by
  have:k=0:=by omega
  subst this;exact Int.le_refl _
 | k,n+1,hk=>by
  by_cases e:k=n+1
  ·subst e;exact Int.le_refl _
  ·have i:=Uk_mono xs h q k n (by omega)
   have b:=dv_bd xs h n
   have m:0<=dv xs n*2^(n%16*4):=Int.mul_nonneg b.1 (Int.le_of_lt (Zp _))
   show Uk xs q k<=Uk xs q n+_
   split<;>omega
theorem Sf (xs:List Int) (h:Digs xs) (k n q:Nat) (hk:k<n) (hq:k/16=q):IntKind.u64.wrap (Uk xs q n -Uk xs q (k+1)+dv xs k*2^(k%16*4))=Uk xs q n -Uk xs q k:=by
 have e:Uk xs q (k+1)=Uk xs q k+dv xs k*2^(k%16*4):=by
  show Uk xs q k+_=_
  rw[if_pos hq]
 have m:=Uk_mono xs h q k n (by omega)
 have z:=Uk_mono xs h q 0 k (by omega)
 have wn:=Uk_W xs h q n
 have z0:Uk xs q 0=0:=rfl
 rw[IntKind.wrap_u64,e,show Uk xs q n -(Uk xs q k+dv xs k*2^(k%16*4))+dv xs k*2^(k%16*4)=Uk xs q n -Uk xs q k by omega]
 exact Int.emod_eq_of_lt (by omega) (by have:=wn.2;omega)
end
section
open Go.RowKit
def ixv (c:Int):Int:=if 48<=c/\c<=57 then c -48 else if 97<=c/\c<=102 then c -87 else -1
theorem ixv_bd (c:Int): -1<=ixv c/\ixv c<16:=by unfold ixv;split<;>(try split)<;>omega
theorem str_ix (cs:List Int) (hb:Ub cs) (j:Nat) (hj:j<cs.length) (W:World):(Instr.index 9 (.string (strOfNums cs)) (.int .i64 j)).run Tryz.prog W= .ok (.int .u8 (cs.getD j 0)) W:=by
 have hx:=hb (cs[j]) (List.getElem_mem hj)
 have hs:(strOfNums cs).size=cs.length:=strOfNums_size cs
 have hd:(strOfNums cs).data.toList=cs.map fun n=>UInt8.ofNat n.toNat:=strOfNums_data cs
 have hg: ∀h,((strOfNums cs)[j]'h).toNat=(cs[j]).toNat:=fun h=>by
  show (((strOfNums cs).data[j]'_).toNat)=_
  simp only[<-Array.getElem_toList,hd,List.getElem_map]
  simp;omega
 simp[Instr.index,go_sem,Tryz.underlying9,hs,hj]
 rw[hg];simp[List.getElem?_eq_getElem hj];omega
def isT (cs:List Int):Bool:=!(cs.length==0)&&!(cs.getD 0 0==48&&decide (1<cs.length))&&cs.all fun c=>decide (0<=ixv c)
theorem isT_all {cs:List Int} {k:Nat} (h: ∀j,j<k->0<=ixv (cs.getD j 0)) (hk:cs.length=k):(cs.all fun c=>decide (0<=ixv c))=true:=by
 rw[List.all_eq_true];intro x hx
 obtain⟨j,hj,rfl⟩:=List.mem_iff_getElem.1 hx
 have:=h j (by omega)
 simpa [List.getElem?_eq_getElem hj] using this
theorem isT_not {cs:List Int} {k:Nat} (hk:k<cs.length) (h:ixv (cs.getD k 0)<0):isT cs=false:=by
 have:(cs.all fun c=>decide (0<=ixv c))=false:=by
  rw[List.all_eq_false]
  refine⟨cs[k],List.getElem_mem hk,?_⟩
  simp[List.getElem?_eq_getElem hk] at h
  simp;omega
 unfold isT;rw[this];simp
theorem isT_digs {cs:List Int} (h:isT cs=true):Digs (cs.map ixv):=fun x hx=>by
 obtain⟨c,hc,rfl⟩:=List.mem_map.1 hx
 unfold isT at h
 simp only[Bool.and_eq_true,List.all_eq_true,decide_eq_true_eq] at h
 exact⟨h.2 c hc,(ixv_bd c).2⟩
def SBL (w:World) (g o:Nat) (xs:List Int):Prop:= ∀j,j<xs.length->w.cell? ⟨g,o+j,none⟩=some (.int .u8 (xs.getD j 0))
theorem SBL.below {w w':World} {m g o:Nat} {xs:List Int} (h:SBL w g o xs) (hb:Below m w w') (hg:g<m):SBL w' g o xs:=fun j hj=>(hb.cell (p:=⟨g,o+j,none⟩) hg).trans (h j hj)
theorem Read_any (g o cap:Nat) (xs:List Int) (w:World) (hn:xs.length<=32) (hx:Ub xs) (hg:g<w.heap.size) (hS:SBL w g o xs):
 CC 82 #[.slice (some ⟨g,o,none⟩) xs.length cap] w (.tuple #[A4 (Tk xs 0 xs.length) (Tk xs 1 xs.length) (Tk xs 2 xs.length) (Tk xs 3 xs.length),.int .i64 0]):=by
 obtain⟨n,en⟩: ∃n,xs.length=n:=⟨_,rfl⟩
 have hn': ¬(32:Int)<(n:Int):=by omega
 have hn2:(n:Int)<=32:=by omega
 rw[en]
 have EN:Hid _:=en
 clear en
 go_enter Tryz.func82,Tryz.ntmps82
 go_wp2
 go_loopw [12] (fun i wr=> ∃k:Nat,k<=n/\i= .int .i64 k/\Bw w wr/\w.heap.size+1<wr.heap.size/\C4 wr w.heap.size 0 0 0 0/\C4 wr (w.heap.size+1) (Tk xs 0 k) (Tk xs 1 k) (Tk xs 2 k) (Tk xs 3 k)) (fun i _=>n -(intOf i).toNat)
 case atStart=>
  refine⟨0,by omega,rfl,?_,by simp,by unfold C4;simp[go_sem],by unfold C4;simp[go_sem,Tk]⟩
  iterate 6 all_goals (go_grown<;>try with_reducible refine below_drewN ?_ _)
 case round=>
  obtain⟨k,hk,rfl,hB,hs,hR,hA⟩:=hrel
  by_cases hlt:k<n
  ·have hlt':(k:Int)<(n:Int):=by omega
   have hA':=hA
   obtain⟨⟨ac0,ac1,ac2,ac3⟩,af0,af1,af2,af3⟩:=hA'
   have hc:=(hS.below hB hg) (n -1 -k) (by have:=EN.out;omega)
   have hxe:xs.getD (n -1 -k) 0=bv xs k:=by unfold bv;rw[EN.out]
   have hxb:=bv_bd xs hx k
   rw[hxe] at hc
   have T0:Hid _:=fun hq=>Tk_or xs hx k 0 hq
   have T1:Hid _:=fun hq=>Tk_or xs hx k 1 hq
   have T2:Hid _:=fun hq=>Tk_or xs hx k 2 hq
   have T3:Hid _:=fun hq=>Tk_or xs hx k 3 hq
   obtain⟨x,ex⟩: ∃x,bv xs k=x:=⟨_,rfl⟩
   rw[ex] at hc hxb
   obtain⟨x0,x1⟩:=hxb
   have EX:Hid _:=ex
   clear hxe ex
   have hq:k/8=0\/k/8=1\/k/8=2\/k/8=3:=by omega
   rcases hq with hq | hq | hq | hq
   ·have hq':(k:Int)/8=0:=by omega
    have HQ:Hid _:=hq
    clear hq
    generalize wr=u at *
    go_wp2
    go_region
    go_wp2
    refine⟨⟨k+1,by omega,by go_num,?_,by simpa using hs,hR.other _ (by simp<;>omega) _,?_⟩,by simp[intOf];omega⟩
    ·iterate 6 all_goals (go_grown<;>try with_reducible refine below_drewN ?_ _)
    ·have ht:=T0.out HQ.out
     rw[EX.out] at ht
     have hf:=HQ.out
     rw[<-ht,Xy xs k 1 (by omega),Xy xs k 2 (by omega),Xy xs k 3 (by omega)]
     exact(hA.set0 _)
   ·have hq':(k:Int)/8=1:=by omega
    have HQ:Hid _:=hq
    clear hq
    generalize wr=u at *
    go_wp2
    go_region
    go_wp2
    refine⟨⟨k+1,by omega,by go_num,?_,by simpa using hs,hR.other _ (by simp<;>omega) _,?_⟩,by simp[intOf];omega⟩
    ·iterate 6 all_goals (go_grown<;>try with_reducible refine below_drewN ?_ _)
    ·have ht:=T1.out HQ.out
     rw[EX.out] at ht
     have hf:=HQ.out
     rw[<-ht,Xy xs k 0 (by omega),Xy xs k 2 (by omega),Xy xs k 3 (by omega)]
     exact(hA.set1 _)
   ·have hq':(k:Int)/8=2:=by omega
    have HQ:Hid _:=hq
    clear hq
    generalize wr=u at *
    go_wp2
    go_region
    go_wp2
    refine⟨⟨k+1,by omega,by go_num,?_,by simpa using hs,hR.other _ (by simp<;>omega) _,?_⟩,by simp[intOf];omega⟩
    ·iterate 6 all_goals (go_grown<;>try with_reducible refine below_drewN ?_ _)
    ·have ht:=T2.out HQ.out
     rw[EX.out] at ht
     have hf:=HQ.out
     rw[<-ht,Xy xs k 0 (by omega),Xy xs k 1 (by omega),Xy xs k 3 (by omega)]
     exact(hA.set2 _)
   ·have hq':(k:Int)/8=3:=by omega
    have HQ:Hid _:=hq
    clear hq
    generalize wr=u at *
    go_wp2
    go_region
    go_wp2
    refine⟨⟨k+1,by omega,by go_num,?_,by simpa using hs,hR.other _ (by simp<;>omega) _,?_⟩,by simp[intOf];omega⟩
    ·iterate 6 all_goals (go_grown<;>try with_reducible refine below_drewN ?_ _)
    ·have ht:=T3.out HQ.out
     rw[EX.out] at ht
     have hf:=HQ.out
     rw[<-ht,Xy xs k 0 (by omega),Xy xs k 1 (by omega),Xy xs k 2 (by omega)]
     exact(hA.set3 _)
  ·have hkn:k=n:=by omega
   subst hkn
   obtain⟨⟨ac0,ac1,ac2,ac3⟩,_⟩:=hA
   obtain⟨⟨rc0,rc1,rc2,rc3⟩,rf0,rf1,rf2,rf3⟩:=hR
   have y0:w.heap.size<wr.heap.size:=by omega
   go_wp2
   refine bodyPost_ret (v:= .tuple #[A4 (Tk xs 0 k) (Tk xs 1 k) (Tk xs 2 k) (Tk xs 3 k),.int .i64 0]) (by simp[results,Tryz.results82,go_sem, *]) rfl ⟨rfl,?_⟩
   iterate 6 all_goals (go_grown<;>try with_reducible refine below_drewN ?_ _)
section
section
variable {R:Rg} {P:Program} {ops:Array Oper} {Q:Exit->Act->World->Prop} {f:Nat->Bool} {t:Nat->Value} {u:World} {a:Act} {i:Nat} {o:Oper}
end
theorem Wa (T:TypeId) (p q:Operand) (x y:Int) (b:Bool) (w:World) (h:(x==y)=b):(do eqGuard .eql T p q (.int .i64 x) (.int .i64 y);binOp .eql T (.int .i64 x) (.int .i64 y):Sem Value).run Tryz.prog w= .ok (.bool b) w:=by
 subst h;go_simp
end
section
variable {lo:Nat} {w u v:World} {base:Nat} {ks:List (Nat×List Value)} {ex:List (Nat×Bool×List Value×List Value)} {nw:List (Bool×Bool×Value×List Value×List Value)}
end
section
section
variable {P:Program} {ops:Array Oper} {Q:Exit->Act->World->Prop} {id:Nat} {w:World} {fr:List Value}
end
abbrev LN (n:Int):List Value:=[.int .u64 (D0 n),.int .u64 (D1 n),.int .u64 (D2 n),.int .u64 (D3 n)]
abbrev LW (n:Int):List Value:=[.int .u64 (D0 n),.int .u64 (D1 n),.int .u64 (D2 n),.int .u64 (D3 n),.int .u64 (D0 (D4 n)),.int .u64 (D1 (D4 n)),.int .u64 (D2 (D4 n)),.int .u64 (D3 (D4 n))]
abbrev L0s:List Value:=[.int .u64 0,.int .u64 0,.int .u64 0,.int .u64 0]
abbrev L0w:List Value:=[.int .u64 0,.int .u64 0,.int .u64 0,.int .u64 0,.int .u64 0,.int .u64 0,.int .u64 0,.int .u64 0]
end
section
section
variable {P:Program} {o:Oper} {a:Act} {w:World} {K:Act->World->Prop} {Q:Exit->Act->World->Prop}
end
end
section
section
variable {P:Program} {ops:Array Oper} {Q:Exit->Act->World->Prop} {i:Nat} {o:Oper} {a:Act} {w:World} {fr:List Value} {S:List Nat} {t:Nat->Value} {I:(Nat->Value)->World->Prop} {d:Nat} {v:Value}
end
section
variable {P:Program} {ops:Array Oper} {Q:Exit->Act->World->Prop} {i:Nat} {o:Oper} {a:Act} {fr:List Value} {S:List Nat} {t:Nat->Value} {I:(Nat->Value)->World->Prop} {d:Nat} {lo base:Nat} {w u:World} {ks:List (Nat×List Value)} {ex:List (Nat×Bool×List Value×List Value)} {nw:List (Bool×Bool×Value×List Value×List Value)}
end
end
end
section
theorem U2:EnT 98:=fun _ _=>by kernel_rfl
theorem Xf:EnT 101:=fun _ _=>by kernel_rfl
theorem Wm:EnT 100:=fun _ _=>by kernel_rfl
theorem Yw:EnT 72:=fun _ _=>by kernel_rfl
theorem Zj:EnT 62:=fun _ _=>by kernel_rfl
theorem Zc:EnT 55:=fun _ _=>by kernel_rfl
theorem ent_limb_Length:EnT 102:=fun _ _=>by kernel_rfl
theorem Wn:EnT 89:=fun _ _=>by kernel_rfl
theorem ent_mod_Sub:EnT 70:=fun _ _=>by kernel_rfl
theorem Ux:EnT 78:=fun _ _=>by kernel_rfl
theorem Zo:EnT 61:=fun _ _=>by kernel_rfl
theorem Uy:EnT 63:=fun _ _=>by kernel_rfl
theorem U0:EnT 41:=fun _ _=>by kernel_rfl
theorem ent_mod_Product:EnT 75:=fun _ _=>by kernel_rfl
theorem ent_mod_gather:EnT 107:=fun _ _=>by kernel_rfl
theorem Uq:EnT 97:=fun _ _=>by kernel_rfl
theorem Vg:EnT 99:=fun _ _=>by kernel_rfl
theorem Up:EnT 69:=fun _ _=>by kernel_rfl
theorem ent_mod_split:EnT 90:=fun _ _=>by kernel_rfl
theorem Tf:EnT 91:=fun _ _=>by kernel_rfl
theorem Tg:EnT 92:=fun _ _=>by kernel_rfl
theorem Wl:EnT 93:=fun _ _=>by kernel_rfl
theorem Sc:EnT 94:=fun _ _=>by kernel_rfl
theorem Um:EnT 117:=fun _ _=>by kernel_rfl
theorem Uo:EnT 118:=fun _ _=>by kernel_rfl
theorem Wb:EnT 136:=fun _ _=>by kernel_rfl
theorem Xx:EnT 119:=fun _ _=>by kernel_rfl
theorem Z9:EnT 44:=fun _ _=>by kernel_rfl
theorem Yq:EnT 45:=fun _ _=>by kernel_rfl
theorem Vq:EnT 80:=fun _ _=>by kernel_rfl
theorem X7:EnT 64:=fun _ _=>by kernel_rfl
theorem Zd:EnT 39:=fun _ _=>by kernel_rfl
theorem Wx:EnT 67:=fun _ _=>by kernel_rfl
theorem Xp:EnT 68:=fun _ _=>by kernel_rfl
theorem Xo:EnT 33:=fun _ _=>by kernel_rfl
theorem Vp:EnT 71:=fun _ _=>by kernel_rfl
theorem Zn:EnT 51:=fun _ _=>by kernel_rfl
theorem Z7:EnT 38:=fun _ _=>by kernel_rfl
theorem Yp:EnT 40:=fun _ _=>by kernel_rfl
theorem Wh:EnT 42:=fun _ _=>by kernel_rfl
theorem Wg:EnT 47:=fun _ _=>by kernel_rfl
theorem Zt:EnT 32:=fun _ _=>by kernel_rfl
theorem al_api_Nat (w:World):(Instr.alloc 24 true (.tuple #[])).run Tryz.prog w= .ok (.pointer (some ⟨w.heap.size,0,none⟩)) (w.alloc (.cells L0s.toArray 24)):=by kernel_rfl
theorem al_api_Wide (w:World):(Instr.alloc 64 true (.tuple #[])).run Tryz.prog w= .ok (.pointer (some ⟨w.heap.size,0,none⟩)) (w.alloc (.cells L0w.toArray 64)):=by kernel_rfl
theorem info_api_Nat:(Tryz.prog.info? 24).map (·.size)=some 4:=by kernel_rfl
theorem info_api_Wide:(Tryz.prog.info? 64).map (·.size)=some 8:=by kernel_rfl
end
section
open Go.RowKit
theorem neq_w (p q:Operand) (a b c d x y z t:Int) (w:World):(do eqGuard .neq 24 p q (A4 a b c d) (A4 x y z t);binOp .neq 24 (A4 a b c d) (A4 x y z t):Sem Value).run Tryz.prog w= .ok (.bool (!eq4 a b c d x y z t)) w:=by
 go_simp
theorem eql_w (p q:Operand) (a b c d x y z t:Int) (w:World):(do eqGuard .eql 24 p q (A4 a b c d) (A4 x y z t);binOp .eql 24 (A4 a b c d) (A4 x y z t):Sem Value).run Tryz.prog w= .ok (.bool (eq4 a b c d x y z t)) w:=by
 go_simp
theorem eq4_N {n m:Int} (hn:In n) (hm:In m):eq4 (D0 n) (D1 n) (D2 n) (D3 n) (D0 m) (D1 m) (D2 m) (D3 m)=decide (n=m):=by
 rw[Bool.eq_iff_iff,eq4_V _ _ _ _ _ _ _ _ (W_D0 _) (W_D1 _) (W_D2 _) (W_D3 _) (W_D0 _) (W_D1 _) (W_D2 _) (W_D3 _),V_In hn,V_In hm];simp
theorem eq4_N0 {n:Int} (hn:In n):eq4 (D0 n) (D1 n) (D2 n) (D3 n) 0 0 0 0=decide (n=0):=by
 have w0:W64 0:=by unfold W64;omega
 rw[Bool.eq_iff_iff,eq4_V _ _ _ _ _ _ _ _ (W_D0 _) (W_D1 _) (W_D2 _) (W_D3 _) w0 w0 w0 w0,V_In hn];simp[V]
theorem neq_n (p q:Operand) {n m:Int} (hn:In n) (hm:In m) (b:Bool) (hb:decide (n=m)=!b) (w:World):(do eqGuard .neq 24 p q (NV n) (NV m);binOp .neq 24 (NV n) (NV m):Sem Value).run Tryz.prog w= .ok (.bool b) w:=by
 rw[neq_w,eq4_N hn hm,hb];simp
theorem neq_0 (p q:Operand) {n:Int} (hn:In n) (b:Bool) (hb:decide (n=0)=!b) (w:World):(do eqGuard .neq 24 p q (NV n) (A4 0 0 0 0);binOp .neq 24 (NV n) (A4 0 0 0 0):Sem Value).run Tryz.prog w= .ok (.bool b) w:=by
 rw[neq_w,eq4_N0 hn,hb];simp
theorem eql_n (p q:Operand) {n m:Int} (hn:In n) (hm:In m) (b:Bool) (hb:decide (n=m)=b) (w:World):(do eqGuard .eql 24 p q (NV n) (NV m);binOp .eql 24 (NV n) (NV m):Sem Value).run Tryz.prog w= .ok (.bool b) w:=by
 rw[eql_w,eq4_N hn hm,hb]
theorem Si (p q:Operand) {n:Int} (hn:In n) (b:Bool) (hb:decide (n=0)=b) (w:World):(do eqGuard .eql 24 p q (NV n) (A4 0 0 0 0);binOp .eql 24 (NV n) (A4 0 0 0 0):Sem Value).run Tryz.prog w= .ok (.bool b) w:=by
 rw[eql_w,eq4_N0 hn,hb]
theorem ld_u64 (w:World) (b k:Nat) (v:Int) (h:w.cell? ⟨b,k,none⟩=some (.int .u64 v)):(Instr.loadAt 22 (.pointer (some ⟨b,k,none⟩))).run Tryz.prog w= .ok (.int .u64 v) w:=by
 go_simp
theorem st_u64 (w:World) (b k:Nat) (v x:Int) (h:w.cell? ⟨b,k,none⟩=some (.int .u64 v)) (hf:w.frozen? ⟨b,k,none⟩=false):(Instr.storeAt 22 (.pointer (some ⟨b,k,none⟩)) (.int .u64 x)).run Tryz.prog w= .ok () (w.setCell ⟨b,k,none⟩ (.int .u64 x)):=by
 go_simp
theorem ix_nat (w:World) (b k:Nat) (h:k<4):(Instr.indexAt 24 (.pointer (some ⟨b,0,none⟩)) (.int .i64 k)).run Tryz.prog w= .ok (.pointer (some ⟨b,k,none⟩)) w:=by
 have h0:(0:Int)<=k:=by omega
 have h1:(k:Int)<4:=by omega
 go_simp
theorem ix_wide (w:World) (b k:Nat) (h:k<8):(Instr.indexAt 64 (.pointer (some ⟨b,0,none⟩)) (.int .i64 k)).run Tryz.prog w= .ok (.pointer (some ⟨b,k,none⟩)) w:=by
 have h0:(0:Int)<=k:=by omega
 have h1:(k:Int)<8:=by omega
 go_simp
theorem Yh (w:World) (b k:Nat) (h:k<5):(Instr.indexAt 167 (.pointer (some ⟨b,0,none⟩)) (.int .i64 k)).run Tryz.prog w= .ok (.pointer (some ⟨b,k,none⟩)) w:=by
 have h0:(0:Int)<=k:=by omega
 have h1:(k:Int)<5:=by omega
 go_simp
theorem add_u (p q:Operand) (x y z:Int) (w:World) (h:(x+y)%18446744073709551616=z):(do eqGuard .add 22 p q (.int .u64 x) (.int .u64 y);binOp .add 22 (.int .u64 x) (.int .u64 y):Sem Value).run Tryz.prog w= .ok (.int .u64 z) w:=by
 subst h
 go_simp
 simp[IntKind.wrap,IntKind.signed,IntKind.bits]
theorem mul_u (p q:Operand) (x y z:Int) (w:World) (h:(x*y)%18446744073709551616=z):(do eqGuard .mul 22 p q (.int .u64 x) (.int .u64 y);binOp .mul 22 (.int .u64 x) (.int .u64 y):Sem Value).run Tryz.prog w= .ok (.int .u64 z) w:=by
 subst h
 go_simp
 simp[IntKind.wrap,IntKind.signed,IntKind.bits]
end
section
def natAt (w:World) (b:Nat):Nat:=(V (wordAt w b 0) (wordAt w b 1) (wordAt w b 2) (wordAt w b 3)).toNat
theorem natAt_of {w:World} {b:Nat} {n:Int} (h:CV w b (LN n)) (hn:In n):natAt w b=n.toNat:=by
 have h0:=(h 0 _ rfl).1;have h1:=(h 1 _ rfl).1;have h2:=(h 2 _ rfl).1;have h3:=(h 3 _ rfl).1
 unfold natAt wordAt
 rw[h0,h1,h2,h3]
 show (V (D0 n) (D1 n) (D2 n) (D3 n)).toNat=_
 rw[V_In hn]
end
section
open Go.RowKit
section
section
variable {P:Program} {o:Oper} {a:Act} {w:World} {K:Act->World->Prop} {Q:Exit->Act->World->Prop}
end
theorem al__5_uint64 (w:World):(Instr.alloc 167 true (.tuple #[])).run Tryz.prog w= .ok (.pointer (some ⟨w.heap.size,0,none⟩)) (w.alloc (.cells L05.toArray 167)):=by kernel_rfl
theorem sl_five (b:Nat) (w:World):(Instr.sliceAt 167 (.pointer (some ⟨b,0,none⟩)) none (some (.int .i64 4)) none).run Tryz.prog w= .ok (.slice (some ⟨b,0,none⟩) 4 5) w:=by kernel_rfl
theorem ap_five (b:Nat) (w:World):(Instr.arrayAt 24 (.slice (some ⟨b,0,none⟩) 4 5)).run Tryz.prog w= .ok (.pointer (some ⟨b,0,none⟩)) w:=by kernel_rfl
theorem fd_m (b:Nat) (w:World):(Instr.fieldAt 151 (.pointer (some ⟨b,0,none⟩)) 0).run Tryz.prog w= .ok (.pointer (some ⟨b,0,none⟩)) w:=by kernel_rfl
theorem fd_c (b:Nat) (w:World):(Instr.fieldAt 151 (.pointer (some ⟨b,0,none⟩)) 1).run Tryz.prog w= .ok (.pointer (some ⟨b,4,none⟩)) w:=by go_simp
end
theorem Xr (p q:Operand) (n:Int) (w:World):(do eqGuard .eql 24 p q (NV n) (NV n);binOp .eql 24 (NV n) (NV n):Sem Value).run Tryz.prog w= .ok (.bool true) w:=by
 rw[eql_w,eq4_same]
theorem Tu (T:TypeId) (p q:Operand) (x y:Int) (b:Bool) (w:World) (h:(x !=y)=b):(do eqGuard .neq T p q (.int .i64 x) (.int .i64 y);binOp .neq T (.int .i64 x) (.int .i64 y):Sem Value).run Tryz.prog w= .ok (.bool b) w:=by
 subst h;go_simp
section
section
variable {R:Rg} {P:Program} {ops:Array Oper} {Q:Exit->Act->World->Prop} {f:Nat->Bool} {t:Nat->Value} {u:World} {a:Act} {i:Nat} {o:Oper}
end
end
section
section
variable {R:Rg} {P:Program} {ops:Array Oper} {Q:Exit->Act->World->Prop} {f:Nat->Bool} {t:Nat->Value} {u:World} {a:Act} {i:Nat} {o:Oper}
end
end
section
section
variable {R:Rg} {P:Program} {ops:Array Oper} {Q:Exit->Act->World->Prop} {f:Nat->Bool} {t:Nat->Value} {u:World} {a:Act} {i:Nat} {o:Oper}
end
section
variable {P:Program} {ops:Array Oper} {Q:Exit->Act->World->Prop} {id:Nat} {w0 w:World} {fr:List Value} {lo:Nat} {ks:List Blk}
end
end
theorem uN:Tryz.prog.underlying 24=some (.array 4 22):=Tryz.underlying24
theorem uW:Tryz.prog.underlying 64=some (.array 8 22):=Tryz.underlying64
theorem iN:(Tryz.prog.info? 24).map (·.size)=some 4:=info_api_Nat
theorem iW:(Tryz.prog.info? 64).map (·.size)=some 8:=info_api_Wide
theorem aN (w:World):(Instr.alloc 24 true (.tuple #[])).run Tryz.prog w= .ok (.pointer (some ⟨w.heap.size,0,none⟩)) (w.alloc (.cells L0s.toArray 24)):=al_api_Nat w
theorem aW (w:World):(Instr.alloc 64 true (.tuple #[])).run Tryz.prog w= .ok (.pointer (some ⟨w.heap.size,0,none⟩)) (w.alloc (.cells L0w.toArray 64)):=al_api_Wide w
theorem zN (w:World):(Instr.build 24 [].toArray).run Tryz.prog w= .ok (A4 0 0 0 0) w:=by kernel_rfl
theorem lU {b c:Nat} {v:Int} (w:World) (h:w.cell? ⟨b,c,none⟩=some (.int .u64 v)):(Instr.loadAt 22 (.pointer (some ⟨b,c,none⟩))).run Tryz.prog w= .ok (.int .u64 v) w:=ld_u64 w b c v h
theorem sU {b c:Nat} {v x:Int} (w:World) (h:w.cell? ⟨b,c,none⟩=some (.int .u64 v)) (hf:w.frozen? ⟨b,c,none⟩=false):(Instr.storeAt 22 (.pointer (some ⟨b,c,none⟩)) (.int .u64 x)).run Tryz.prog w= .ok () (w.setCell ⟨b,c,none⟩ (.int .u64 x)):=st_u64 w b c v x h hf
theorem jN {b:Nat} (k:Nat) (w:World) (h:k<4:=by decide):(Instr.indexAt 24 (.pointer (some ⟨b,0,none⟩)) (.int .i64 k)).run Tryz.prog w= .ok (.pointer (some ⟨b,k,none⟩)) w:=ix_nat w b k h
theorem jW {b:Nat} (k:Nat) (w:World) (h:k<8:=by decide):(Instr.indexAt 64 (.pointer (some ⟨b,0,none⟩)) (.int .i64 k)).run Tryz.prog w= .ok (.pointer (some ⟨b,k,none⟩)) w:=ix_wide w b k h
section
def flN:List Int->List Value
 | []=>[]
 | n::r=>LN n++flN r
def SN (w:World) (g o:Nat) (ns:List Int):Prop:= ∀j v,(flN ns)[j]?=some v->w.cell? ⟨g,o+j,none⟩=some v
theorem SN.below {w w':World} {m g o:Nat} {ns:List Int} (h:SN w g o ns) (hb:Below m w w') (hg:g<m):SN w' g o ns:=fun j v hj=>(hb.cell (p:=⟨g,o+j,none⟩) hg).trans (h j v hj)
theorem SN.empty {w:World} {g o:Nat} {ns:List Int} (h:ns.length=0):SN w g o ns:=fun j v hj=>by
 have e:ns=[]:=List.eq_nil_of_length_eq_zero h
 subst e;simp[flN] at hj
theorem SN.below2 {w w':World} {m g o:Nat} {ns:List Int} (h:SN w g o ns) (hb:Below m w w') (hg:ns.length=0\/g<m):SN w' g o ns:=by
 rcases hg with e | hg
 ·exact SN.empty e
 ·exact h.below hb hg
theorem flN_len: ∀ns:List Int,(flN ns).length=4*ns.length
 | []=>rfl
 | n::r=>by rw[flN,List.length_append,flN_len r,List.length_cons];simp;omega
theorem flN_get: ∀(ns:List Int) (j c:Nat) (v:Value),j<ns.length->(LN (ns.getD j 0))[c]?=some v->(flN ns)[4*j+c]?=some v
 | [],j,c,v,h,_=>by simp at h
 | n::r,0,c,v,h,e=>by
  rw[flN,List.getElem?_append_left]
  ·simpa using e
  ·have:=(List.getElem?_eq_some_iff.1 e).1
   simpa using this
 | n::r,j+1,c,v,h,e=>by
  rw[flN,List.getElem?_append_right (by simp;omega)]
  have:=flN_get r j c v (by simpa using h) (by simpa using e)
  simpa [show 4*(j+1)+c -4=4*j+c by omega] using this
theorem SN.at {w:World} {g o:Nat} {ns:List Int} (h:SN w g o ns) (j:Nat) (hj:j<ns.length):w.rangeAt g (o+4*j) (LN (ns.getD j 0)):=fun c v hc=>by
 have:=h (4*j+c) v (flN_get ns j c v hj hc)
 rwa [<-Nat.add_assoc] at this
section
variable {R:Rg} {P:Program} {ops:Array Oper} {Q:Exit->Act->World->Prop} {i:Nat} {o:Oper}
end
theorem ixS (g o n cap j:Nat) (h:j<n) (w:World):(Instr.indexAt 35 (.slice (some ⟨g,o,none⟩) n cap) (.int .i64 j)).run Tryz.prog w= .ok (.pointer (some ⟨g,o+4*j,none⟩)) w:=by
 have h2:(j:Int)<n:=by omega
 go_simp
end
section
section
variable {R:Rg} {P:Program} {ops:Array Oper} {Q:Exit->Act->World->Prop} {f:Nat->Bool} {t:Nat->Value} {u:World} {a:Act} {i:Nat} {o:Oper}
end
end
section
section
variable {R:Rg} {P:Program} {ops:Array Oper} {Q:Exit->Act->World->Prop} {f:Nat->Bool} {t:Nat->Value} {u:World} {a:Act} {i:Nat} {o:Oper}
end
abbrev CE (n f a:Int):List Value:=[.int .u64 (D0 n),.int .u64 (D1 n),.int .u64 (D2 n),.int .u64 (D3 n),.int .u64 (D0 f),.int .u64 (D1 f),.int .u64 (D2 f),.int .u64 (D3 f),.int .u64 (D0 a),.int .u64 (D1 a),.int .u64 (D2 a),.int .u64 (D3 a)]
abbrev CX (n f a:Int):Value:= .agg #[.int .u64 (D0 n),.int .u64 (D1 n),.int .u64 (D2 n),.int .u64 (D3 n),.int .u64 (D0 f),.int .u64 (D1 f),.int .u64 (D2 f),.int .u64 (D3 f),.int .u64 (D0 a),.int .u64 (D1 a),.int .u64 (D2 a),.int .u64 (D3 a)]
theorem Td:(Tryz.prog.info? 82).map (·.size)=some 12:=by kernel_rfl
theorem fdC0 (b:Nat) (w:World):(Instr.fieldAt 82 (.pointer (some ⟨b,0,none⟩)) 0).run Tryz.prog w= .ok (.pointer (some ⟨b,0,none⟩)) w:=by go_simp
theorem fdC1 (b:Nat) (w:World):(Instr.fieldAt 82 (.pointer (some ⟨b,0,none⟩)) 1).run Tryz.prog w= .ok (.pointer (some ⟨b,4,none⟩)) w:=by go_simp
end
section
section
variable {R:Rg} {P:Program} {ops:Array Oper} {Q:Exit->Act->World->Prop} {f:Nat->Bool} {t:Nat->Value} {u:World} {a:Act} {i:Nat} {o:Oper}
end
end
theorem infoN:(Tryz.prog.info? 24).map (fun i=>(i.zero,i.size,i.bytes))=some (some (A4 0 0 0 0),4,32):=by kernel_rfl
def PE (base:Nat) (u:World) (v:Value):Prop:= ∃b,v= .slice (some ⟨b,0,none⟩) 0 0/\base<=b/\u.heap[b]?=some (.cells #[] 24 (0,0))
def PO (base:Nat) (ns:List Int) (u:World) (v:Value):Prop:=(∃b c,v= .slice (some ⟨b,0,none⟩) ns.length c)/\u.ownsRow base 24 4 v ns.length (flN ns)
theorem PE.stab {base:Nat} {u v:World} {x:Value} (hB:Bw u v) (h:PE base u x):PE base v x:=by
 obtain⟨b,e,h1,h2⟩:=h
 exact⟨b,e,h1,by rw[hB.block b (Array.getElem?_eq_some_iff.1 h2).1];exact h2⟩
theorem PO.stab {base:Nat} {ns:List Int} {u v:World} {x:Value} (hB:Bw u v) (h:PO base ns u x):PO base ns v x:=by
 obtain⟨⟨b,c,rfl⟩,h2⟩:=h
 exact⟨⟨b,c,rfl⟩,h2.kept (below_grown hB) (.inr (by simp[Value.ownBlock]))⟩
theorem PO.at {base:Nat} {ns:List Int} {u:World} {x:Value} (h:PO base ns u x): ∃b c,x= .slice (some ⟨b,0,none⟩) ns.length c/\b<u.heap.size/\SN u b 0 ns:=by
 obtain⟨⟨b,c,rfl⟩,h2⟩:=h
 have hl:=h2.lt b rfl
 refine⟨b,c,rfl,hl.2,fun j v hj=>?_⟩
 have:=h2.cells (g:=b) rfl j v hj
 have e:(⟨b,0,none⟩:Addr).add j=⟨b,j,none⟩:=by unfold Addr.add;split<;>simp_all
 rw[e] at this
 rw[Nat.zero_add];exact this
theorem SN.news {u:World} {g o:Nat} {ns:List Int} (h:SN u g o ns): ∀j v,(flN ns)[j]?=some v->u.cell? ((⟨g,o,none⟩:Addr).add j)=some v:=fun j v hj=>by
 have e:(⟨g,o,none⟩:Addr).add j=⟨g,o+j,none⟩:=by unfold Addr.add;split<;>simp_all
 rw[e];exact h j v hj
theorem app_none (u:World) (ty:TypeId) (b n cap:Nat) (sl:Option Addr) (c:Nat) (hn:n<=cap):(Builtin.append_ #[35,35] ty #[.slice (some ⟨b,0,none⟩) n cap,.slice sl 0 c]).run Tryz.prog u= .ok (.slice (some ⟨b,0,none⟩) n cap) u:=by
 obtain⟨i,hi,hm⟩:=Option.map_eq_some_iff.1 infoN
 cases sl<;>simp[Builtin.append_,run_underlying Tryz.underlying35,sizeOf,typeInfo,hi,Builtin.lenOf,Builtin.firstCells,loadCells,loadCellsFrom,hn,storeCells]
theorem app_empty (base:Nat) (u:World) (ty:TypeId) (vs:Value) (sl:Option Addr) (g o c:Nat) (ns:List Int) (hu:base<=u.heap.size) (hl:ns.length<=50) (hsl:ns=[]\/sl=some ⟨g,o,none⟩) (hS:SN u g o ns) (h:PE base u vs):
 ∃v u',(Builtin.append_ #[35,35] ty #[vs,.slice sl ns.length c]).run Tryz.prog u= .ok v u'/\Bw u u'/\PO base ns u' v:=by
 obtain⟨b,rfl,h1,h2⟩:=h
 obtain⟨i,hi,hm⟩:=Option.map_eq_some_iff.1 infoN
 simp only[Prod.mk.injEq] at hm
 obtain⟨hz,hsz,hby⟩:=hm
 by_cases hn:ns=[]
 ·subst hn
  refine⟨_,_,app_none u ty b 0 0 sl c (Nat.le_refl _),Below.refl _ _,⟨b,0,rfl⟩,rfl,.inr ⟨b,0,#[],rfl,h1,h2,Nat.le_refl _,by simp[maxLen],rfl,rfl⟩⟩
 ·have hp:0<ns.length:=List.length_pos_iff.2 hn
  have hs:=hsl.resolve_left hn
  subst hs
  have hr:=run_append_grow (P:=Tryz.prog) u 35 ty 24 i (A4 0 0 0 0) Tryz.underlying35 hi hz ⟨b,0,none⟩ 0 0 [] (by simp) (by simp) ⟨g,o,none⟩ ns.length c (flN ns) (by rw[flN_len,hsz];omega) hS.news (by omega) (by omega) (growslice_fits (by omega) (by rw[hby];omega))
  refine⟨_,_,hr,Z1 (Z6 u).drew _,⟨_,_,by rw[Nat.zero_add]⟩,?_⟩
  have hge:=grownCap_ge u (0+ns.length) 0 24
  have hcm:grownCap u (0+ns.length) 0 24<=maxLen:=grownCap_le_maxLen u (0+ns.length) 0 24 (by simp[maxLen];omega)
  rw[Nat.zero_add] at hge hcm⊢
  refine⟨by rw[flN_len];omega,.inr ⟨u.heap.size,_,_,rfl,hu,heap_alloc_new u.drew _,hge,hcm,?_,?_⟩⟩
  ·simp only[Array.size_append,List.size_toArray,size_zeroCells,flN_len]
   have e4:(A4 0 0 0 0).cells.size=4:=rfl
   rw[e4]
   simp only[List.length_nil]
   omega
  ·simp only[Array.toList_append,List.append_assoc]
   rw[show ns.length*4=(flN ns).length by rw[flN_len];omega]
   simp
theorem bsN (w:World):(Instr.buildSlice 35 0 #[]).run Tryz.prog w= .ok (.slice (some ⟨w.heap.size,0,none⟩) 0 0) (w.alloc (.cells #[] 24)):=by kernel_rfl
theorem PE.new {base:Nat} {u:World} (h:base<=u.heap.size):PE base (u.alloc (.cells #[] 24)) (.slice (some ⟨u.heap.size,0,none⟩) 0 0):=⟨_,rfl,h,heap_alloc_new u _⟩
theorem PO.cv {base:Nat} {ns:List Int} {u:World} {x:Value} (h:PO base ns u x): ∃b c,x= .slice (some ⟨b,0,none⟩) ns.length c/\base<=b/\b<u.heap.size/\CV u b (flN ns):=by
 obtain⟨⟨b,c,rfl⟩,h2⟩:=h
 have hl:=h2.lt b rfl
 refine⟨b,c,rfl,hl.1,hl.2,fun j v hj=>⟨?_,?_⟩⟩
 ·have:=h2.cells (g:=b) rfl j v hj
  have e:(⟨b,0,none⟩:Addr).add j=⟨b,j,none⟩:=by unfold Addr.add;split<;>simp_all
  rw[e] at this;exact this
 ·rcases h2.2 with⟨e,_⟩ | ⟨g',cap',cur,e,_,hh,_⟩
  ·cases e
  ·cases e;simp[World.frozen?,hh]
theorem CV.sn {u:World} {b:Nat} {ns:List Int} (h:CV u b (flN ns)):SN u b 0 ns:=fun j v hj=>by rw[Nat.zero_add];exact(h j v hj).1
theorem slH (sl:Option Addr) (n cap k:Nat) (h:k<=n) (hc:n<=cap) (hn:sl=none->cap=0) (w:World):(Instr.sliceAt 35 (.slice sl n cap) none (some (.int .i64 k)) none).run Tryz.prog w= .ok (.slice sl k cap) w:=by
 cases sl with
 | none=>
  have e0:=hn rfl
  have e1:n=0:=by omega
  have e2:k=0:=by omega
  subst e0 e1 e2
  show (Instr.sliceAt 35 (.slice none 0 0) none (some (.int .i64 0)) none).run Tryz.prog w=_
  kernel_rfl
 | some a=>
  have h3:k<=cap:=by omega
  simp[Instr.sliceAt,Instr.slice,go_sem,Tryz.underlying35,h3]
theorem NV_of (n a b c d k:Int) (ha:W64 a) (hb:W64 b) (hc:W64 c) (hd:W64 d) (h:n=V a b c d+k*115792089237316195423570985008687907853269984665640564039457584007913129639936):NV n=A4 a b c d:=by
 obtain⟨h0,h1,h2,h3,_⟩:=D_of n a b c d k ha hb hc hd h
 rw[NV,h0,h1,h2,h3]
theorem WV_of (n a b c d e f g h:Int) (ha:W64 a) (hb:W64 b) (hc:W64 c) (hd:W64 d) (he:W64 e) (hf:W64 f) (hg:W64 g) (hh:W64 h) (hn:n=V a b c d+V e f g h*115792089237316195423570985008687907853269984665640564039457584007913129639936):WV n=A8 a b c d e f g h:=by
 obtain⟨h0,h1,h2,h3,h4⟩:=D_of n a b c d (V e f g h) ha hb hc hd hn
 obtain⟨k0,k1,k2,k3,k4⟩:=D_of (V e f g h) e f g h 0 he hf hg hh (by omega)
 rw[WV,h0,h1,h2,h3,h4,k0,k1,k2,k3]
def H32 (x:Int):Prop:=0<=x/\x<4294967296
theorem wide_any (g cap:Nat) (x0 x1 x2 x3 x4 x5 x6 x7 x8 x9 x10 x11 x12 x13 x14 x15:Int) (w:World) (c0:w.cell? ⟨g,0,none⟩=some (.int .u64 x0)) (c1:w.cell? ⟨g,1,none⟩=some (.int .u64 x1)) (c2:w.cell? ⟨g,2,none⟩=some (.int .u64 x2)) (c3:w.cell? ⟨g,3,none⟩=some (.int .u64 x3)) (c4:w.cell? ⟨g,4,none⟩=some (.int .u64 x4)) (c5:w.cell? ⟨g,5,none⟩=some (.int .u64 x5)) (c6:w.cell? ⟨g,6,none⟩=some (.int .u64 x6)) (c7:w.cell? ⟨g,7,none⟩=some (.int .u64 x7)) (c8:w.cell? ⟨g,8,none⟩=some (.int .u64 x8)) (c9:w.cell? ⟨g,9,none⟩=some (.int .u64 x9)) (c10:w.cell? ⟨g,10,none⟩=some (.int .u64 x10)) (c11:w.cell? ⟨g,11,none⟩=some (.int .u64 x11)) (c12:w.cell? ⟨g,12,none⟩=some (.int .u64 x12)) (c13:w.cell? ⟨g,13,none⟩=some (.int .u64 x13)) (c14:w.cell? ⟨g,14,none⟩=some (.int .u64 x14)) (c15:w.cell? ⟨g,15,none⟩=some (.int .u64 x15)) (h0:H32 x0) (h1:H32 x1) (h2:H32 x2) (h3:H32 x3) (h4:H32 x4) (h5:H32 x5) (h6:H32 x6) (h7:H32 x7) (h8:H32 x8) (h9:H32 x9) (h10:H32 x10) (h11:H32 x11) (h12:H32 x12) (h13:H32 x13) (h14:H32 x14) (h15:H32 x15):
 CC 65 #[.slice (some ⟨g,0,none⟩) 16 cap] w (A8 (x0+x1*4294967296) (x2+x3*4294967296) (x4+x5*4294967296) (x6+x7*4294967296) (x8+x9*4294967296) (x10+x11*4294967296) (x12+x13*4294967296) (x14+x15*4294967296)):=by
 obtain⟨l0,u0⟩:=h0
 obtain⟨l1,u1⟩:=h1
 obtain⟨l2,u2⟩:=h2
 obtain⟨l3,u3⟩:=h3
 obtain⟨l4,u4⟩:=h4
 obtain⟨l5,u5⟩:=h5
 obtain⟨l6,u6⟩:=h6
 obtain⟨l7,u7⟩:=h7
 obtain⟨l8,u8⟩:=h8
 obtain⟨l9,u9⟩:=h9
 obtain⟨l10,u10⟩:=h10
 obtain⟨l11,u11⟩:=h11
 obtain⟨l12,u12⟩:=h12
 obtain⟨l13,u13⟩:=h13
 obtain⟨l14,u14⟩:=h14
 obtain⟨l15,u15⟩:=h15
 have lg:g<w.heap.size:=World.block_lt_of_cell? w _ c0
 have lg1:g<w.heap.size+1:=by omega
 have lg2:g<w.heap.size+1+1:=by omega
 go_enter Tryz.func65,Tryz.ntmps65
 go_wp2
 refine wp_loop_rounds 9 ?_
 rw[rounds_succ]
 go_wp2
 go_region
 go_wp2
 rw[rounds_succ]
 go_wp2
 go_region
 go_wp2
 rw[rounds_succ]
 go_wp2
 go_region
 go_wp2
 rw[rounds_succ]
 go_wp2
 go_region
 go_wp2
 rw[rounds_succ]
 go_wp2
 go_region
 go_wp2
 rw[rounds_succ]
 go_wp2
 go_region
 go_wp2
 rw[rounds_succ]
 go_wp2
 go_region
 go_wp2
 rw[rounds_succ]
 go_wp2
 go_region
 go_wp2
 rw[rounds_succ]
 go_wp2
 refine bodyPost_ret (v:=A8 (x0+x1*4294967296) (x2+x3*4294967296) (x4+x5*4294967296) (x6+x7*4294967296) (x8+x9*4294967296) (x10+x11*4294967296) (x12+x13*4294967296) (x14+x15*4294967296)) (by simp[results,Tryz.results65,go_sem]) rfl ⟨rfl,?_⟩
 iterate 6 all_goals (go_grown<;>try with_reducible refine below_drewN ?_ _)
theorem zc8L:Builtin.zeroCells (Value.int .u64 0).cells 8=#[.int .u64 0,.int .u64 0,.int .u64 0,.int .u64 0,.int .u64 0,.int .u64 0,.int .u64 0,.int .u64 0]:=by kernel_rfl
abbrev z8L:List Value:=[.int .u64 0,.int .u64 0,.int .u64 0,.int .u64 0,.int .u64 0,.int .u64 0,.int .u64 0,.int .u64 0]
theorem run_app16 (w:World) (base b cap:Nat) (xs:List Value) (hbase:base<=w.heap.size) (hown:w.ownsRow base 22 1 (.slice (some ⟨b,0,none⟩) 8 cap) 8 xs):
 ∃b' cap' w',(Builtin.append_ #[93,3] 93 #[.slice (some ⟨b,0,none⟩) 8 cap,.int .i64 8]).run Tryz.prog w= .ok (.slice (some ⟨b',0,none⟩) 16 cap') w'/\
  (∀i u,(xs++z8L)[i]?=some u->w'.cell? ⟨b',i,none⟩=some u)/\Below base w w':=by
 obtain⟨i0,hi0,hz0,hz1,hz2⟩:=info_parts Tryz.info22
 obtain⟨hlen,hr⟩:=hown
 rcases hr with⟨h,_⟩ | ⟨g,cap',cur,hv,hbg,hg,hcap,hcm,hcs,htake⟩
 ·simp at h
 ·simp at hv
  obtain⟨rfl,rfl⟩:=hv
  simp only[Nat.mul_one] at hcs htake hlen
  by_cases hroom:16<=cap
  ·refine⟨b,cap,w.setRow b (cur.toList.take 8++z8L++cur.toList.drop 16).toArray,?_,?_,?_⟩
   ·have hst:=run_storeCells_at (P:=Tryz.prog) b 8 22 z8L 0 cur w hg (by simp;omega) (by intro v hv;simp at hv;subst hv;rfl)
    simp only[Nat.add_zero] at hst
    have hw:IntKind.i64.wrap (8:Int)=8:=by decide
    simp[Builtin.append_,run_underlying Tryz.underlying93,run_underlying Tryz.underlying3,sizeOf,typeInfo,zeroValue,hi0,hz0,hz1,hz2,asInt,asIntOf,hw,hroom,zc8L,Addr.add_lit,hst]
   ·intro i u hu
    rw[cell_setRow_same w b i cur _ 22 (0,0) hg]
    rw[htake]
    have hi:i<16:=by
     have:=(List.getElem?_eq_some_iff.1 hu).1
     simp[hlen] at this;exact this
    rw[List.getElem?_toArray,List.getElem?_append_left (by simp[hlen];omega)]
    exact hu
   ·exact below_setRow (Below.refl _ _) hbg _
  ·have hold:(Builtin.firstCells i0.size 8 (.slice (some ⟨b,0,none⟩) 8 cap)).run Tryz.prog w.drew= .ok xs.toArray w.drew:=by
    refine run_firstCells_some (P:=Tryz.prog) w.drew i0.size 8 ⟨b,0,none⟩ 8 cap xs (by rw[hz1];simpa using hlen) ?_
    intro j v hj
    have hadd:(⟨b,0,none⟩:Addr).add j=⟨b,j,none⟩:=by unfold Addr.add;split<;>simp_all
    rw[hadd]
    show w.cell? ⟨b,j,none⟩=some v
    rw[cell_of_row w b j cur 22 (0,0) hg]
    rw[<-htake,List.getElem?_take] at hj
    split at hj
    ·simpa using hj
    ·cases hj
   have hrun:=Lib.run_append_grow_zeros (P:=Tryz.prog) w 93 3 93 22 i0 (.int .u64 0) .i64 .i64 Tryz.underlying93 Tryz.underlying3 hi0 hz0 (some ⟨b,0,none⟩) 8 cap xs hold 8 (by omega) (by omega) (by omega) (by simp) (by rw[hz2];omega) (by
    rw[hz2];unfold Builtin.nextslicecap;split
    ·omega
    ·rw[if_pos (by omega)];omega)
   refine⟨_,_,_,hrun,?_,?_⟩
   ·intro i u hu
    rw[cell_of_row _ w.heap.size i _ 22 (0,0) (heap_alloc_new w.drew _)]
    rw[zc8L]
    have hi:i<16:=by
     have:=(List.getElem?_eq_some_iff.1 hu).1
     simp[hlen] at this;exact this
    rw[Array.getElem?_append_left (by simp[hlen];omega)]
    simpa using hu
   ·exact((Below.refl _ _).drew).alloc hbase _
theorem lo32 (x:Int):H32 (x%4294967296):=by unfold H32;omega
theorem hi32 (x:Int) (h:W64 x):H32 (x/4294967296):=by unfold W64 at h;unfold H32;omega
theorem z32L:H32 0:=by unfold H32;omega
theorem lohi (x:Int):x%4294967296+x/4294967296*4294967296=x:=by omega
theorem zz:(0:Int)+0*4294967296=0:=by omega
theorem rWiden_any (p q r s:Int) (w:World) (hp:W64 p) (hq:W64 q) (hr:W64 r) (hs:W64 s):
 CC 39 #[A4 p q r s] w (A8 p q r s 0 0 0 0):=by
 have hW:=fun(g cap:Nat) (w:World)=>wide_any g cap (p%4294967296) (p/4294967296) (q%4294967296) (q/4294967296) (r%4294967296) (r/4294967296) (s%4294967296) (s/4294967296) 0 0 0 0 0 0 0 0 w
 simp only[lohi,zz] at hW
 have HW:=hW
 clear hW
 have hWW:Hid _:=HW
 clear HW
 go_enter Tryz.func39,Tryz.ntmps39
 go_wp2_with fail
 refine(Ui _ p q r s _ (by unfold C4;simp[go_sem]) hp hq hr hs).mono ?_
 rintro e w1 ⟨b,cap,rfl,hown,hB⟩
 simp only[World.size_alloc] at hown
 obtain⟨b',cap',w2,hrun,hcells,hB2⟩:=run_app16 w1 _ b cap _ (by have:=hB.size;simp at this;omega) hown
 clear hown
 have hR:Hid _:=hrun
 clear hrun
 go_wp2_with (at_builtin;refine Lib.wpList_append_run _ rfl _ _ _ _ rfl _ _ rfl rfl _ _ hR.out ?_)
 refine(hWW.out b' cap' _ (hcells 0 _ rfl) (hcells 1 _ rfl) (hcells 2 _ rfl) (hcells 3 _ rfl) (hcells 4 _ rfl) (hcells 5 _ rfl) (hcells 6 _ rfl) (hcells 7 _ rfl) (hcells 8 _ rfl) (hcells 9 _ rfl) (hcells 10 _ rfl) (hcells 11 _ rfl) (hcells 12 _ rfl) (hcells 13 _ rfl) (hcells 14 _ rfl) (hcells 15 _ rfl) (lo32 p) (hi32 p hp) (lo32 q) (hi32 q hq) (lo32 r) (hi32 r hr) (lo32 s) (hi32 s hs) z32L z32L z32L z32L z32L z32L z32L z32L).mono ?_
 rintro e w3 ⟨rfl,hB3⟩
 simp only[Bw,World.size_alloc] at hB
 have hsz1:=hB.size
 have hsz2:=hB2.size
 have hsz3:=hB3.size
 simp only[World.size_alloc] at hsz1
 have hall:=hB.trans (hB2.trans (hB3.mono (by omega)))
 clear hB hB2 hB3 hcells
 have hcell: ∀o,w3.cell? ⟨w.heap.size+1,o,none⟩=_:=fun o=>hall.cell (p:=⟨w.heap.size+1,o,none⟩) (by show w.heap.size+1<w.heap.size+1+1;omega)
 have hfroz: ∀o,w3.frozen? ⟨w.heap.size+1,o,none⟩=_:=fun o=>hall.frozen (p:=⟨w.heap.size+1,o,none⟩) (by show w.heap.size+1<w.heap.size+1+1;omega)
 go_wp2
 refine bodyPost_ret (v:=A8 p q r s 0 0 0 0) (by simp[results,Tryz.results39,go_sem,hcell]) rfl ⟨rfl,?_⟩
 have hB':Bw w w3:=Below.trans (by go_grown) (hall.mono (by omega))
 go_grown
end
end Go.Proofs.YtknpepgonhdbgaaGreatDoor
