import Derived.Test.YtbbohmgjphpfeaaGreatDoorN1
namespace Go.Proofs.YtbbohmgjphpfeaaGreatDoor
set_option linter.unusedVariables false
set_option linter.unusedSimpArgs false
set_option maxRecDepth 100000
set_option maxHeartbeats 4000000
open Go.RowKit
def wordOf(a b c d i:Int):Int:=if i/64=0 then a else if i/64=1 then b else if i/64=2 then c else d
def bitv(a b c d i:Int):Bool:=decide (0<=i)&&decide (i<256)&&(wordOf a b c d i/2^(i%64).toNat%2==1)
theorem and1(x:Int)(h:W64 x):bits .and .u64 x 1=x%2:=by
 obtain⟨h1,h2⟩:=h
 obtain⟨x,rfl⟩:=Int.eq_ofNat_of_zero_le h1
 have e:=bits_and_u64_nat x 1 (by omega) (by omega)
 have f:x&&&1=x%2:=Nat.and_two_pow_sub_one_eq_mod x 1
 rw[f] at e
 exact e.trans (by omega)
theorem W_shr(x:Int)(n:Nat)(hx:W64 x):W64 (x/2^n):=by
 obtain⟨x1,x2⟩:=hx
 have p:(0:Int)<2^n:=Int.pow_pos (by omega)
 have h1:0<=x/2^n:=Int.ediv_nonneg x1 (by omega)
 have h2:x/2^n<=x:=Int.ediv_le_self _ x1
 exact⟨h1,by omega⟩
theorem bit_out(a b c d i:Int)(w:World)(h:i<0\/256<=i):
 CC 118 #[A4 a b c d,.int .i64 i] w (.bool false):=by
 by_cases h0:i<0
 ·go_enter Tryz.func118,Tryz.ntmps118
  go_wp2
  go_ret
  exact⟨rfl,by go_grown⟩
 ·have h1:256<=i:=by omega
  go_enter Tryz.func118,Tryz.ntmps118
  go_wp2
  go_ret
  exact⟨rfl,by go_grown⟩
theorem bit_in0(a b c d i r:Int)(w:World)(hx:W64 a)(h0:0<=i)(h1:i<256)(hk:i/64=0)(hr:i%64=r)(r0:0<=r)(r1:r<=63):
 CC 118 #[A4 a b c d,.int .i64 i] w (.bool (a/2^r.toNat%2==1)):=by
 have ha:=and1 _ (W_shr a r.toNat hx)
 go_enter Tryz.func118,Tryz.ntmps118
 go_wp2
 go_ret
 exact⟨rfl,by go_grown⟩
theorem bit_in1(a b c d i r:Int)(w:World)(hx:W64 b)(h0:0<=i)(h1:i<256)(hk:i/64=1)(hr:i%64=r)(r0:0<=r)(r1:r<=63):
 CC 118 #[A4 a b c d,.int .i64 i] w (.bool (b/2^r.toNat%2==1)):=by
 have ha:=and1 _ (W_shr b r.toNat hx)
 go_enter Tryz.func118,Tryz.ntmps118
 go_wp2
 go_ret
 exact⟨rfl,by go_grown⟩
theorem bit_in2(a b c d i r:Int)(w:World)(hx:W64 c)(h0:0<=i)(h1:i<256)(hk:i/64=2)(hr:i%64=r)(r0:0<=r)(r1:r<=63):
 CC 118 #[A4 a b c d,.int .i64 i] w (.bool (c/2^r.toNat%2==1)):=by
 have ha:=and1 _ (W_shr c r.toNat hx)
 go_enter Tryz.func118,Tryz.ntmps118
 go_wp2
 go_ret
 exact⟨rfl,by go_grown⟩
theorem bit_in3(a b c d i r:Int)(w:World)(hx:W64 d)(h0:0<=i)(h1:i<256)(hk:i/64=3)(hr:i%64=r)(r0:0<=r)(r1:r<=63):
 CC 118 #[A4 a b c d,.int .i64 i] w (.bool (d/2^r.toNat%2==1)):=by
 have ha:=and1 _ (W_shr d r.toNat hx)
 go_enter Tryz.func118,Tryz.ntmps118
 go_wp2
 go_ret
 exact⟨rfl,by go_grown⟩
theorem Bit_any(a b c d i:Int)(w:World)(ha:W64 a)(hb:W64 b)(hc:W64 c)(hd:W64 d):
 CC 118 #[A4 a b c d,.int .i64 i] w (.bool (bitv a b c d i)):=by
 by_cases h:i<0\/256<=i
 ·have e:bitv a b c d i=false:=by
   unfold bitv;rcases h with h | h
   ·simp;omega
   ·simp;omega
  rw[e];exact bit_out a b c d i w h
 ·have h0:0<=i:=by omega
  have h1:i<256:=by omega
  have hc4:i/64=0\/i/64=1\/i/64=2\/i/64=3:=by omega
  unfold bitv wordOf
  simp only[h0,h1,decide_true,Bool.true_and]
  rcases hc4 with hk | hk | hk | hk
  ·rw[hk];exact bit_in0 a b c d i (i%64) w ha h0 h1 hk rfl (by omega) (by omega)
  ·rw[hk];exact bit_in1 a b c d i (i%64) w hb h0 h1 hk rfl (by omega) (by omega)
  ·rw[hk];exact bit_in2 a b c d i (i%64) w hc h0 h1 hk rfl (by omega) (by omega)
  ·rw[hk];exact bit_in3 a b c d i (i%64) w hd h0 h1 hk rfl (by omega) (by omega)
def lenI(e:Int):Int:=blen (D0 e) (D1 e) (D2 e) (D3 e)
def bitI(e i:Int):Bool:=decide (e/2^i.toNat%2=1)
theorem nLen(e:Int)(w:World):CC 130 #[NV e] w (.int .i64 (lenI e)):=
 Un _ _ _ _ w (W_D0 e) (W_D1 e) (W_D2 e) (W_D3 e)
theorem lenI_bd(e:Int):0<=lenI e/\lenI e<=256:=by
 have a:=U1 _ (W_D0 e);have b:=U1 _ (W_D1 e);have c:=U1 _ (W_D2 e);have d:=U1 _ (W_D3 e)
 unfold lenI blen
 repeat' split
 all_goals omega
theorem bl_lt(x:Int)(h:W64 x)(h0:x≠0):x+1<=2^(bl x).toNat:=by
 obtain⟨h1,h2⟩:=h
 obtain⟨n,rfl⟩:=Int.eq_ofNat_of_zero_le h1
 have:=(Wn 64 n (by omega) (by omega) (by omega)).2.2
 unfold bl
 simp only[Int.toNat_natCast]
 have e:((2^Lib.bitLen n:Nat):Int)=(2:Int)^Lib.bitLen n:=by simp
 omega
theorem top_lt(x k:Int)(h:W64 x)(h0:x≠0)(hk:0<=k):(x+1)*2^k.toNat<=2^(k+bl x).toNat:=by
 have hb:=U1 x h
 rw[Int.toNat_add hk hb.1,Int.pow_add,Int.mul_comm]
 exact Int.mul_le_mul_of_nonneg_left (bl_lt x h h0) (Int.le_of_lt (Int.pow_pos (by decide)))
theorem lenI_lt{e:Int}(he:In e):e<2^(lenI e).toNat:=by
 have a:=W_D0 e;have b:=W_D1 e;have c:=W_D2 e;have d:=W_D3 e
 have hv:=V_In he
 have ha:=a;have hb:=b;have hc:=c;have hd:=d
 unfold W64 at a b c d
 unfold lenI blen
 unfold V at hv
 split
 ·have:=top_lt _ 192 hd ‹_› (by decide)
  have e2:((2:Int)^(192:Int).toNat)=0x1000000000000000000000000000000000000000000000000:=by decide
  rw[e2] at this
  omega
 ·split
  ·have:=top_lt _ 128 hc ‹_› (by decide)
   have e2:((2:Int)^(128:Int).toNat)=0x100000000000000000000000000000000:=by decide
   rw[e2] at this
   omega
  ·split
   ·have:=top_lt _ 64 hb ‹_› (by decide)
    have e2:((2:Int)^(64:Int).toNat)=18446744073709551616:=by decide
    rw[e2] at this
    omega
   ·split
    ·have:=bl_lt _ ha ‹_›
     omega
    ·have:e=0:=by omega
     rw[this];decide
theorem bit_mod(x:Int)(r:Nat)(hr:r<64):x%18446744073709551616/2^r%2=x/2^r%2:=by
 have e:=Int.mul_ediv_add_emod x 18446744073709551616
 have hp:(18446744073709551616:Int)=2^r*(2*2^(63 -r)):=by
  have:(18446744073709551616:Int)=2^(r+(1+(63 -r))):=by rw[show r+(1+(63 -r))=64 by omega];decide
  rw[this,Int.pow_add,Int.pow_add];simp
 have h2:(2:Int)^r≠0:=Int.ne_of_gt (Int.pow_pos (by decide))
 generalize x/18446744073709551616=q at *
 generalize x%18446744073709551616=s at *
 have hx:x=s+2^r*(2*2^(63 -r)*q):=by rw[<-e,hp];grind
 rw[hx,Int.add_mul_ediv_left _ _ h2,Int.mul_assoc,Int.add_mul_emod_self_left]
theorem bitv_I{e i:Int}(h0:0<=i)(h1:i<256):bitv (D0 e) (D1 e) (D2 e) (D3 e) i=bitI e i:=by
 unfold bitv bitI
 have hr:(i%64).toNat<64:=by omega
 have key: ∀(k:Int),wordOf (D0 e) (D1 e) (D2 e) (D3 e) i=e/2^(64*(i/64)).toNat%18446744073709551616:=fun _=>by
  unfold wordOf
  have h4:i/64=0\/i/64=1\/i/64=2\/i/64=3:=by omega
  rcases h4 with h | h | h | h<;>rw[h]
  ·simp[D0]
  ·have e2:((2:Int)^(64*(1:Int)).toNat)=18446744073709551616:=by decide
   rw[e2];simp[D1]
  ·have e2:((2:Int)^(64*(2:Int)).toNat)=0x100000000000000000000000000000000:=by decide
   rw[e2];simp[D2]
  ·have e2:((2:Int)^(64*(3:Int)).toNat)=0x1000000000000000000000000000000000000000000000000:=by decide
   rw[e2];simp[D3]
 rw[key 0,bit_mod _ _ hr,Int.ediv_ediv_of_nonneg (Int.le_of_lt (Int.pow_pos (by decide))),<-Int.pow_add,<-Int.toNat_add (by omega) (by omega),show 64*(i/64)+i%64=i by omega]
 simp[h0,h1]
 rw[Bool.eq_iff_iff];simp
theorem nBit(e i:Int)(w:World)(h0:0<=i)(h1:i<256):CC 118 #[NV e,.int .i64 i] w (.bool (bitI e i)):=by
 rw[<-bitv_I h0 h1];exact Bit_any _ _ _ _ i w (W_D0 e) (W_D1 e) (W_D2 e) (W_D3 e)
theorem top_step(e:Int)(he:0<=e)(k:Nat):e/2^k=2*(e/2^(k+1))+(if bitI e k then 1 else 0):=by
 unfold bitI
 rw[Int.toNat_natCast,Int.pow_succ,<-Int.ediv_ediv_of_nonneg (Int.le_of_lt (Int.pow_pos (by decide)))]
 generalize e/2^k=q
 by_cases h:q%2=1<;>simp[h]<;>omega
end Go.Proofs.YtbbohmgjphpfeaaGreatDoor
