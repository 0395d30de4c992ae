import Derived.Test.YtofcppgfaelloaaGreatDoorSD0
namespace Go.Proofs.YtofcppgfaelloaaGreatDoor
set_option linter.unusedVariables false
set_option linter.unusedSimpArgs false
set_option maxRecDepth 100000
set_option maxHeartbeats 4000000
open Go.RowKit
def wordOf (a b c d i:Int):Int:=if i/64=0 then a else if i/64=1 then b else if i/64=2 then c else d
def bitv (a b c d i:Int):Bool:=decide (0<=i)&&decide (i<256)&&(wordOf a b c d i/2^(i%64).toNat%2==1)
theorem and1 (x:Int) (h:W64 x):bits .and .u64 x 1=x%2:=by
 obtain⟨h1,h2⟩:=h
 obtain⟨x,rfl⟩:=Int.eq_ofNat_of_zero_le h1
 have e:=bits_and_u64_nat x 1 (by omega) (by omega)
 have f:x&&&1=x%2:=Nat.and_two_pow_sub_one_eq_mod x 1
 rw[f] at e
 exact e.trans (by omega)
theorem W_shr (x:Int) (n:Nat) (hx:W64 x):W64 (x/2^n):=by
 obtain⟨x1,x2⟩:=hx
 have p:(0:Int)<2^n:=Int.pow_pos (by omega)
 have h1:0<=x/2^n:=Int.ediv_nonneg x1 (by omega)
 have h2:x/2^n<=x:=Int.ediv_le_self _ x1
 exact⟨h1,by omega⟩
theorem bit_out (a b c d i:Int) (w:World) (h:i<0\/256<=i):
 CC 104 #[A4 a b c d,iI i] w (.bool false):=by
 by_cases h0:i<0
 ·go_enter Tryz.func104,Tryz.ntmps104
  go_wp2
  go_ret
  exact⟨rfl,by go_grown⟩
 ·have h1:256<=i:=by omega
  go_enter Tryz.func104,Tryz.ntmps104
  go_wp2
  go_ret
  exact⟨rfl,by go_grown⟩
theorem bit_in0 (a b c d i r:Int) (w:World) (hx:W64 a) (h0:0<=i) (h1:i<256) (hk:i/64=0) (hr:i%64=r) (r0:0<=r) (r1:r<=63):
 CC 104 #[A4 a b c d,iI i] w (.bool (a/2^r.toNat%2==1)):=by
 have ha:=and1 _ (W_shr a r.toNat hx)
 go_enter Tryz.func104,Tryz.ntmps104
 go_wp2
 go_ret
 exact⟨rfl,by go_grown⟩
theorem bit_in1 (a b c d i r:Int) (w:World) (hx:W64 b) (h0:0<=i) (h1:i<256) (hk:i/64=1) (hr:i%64=r) (r0:0<=r) (r1:r<=63):
 CC 104 #[A4 a b c d,iI i] w (.bool (b/2^r.toNat%2==1)):=by
 have ha:=and1 _ (W_shr b r.toNat hx)
 go_enter Tryz.func104,Tryz.ntmps104
 go_wp2
 go_ret
 exact⟨rfl,by go_grown⟩
theorem bit_in2 (a b c d i r:Int) (w:World) (hx:W64 c) (h0:0<=i) (h1:i<256) (hk:i/64=2) (hr:i%64=r) (r0:0<=r) (r1:r<=63):
 CC 104 #[A4 a b c d,iI i] w (.bool (c/2^r.toNat%2==1)):=by
 have ha:=and1 _ (W_shr c r.toNat hx)
 go_enter Tryz.func104,Tryz.ntmps104
 go_wp2
 go_ret
 exact⟨rfl,by go_grown⟩
theorem bit_in3 (a b c d i r:Int) (w:World) (hx:W64 d) (h0:0<=i) (h1:i<256) (hk:i/64=3) (hr:i%64=r) (r0:0<=r) (r1:r<=63):
 CC 104 #[A4 a b c d,iI i] w (.bool (d/2^r.toNat%2==1)):=by
 have ha:=and1 _ (W_shr d r.toNat hx)
 go_enter Tryz.func104,Tryz.ntmps104
 go_wp2
 go_ret
 exact⟨rfl,by go_grown⟩
theorem Bit_any (a b c d i:Int) (w:World) (ha:W64 a) (hb:W64 b) (hc:W64 c) (hd:W64 d):
 CC 104 #[A4 a b c d,iI i] w (.bool (bitv a b c d i)):=by
 by_cases h:i<0\/256<=i
 ·have e:bitv a b c d i=false:=by
   unfold bitv;rcases h with h | h
   ·simp;omega
   ·simp;omega
  rw[e];exact bit_out a b c d i w h
 ·have h0:0<=i:=by omega
  have h1:i<256:=by omega
  have hc4:i/64=0\/i/64=1\/i/64=2\/i/64=3:=by omega
  unfold bitv wordOf
  simp only[h0,h1,decide_true,Bool.true_and]
  rcases hc4 with hk | hk | hk | hk
  ·rw[hk];exact bit_in0 a b c d i (i%64) w ha h0 h1 hk rfl (by omega) (by omega)
  ·rw[hk];exact bit_in1 a b c d i (i%64) w hb h0 h1 hk rfl (by omega) (by omega)
  ·rw[hk];exact bit_in2 a b c d i (i%64) w hc h0 h1 hk rfl (by omega) (by omega)
  ·rw[hk];exact bit_in3 a b c d i (i%64) w hd h0 h1 hk rfl (by omega) (by omega)
def lenI (e:Int):Int:=blen (D0 e) (D1 e) (D2 e) (D3 e)
def bitI (e i:Int):Bool:=decide (e/2^i.toNat%2=1)
theorem nLen (e:Int) (w:World):CC 93 #[NV e] w (iI (lenI e)):=
 T4 _ _ _ _ w (W_D0 e) (W_D1 e) (W_D2 e) (W_D3 e)
theorem lenI_bd (e:Int):0<=lenI e/\lenI e<=256:=by
 have a:=Vr _ (W_D0 e);have b:=Vr _ (W_D1 e);have c:=Vr _ (W_D2 e);have d:=Vr _ (W_D3 e)
 unfold lenI blen
 repeat' split
 all_goals omega
theorem bl_lt (x:Int) (h:W64 x) (h0:x≠0):x+1<=2^(bl x).toNat:=by
 obtain⟨h1,h2⟩:=h
 obtain⟨n,rfl⟩:=Int.eq_ofNat_of_zero_le h1
 have:=(Wz 64 n (by omega) (by omega) (by omega)).2.2
 unfold bl
 simp only[Int.toNat_natCast]
 have e:((2^Lib.bitLen n:Nat):Int)=(2:Int)^Lib.bitLen n:=by simp
 omega
theorem top_lt (x k:Int) (h:W64 x) (h0:x≠0) (hk:0<=k):(x+1)*2^k.toNat<=2^(k+bl x).toNat:=by
 have hb:=Vr x h
 rw[Int.toNat_add hk hb.1,Int.pow_add,Int.mul_comm]
 exact Int.mul_le_mul_of_nonneg_left (bl_lt x h h0) (Int.le_of_lt (Int.pow_pos (by decide)))
theorem lenI_lt {e:Int} (he:In e):e<2^(lenI e).toNat:=by
 have a:=W_D0 e;have b:=W_D1 e;have c:=W_D2 e;have d:=W_D3 e
 have hv:=V_In he
 have ha:=a;have hb:=b;have hc:=c;have hd:=d
 unfold W64 at a b c d
 unfold lenI blen
 unfold V at hv
 split
 ·have:=top_lt _ 192 hd ‹_› (by decide)
  have e2:((2:Int)^(192:Int).toNat)=0x1000000000000000000000000000000000000000000000000:=by decide
  rw[e2] at this
  omega
 ·split
  ·have:=top_lt _ 128 hc ‹_› (by decide)
   have e2:((2:Int)^(128:Int).toNat)=0x100000000000000000000000000000000:=by decide
   rw[e2] at this
   omega
  ·split
   ·have:=top_lt _ 64 hb ‹_› (by decide)
    have e2:((2:Int)^(64:Int).toNat)=18446744073709551616:=by decide
    rw[e2] at this
    omega
   ·split
    ·have:=bl_lt _ ha ‹_›
     omega
    ·have:e=0:=by omega
     rw[this];decide
theorem bit_mod (x:Int) (r:Nat) (hr:r<64):x%18446744073709551616/2^r%2=x/2^r%2:=by
 have e:=Int.mul_ediv_add_emod x 18446744073709551616
 have hp:(18446744073709551616:Int)=2^r*(2*2^(63 -r)):=by
  have:(18446744073709551616:Int)=2^(r+(1+(63 -r))):=by rw[show r+(1+(63 -r))=64 by omega];decide
  rw[this,Int.pow_add,Int.pow_add];simp
 have h2:(2:Int)^r≠0:=Int.ne_of_gt (Int.pow_pos (by decide))
 generalize x/18446744073709551616=q at *
 generalize x%18446744073709551616=s at *
 have hx:x=s+2^r*(2*2^(63 -r)*q):=by rw[<-e,hp];grind
 rw[hx,Int.add_mul_ediv_left _ _ h2,Int.mul_assoc,Int.add_mul_emod_self_left]
theorem bitv_I {e i:Int} (h0:0<=i) (h1:i<256):bitv (D0 e) (D1 e) (D2 e) (D3 e) i=bitI e i:=by
 unfold bitv bitI
 have hr:(i%64).toNat<64:=by omega
 have key: ∀(k:Int),wordOf (D0 e) (D1 e) (D2 e) (D3 e) i=e/2^(64*(i/64)).toNat%18446744073709551616:=fun _=>by
  unfold wordOf
  have h4:i/64=0\/i/64=1\/i/64=2\/i/64=3:=by omega
  rcases h4 with h | h | h | h<;>rw[h]
  ·simp[D0]
  ·have e2:((2:Int)^(64*(1:Int)).toNat)=18446744073709551616:=by decide
   rw[e2];simp[D1]
  ·have e2:((2:Int)^(64*(2:Int)).toNat)=0x100000000000000000000000000000000:=by decide
   rw[e2];simp[D2]
  ·have e2:((2:Int)^(64*(3:Int)).toNat)=0x1000000000000000000000000000000000000000000000000:=by decide
   rw[e2];simp[D3]
 rw[key 0,bit_mod _ _ hr,Int.ediv_ediv_of_nonneg (Int.le_of_lt (Int.pow_pos (by decide))),<-Int.pow_add,<-Int.toNat_add (by omega) (by omega),show 64*(i/64)+i%64=i by omega]
 simp[h0,h1]
 rw[Bool.eq_iff_iff];simp
theorem nBit (e i:Int) (w:World) (h0:0<=i) (h1:i<256):CC 104 #[NV e,iI i] w (.bool (bitI e i)):=by
 rw[<-bitv_I h0 h1];exact Bit_any _ _ _ _ i w (W_D0 e) (W_D1 e) (W_D2 e) (W_D3 e)
theorem top_step (e:Int) (he:0<=e) (k:Nat):e/2^k=2*(e/2^(k+1))+(if bitI e k then 1 else 0):=by
 unfold bitI
 rw[Int.toNat_natCast,Int.pow_succ,<-Int.ediv_ediv_of_nonneg (Int.le_of_lt (Int.pow_pos (by decide)))]
 generalize e/2^k=q
 by_cases h:q%2=1<;>simp[h]<;>omega
theorem bitd_any (g cap k:Nat) (x i r:Int) (w:World) (hk8:(k:Int)<8) (hk0:(0:Int)<=(k:Int)) (hc:w.cell? ⟨g,k,none⟩=some (iU x)) (x0:0<=x) (x1:x<18446744073709551616)
 (h0:0<=i) (h1:i<256) (hk:i/32=(k:Int)) (hr:i%32=r) (r0:0<=r) (r1:r<=31):
 Calls Tryz.prog 88 #[.slice (some ⟨g,0,none⟩) 8 cap,iI i] w fun en w'=>en= .returned (iU (x/2^r.toNat%2))/\w'=w:=by
 go_enter Tryz.func88,Tryz.ntmps88
 go_wp2
 go_loop [5,6] (fun s5 s6=> ∃j:Nat,(j:Int)<=r/\s6=iI j/\s5=iU (x/2^j)) (fun _ s6=>(r -intOf s6).toNat)
 case atStart=>exact⟨0,by omega,rfl,by simp⟩
 case round=>
  obtain⟨j,hj,rfl,rfl⟩:=hrel
  have hw:=W_shr x j ⟨x0,x1⟩
  obtain⟨hw0,hw1⟩:=hw
  have hstep:x/2^j/2=x/2^(j+1):=by rw[Int.pow_succ,Int.ediv_ediv_of_nonneg (Int.le_of_lt (Int.pow_pos (by omega)))]
  have HS:Hid (x/2^j/2=x/2^(j+1)):=hstep
  clear hstep hc
  by_cases hlt:(j:Int)<r
  ·go_wp2
   go_round
   case rel=>exact⟨j+1,by omega,by go_num,congrArg (Value.int IntKind.u64) HS.out⟩
   case measure=>simp[intOf];omega
  ·have hjr:j=r.toNat:=by omega
   subst hjr
   go_wp2
   go_ret
   exact⟨rfl,rfl⟩
theorem half_lo (x:Int) (n:Nat) (h:n<=31):x%4294967296/2^n%2=x/2^n%2:=by
 have p:(0:Int)<2^n:=Int.pow_pos (by omega)
 have e:(4294967296:Int)=2^n*(2*2^(31 -n)):=by
  rw[<-Int.mul_assoc,Int.mul_comm ((2:Int)^n) 2,Int.mul_assoc,<-Int.pow_add,show n+(31 -n)=31 by omega];rfl
 have m:=Int.mul_ediv_add_emod x 4294967296
 have hx:x=x%4294967296+2^n*(2*(2^(31 -n)*(x/4294967296))):=by
  have hq: ∀q:Int,(2:Int)^n*(2*(2^(31 -n)*q))=4294967296*q:=fun q=>by
   conv=>rhs;rw[e]
   rw[Int.mul_assoc,Int.mul_assoc]
  have:=hq (x/4294967296)
  omega
 have h2:x/2^n=x%4294967296/2^n+2*(2^(31 -n)*(x/4294967296)):=by
  conv=>lhs;rw[hx]
  rw[Int.add_mul_ediv_left _ _ (by omega)]
 rw[h2];omega
theorem half_hi (x:Int) (n:Nat):x/4294967296/2^n=x/2^(32+n):=by
 rw[Int.ediv_ediv_of_nonneg (by omega),Int.pow_add];rfl
theorem rbit_out (a b c d i:Int) (w:World) (h:i<0\/256<=i):
 CC 69 #[A4 a b c d,iI i] w (.bool false):=by
 by_cases h0:i<0
 ·go_enter Tryz.func69,Tryz.ntmps69
  go_wp2
  go_ret
  exact⟨rfl,by go_grown⟩
 ·have h1:256<=i:=by omega
  have h2:0<=i:=by omega
  go_enter Tryz.func69,Tryz.ntmps69
  go_wp2
  go_ret
  exact⟨rfl,by go_grown⟩
theorem V9 (a b c d i r x:Int) (k:Nat) (w:World) (ha:W64 a) (hb:W64 b) (hc:W64 c) (hd:W64 d) (h0:0<=i) (h1:i<256) (hk8:(k:Int)<8) (hk:i/32=(k:Int)) (hr:i%32=r) (hx:(dgl 4 a b c d)[k]?=some (iU x)) (x0:0<=x) (x1:x<18446744073709551616):
 CC 69 #[A4 a b c d,iI i] w (.bool (x/2^r.toNat%2==1)):=by
 have HX:Hid _:=hx
 clear hx
 go_enter Tryz.func69,Tryz.ntmps69
 go_wp2_with fail
 refine(Vm _ a b c d _ (by unfold C4;simp[go_sem]) ha hb hc hd).mono ?_
 rintro en w1 ⟨g,cap,rfl,hown,hB⟩
 have hcell:=hown.cells (g:=g) rfl k _ HX.out
 have hadd:(⟨g,0,none⟩:Addr).add k=⟨g,k,none⟩:=by unfold Addr.add;split<;>simp_all
 rw[hadd] at hcell
 have hB':Bw w w1:=Yu (Z2 (Zm w) _) hB
 clear hown hB hadd
 have HC:Hid _:=hcell
 clear hcell
 go_wp2_with fail
 refine(bitd_any g cap k x i r _ hk8 (by omega) HC.out x0 x1 h0 h1 hk hr (by omega) (by omega)).mono ?_
 rintro en w2 ⟨rfl,rfl⟩
 go_wp2
 go_ret
 exact⟨rfl,hB'⟩
theorem rBit_any (a b c d i:Int) (w:World) (ha:W64 a) (hb:W64 b) (hc:W64 c) (hd:W64 d):
 CC 69 #[A4 a b c d,iI i] w (.bool (bitv a b c d i)):=by
 by_cases h:i<0\/256<=i
 ·have e:bitv a b c d i=false:=by
   unfold bitv;rcases h with h | h
   ·simp;omega
   ·simp;omega
  rw[e];exact rbit_out a b c d i w h
 ·have h0:0<=i:=by omega
  have h1:i<256:=by omega
  have hc8:i/32=0\/i/32=1\/i/32=2\/i/32=3\/i/32=4\/i/32=5\/i/32=6\/i/32=7:=by omega
  unfold bitv wordOf
  simp only[h0,h1,decide_true,Bool.true_and]
  have ha':=ha;have hb':=hb;have hc':=hc;have hd':=hd
  obtain⟨a1,a2⟩:=ha';obtain⟨b1,b2⟩:=hb';obtain⟨c1,c2⟩:=hc';obtain⟨d1,d2⟩:=hd'
  rcases hc8 with hk | hk | hk | hk | hk | hk | hk | hk
  ·have hq:i/64=0:=by omega
   have:=V9 a b c d i (i%32) (a%4294967296) 0 w ha hb hc hd h0 h1 (by omega) hk rfl rfl (by omega) (by omega)
   rw[hq]
   rw[half_lo a (i%32).toNat (by omega),show (i%32).toNat=(i%64).toNat by omega] at this
   exact this
  ·have hq:i/64=0:=by omega
   have:=V9 a b c d i (i%32) (a/4294967296) 1 w ha hb hc hd h0 h1 (by omega) hk rfl rfl (by omega) (by omega)
   rw[hq]
   rw[half_hi a (i%32).toNat,show 32+(i%32).toNat=(i%64).toNat by omega] at this
   exact this
  ·have hq:i/64=1:=by omega
   have:=V9 a b c d i (i%32) (b%4294967296) 2 w ha hb hc hd h0 h1 (by omega) hk rfl rfl (by omega) (by omega)
   rw[hq]
   rw[half_lo b (i%32).toNat (by omega),show (i%32).toNat=(i%64).toNat by omega] at this
   exact this
  ·have hq:i/64=1:=by omega
   have:=V9 a b c d i (i%32) (b/4294967296) 3 w ha hb hc hd h0 h1 (by omega) hk rfl rfl (by omega) (by omega)
   rw[hq]
   rw[half_hi b (i%32).toNat,show 32+(i%32).toNat=(i%64).toNat by omega] at this
   exact this
  ·have hq:i/64=2:=by omega
   have:=V9 a b c d i (i%32) (c%4294967296) 4 w ha hb hc hd h0 h1 (by omega) hk rfl rfl (by omega) (by omega)
   rw[hq]
   rw[half_lo c (i%32).toNat (by omega),show (i%32).toNat=(i%64).toNat by omega] at this
   exact this
  ·have hq:i/64=2:=by omega
   have:=V9 a b c d i (i%32) (c/4294967296) 5 w ha hb hc hd h0 h1 (by omega) hk rfl rfl (by omega) (by omega)
   rw[hq]
   rw[half_hi c (i%32).toNat,show 32+(i%32).toNat=(i%64).toNat by omega] at this
   exact this
  ·have hq:i/64=3:=by omega
   have:=V9 a b c d i (i%32) (d%4294967296) 6 w ha hb hc hd h0 h1 (by omega) hk rfl rfl (by omega) (by omega)
   rw[hq]
   rw[half_lo d (i%32).toNat (by omega),show (i%32).toNat=(i%64).toNat by omega] at this
   exact this
  ·have hq:i/64=3:=by omega
   have:=V9 a b c d i (i%32) (d/4294967296) 7 w ha hb hc hd h0 h1 (by omega) hk rfl rfl (by omega) (by omega)
   rw[hq]
   rw[half_hi d (i%32).toNat,show 32+(i%32).toNat=(i%64).toNat by omega] at this
   exact this
theorem bl_zero:bl 0=0:=by decide
theorem bl_half (x:Int) (h0:0<x) (h1:x<18446744073709551616):bl x=1+bl (x/2):=by
 unfold bl
 have e:=Lib.bitLen_half x.toNat (by omega) (by omega)
 rw[show (x/2).toNat=x.toNat/2 by omega,e];omega
theorem bl_pos (x:Int) (h0:0<x) (h1:x<18446744073709551616):0<bl x:=(bl_spec x ⟨by omega,h1⟩ (by omega)).1
theorem bl_le32 (x:Int) (h:H32 x):0<=bl x/\bl x<=32:=by
 obtain⟨h0,h1⟩:=h
 have:=Lib.bitLen_le x.toNat 32 (by omega) (by omega)
 unfold bl;omega
theorem lo32' (x:Int):H32 (x%4294967296):=by unfold H32;omega
theorem hi32' (x:Int) (h:W64 x):H32 (x/4294967296):=by unfold W64 at h;unfold H32;omega
theorem len_core (g cap:Nat) (x:Nat->Int) (R:Int) (w:World) (hc:Hid (∀j,j<8->w.cell? ⟨g,j,none⟩=some (iU (x j)))) (hx:Hid (∀j,j<8->H32 (x j))) (hR0:Hid ((∀j,j<8->x j=0)->R=0)) (hR:Hid (∀i,i<8->x i≠0->(∀j,i<j->j<8->x j=0)->R=32*(i:Int)+bl (x i))):
 Calls Tryz.prog 87 #[.slice (some ⟨g,0,none⟩) 8 cap] w fun en w'=>en= .returned (iI R)/\w'=w:=by
 go_enter Tryz.func87,Tryz.ntmps87
 go_wp2
 go_loop [3,4,5] (fun s _ _=> ∃k:Nat,k<=8/\s=iI ((k:Int) -1)/\Hid (∀j,k<=j->j<8->x j=0)) (fun s _ _=>((intOf s)+1).toNat)
 case atStart=>exact⟨8,by omega,rfl,fun j h1 h2=>by omega⟩
 case round=>
  obtain⟨k,hk,rfl,hz⟩:=hrel
  match k,hk,hz with
  | 0,hk,hz=>
   have h0: ¬(0:Int)<=((0:Nat):Int) -1:=by omega
   have e:Hid (R=0):=hR0.out fun j hj=>hz.out j (by omega) hj
   go_wp2
   exact bodyPost_ret (v:=iI 0) (by simp[results,Tryz.results87,go_sem]) rfl ⟨by rw[e.out],rfl⟩
  | i+1,hk,hz=>
   have h0:(0:Int)<=((i+1:Nat):Int) -1:=by omega
   have ei:((i+1:Nat):Int) -1=(i:Int):=by omega
   have hi8:(i:Int)<8:=by omega
   have hci:=hc.out i (by omega)
   have hxi:=hx.out i (by omega)
   have hRi:=hR.out i (by omega)
   have hz2:Hid (x i=0-> ∀j,i<=j->j<8->x j=0):=fun e j h1 h2=>by
    by_cases h3:j=i
    ·rw[h3,e]
    ·exact hz.out j (by omega) h2
   have hRi:Hid (x i≠0->R=32*(i:Int)+bl (x i)):=fun h=>hRi h fun j h1 h2=>hz.out j (by omega) h2
   obtain⟨y,ey⟩: ∃y,x i=y:=⟨_,rfl⟩
   rw[ey] at hci hxi hRi hz2
   have hbd:=bl_le32 y hxi
   have xl:=hxi.1
   have xu:=hxi.2
   rw[ei] at h0⊢
   clear ey ei hz
   go_wp2
   go_loop [4,5] (fun s4 s5=> ∃n c:Int,s4=iI n/\s5=iU c/\0<=n/\n<=32/\0<=c/\c<4294967296/\Hid (n+bl c=bl y)) (fun _ s5=>(intOf s5).toNat)
   case atStart=>exact⟨0,y,rfl,rfl,by omega,by omega,xl,xu,by show 0+bl y=bl y;omega⟩
   case round=>
    obtain⟨n,c,rfl,rfl,n1,n2,c1,c2,he⟩:=hrel
    by_cases hc0:0<c
    ·have hh:=bl_half c hc0 (by omega)
     have hp:=(Vr (c/2) ⟨by omega,by omega⟩).1
     have he2:Hid (n+1+bl (c/2)=bl y):=by have:=he.out;show n+1+bl (c/2)=bl y;omega
     have hn3:n+1<=32:=by have:=he2.out;omega
     clear hh hp he
     go_wp2
     exact⟨⟨n+1,c/2,by go_num,rfl,by omega,hn3,by omega,by omega,he2⟩,by simp[intOf];omega⟩
    ·obtain rfl:c=0:=by omega
     have he:=he.out
     rw[bl_zero,Int.add_zero] at he
     by_cases hn0:0<n
     ·have hy:y≠0:=fun e=>by rw[e,bl_zero] at he;omega
      have hRR:Hid (R=32*(i:Int)+n):=by show R=_;rw[hRi.out hy,<-he]
      clear he
      have m1:IntKind.i64.wrap (32*(i:Int))=32*(i:Int):=by rw[IntKind.wrap_i64];omega
      have m2:IntKind.i64.wrap (32*(i:Int)+n)=32*(i:Int)+n:=by rw[IntKind.wrap_i64];omega
      go_wp2
      exact bodyPost_ret (v:=iI (32*(i:Int)+n)) (by simp[results,Tryz.results87,go_sem]) rfl ⟨by rw[hRR.out],rfl⟩
     ·have hy:y=0:=by
       by_cases e:y=0
       ·exact e
       ·have:=bl_pos y (by omega) (by omega);omega
      have hz3:Hid _:=hz2.out hy
      clear he hy
      have m3:IntKind.i64.wrap ((i:Int) -1)=(i:Int) -1:=by rw[IntKind.wrap_i64];omega
      go_wp2
      exact⟨⟨i,by omega,rfl,hz3.out⟩,by simp[intOf]<;>omega⟩
theorem bl_hi (x:Int) (h:W64 x) (hx: ¬x/4294967296=0):bl x=32+bl (x/4294967296):=by
 obtain⟨h0,h1⟩:=h
 unfold bl
 have e:=Lib.bitLen_shift32 x.toNat (by omega) (by omega)
 rw[show (x/4294967296).toNat=x.toNat/4294967296 by omega,e];omega
theorem bl_lo (x:Int) (h:W64 x) (hx:x/4294967296=0):bl x=bl (x%4294967296):=by
 obtain⟨h0,h1⟩:=h
 rw[show x%4294967296=x by omega]
theorem blen_dig (a b c d:Int) (ha:W64 a) (hb:W64 b) (hc:W64 c) (hd:W64 d):(∀i,i<8->[a%4294967296,a/4294967296,b%4294967296,b/4294967296,c%4294967296,c/4294967296,d%4294967296,d/4294967296].getD i 0≠0->(∀j,i<j->j<8->[a%4294967296,a/4294967296,b%4294967296,b/4294967296,c%4294967296,c/4294967296,d%4294967296,d/4294967296].getD j 0=0)->blen a b c d=32*(i:Int)+bl ([a%4294967296,a/4294967296,b%4294967296,b/4294967296,c%4294967296,c/4294967296,d%4294967296,d/4294967296].getD i 0))/\((∀j,j<8->[a%4294967296,a/4294967296,b%4294967296,b/4294967296,c%4294967296,c/4294967296,d%4294967296,d/4294967296].getD j 0=0)->blen a b c d=0):=by
 have hi: ∀x,W64 x->x/4294967296≠0->x≠0/\bl x=32+bl (x/4294967296):=fun x hx h=>⟨by omega,bl_hi x hx h⟩
 have lo: ∀x,W64 x->x%4294967296≠0->x/4294967296=0->x≠0/\bl x=bl (x%4294967296):=fun x hx h h2=>⟨by omega,bl_lo x hx h2⟩
 have zz: ∀x:Int,x%4294967296=0->x/4294967296=0->x=0:=fun x h1 h2=>by omega
 have A3:d≠0->blen a b c d=192+bl d:=fun h=>by unfold blen;rw[if_pos h]
 have A2:d=0->c≠0->blen a b c d=128+bl c:=fun h h2=>by unfold blen;rw[if_neg (by simp[h]),if_pos h2]
 have A1:d=0->c=0->b≠0->blen a b c d=64+bl b:=fun h h2 h3=>by unfold blen;rw[if_neg (by simp[h]),if_neg (by simp[h2]),if_pos h3]
 have A0:d=0->c=0->b=0->a≠0->blen a b c d=bl a:=fun h h2 h3 h4=>by unfold blen;rw[if_neg (by simp[h]),if_neg (by simp[h2]),if_neg (by simp[h3]),if_pos h4]
 refine⟨fun i h8 h z=>?_,fun z=>?_⟩
 ·match i,h8,h,z with
  | 7,_,h,z=>obtain⟨h1,h2⟩:=hi d hd h;rw[A3 h1,h2];simp;omega
  | 6,_,h,z=>obtain⟨h1,h2⟩:=lo d hd h (z 7 (by decide) (by decide));rw[A3 h1,h2];simp
  | 5,_,h,z=>obtain⟨h1,h2⟩:=hi c hc h;rw[A2 (zz d (z 6 (by decide) (by decide)) (z 7 (by decide) (by decide))) h1,h2];simp;omega
  | 4,_,h,z=>obtain⟨h1,h2⟩:=lo c hc h (z 5 (by decide) (by decide));rw[A2 (zz d (z 6 (by decide) (by decide)) (z 7 (by decide) (by decide))) h1,h2];simp
  | 3,_,h,z=>obtain⟨h1,h2⟩:=hi b hb h;rw[A1 (zz d (z 6 (by decide) (by decide)) (z 7 (by decide) (by decide))) (zz c (z 4 (by decide) (by decide)) (z 5 (by decide) (by decide))) h1,h2];simp;omega
  | 2,_,h,z=>obtain⟨h1,h2⟩:=lo b hb h (z 3 (by decide) (by decide));rw[A1 (zz d (z 6 (by decide) (by decide)) (z 7 (by decide) (by decide))) (zz c (z 4 (by decide) (by decide)) (z 5 (by decide) (by decide))) h1,h2];simp
  | 1,_,h,z=>obtain⟨h1,h2⟩:=hi a ha h;rw[A0 (zz d (z 6 (by decide) (by decide)) (z 7 (by decide) (by decide))) (zz c (z 4 (by decide) (by decide)) (z 5 (by decide) (by decide))) (zz b (z 2 (by decide) (by decide)) (z 3 (by decide) (by decide))) h1,h2];simp
  | 0,_,h,z=>obtain⟨h1,h2⟩:=lo a ha h (z 1 (by decide) (by decide));rw[A0 (zz d (z 6 (by decide) (by decide)) (z 7 (by decide) (by decide))) (zz c (z 4 (by decide) (by decide)) (z 5 (by decide) (by decide))) (zz b (z 2 (by decide) (by decide)) (z 3 (by decide) (by decide))) h1,h2];simp
 ·have e0:=zz a (z 0 (by decide)) (z 1 (by decide))
  have e1:=zz b (z 2 (by decide)) (z 3 (by decide))
  have e2:=zz c (z 4 (by decide)) (z 5 (by decide))
  have e3:=zz d (z 6 (by decide)) (z 7 (by decide))
  subst e0 e1 e2 e3;decide
theorem rLength_any (a b c d:Int) (w:World) (ha:W64 a) (hb:W64 b) (hc:W64 c) (hd:W64 d):
 CC 68 #[A4 a b c d] w (iI (blen a b c d)):=by
 obtain⟨B1,B2⟩:=blen_dig a b c d ha hb hc hd
 have B1:Hid _:=B1
 have B2:Hid _:=B2
 obtain⟨R,eR⟩: ∃R,blen a b c d=R:=⟨_,rfl⟩
 rw[eR] at B1 B2⊢
 clear eR
 go_enter Tryz.func68,Tryz.ntmps68
 go_wp2_with fail
 refine(Vm _ a b c d _ (by unfold C4;simp[go_sem]) ha hb hc hd).mono ?_
 rintro en w1 ⟨g,cap,rfl,hown,hB⟩
 have hadd: ∀k,(⟨g,0,none⟩:Addr).add k=⟨g,k,none⟩:=fun k=>by unfold Addr.add;split<;>simp_all
 have hcs: ∀k u,(dgl 4 a b c d)[k]?=some u->w1.cell? ⟨g,k,none⟩=some u:=fun k u hu=>by
  have:=hown.cells (g:=g) rfl k u hu
  rw[hadd] at this;exact this
 have HCS:Hid _:=hcs
 have hB':Bw w w1:=Yu (Z2 (Zm w) _) hB
 clear hown hB hadd hcs
 go_wp2_with fail
 refine(len_core g cap (fun j=>[a%4294967296,a/4294967296,b%4294967296,b/4294967296,c%4294967296,c/4294967296,d%4294967296,d/4294967296].getD j 0) R _ (fun j hj=>?_) (fun j hj=>?_) B2.out B1.out).mono ?_
 ·match j,hj with | 0,_=>exact HCS.out 0 _ rfl | 1,_=>exact HCS.out 1 _ rfl | 2,_=>exact HCS.out 2 _ rfl | 3,_=>exact HCS.out 3 _ rfl | 4,_=>exact HCS.out 4 _ rfl | 5,_=>exact HCS.out 5 _ rfl | 6,_=>exact HCS.out 6 _ rfl | 7,_=>exact HCS.out 7 _ rfl
 ·match j,hj with | 0,_=>exact lo32' a | 1,_=>exact hi32' a ha | 2,_=>exact lo32' b | 3,_=>exact hi32' b hb | 4,_=>exact lo32' c | 5,_=>exact hi32' c hc | 6,_=>exact lo32' d | 7,_=>exact hi32' d hd
 rintro en w2 ⟨rfl,rfl⟩
 go_wp2
 go_ret
 exact⟨rfl,hB'⟩
end Go.Proofs.YtofcppgfaelloaaGreatDoor
