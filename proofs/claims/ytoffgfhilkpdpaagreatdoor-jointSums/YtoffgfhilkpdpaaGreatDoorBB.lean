import Derived.Test.YtoffgfhilkpdpaaGreatDoorD0
import Derived.Shelf.Small.Bits
import Derived.Shelf.Bits.Mul64
namespace Go.Proofs.YtoffgfhilkpdpaaGreatDoor
set_option linter.unusedVariables false
set_option linter.unusedSimpArgs false
set_option maxRecDepth 100000
set_option maxHeartbeats 4000000
section
open Go.RowKit Go.Shelf
def rLen:Ren:=⟨fun n=>if n=134 then 165 else 130,fun n=>if n=46 then 198 else if n=53 then 22 else n,fun n=>n⟩
theorem laysLen:Lays.n134 Tryz.prog rLen where
 mixed:=by kernel_rfl
 f129:=by kernel_rfl
 f134:=by kernel_rfl
 t3:=by kernel_rfl
 a3:=fun _=>by kernel_rfl
 z3:=fun _=>by kernel_rfl
 v3:=fun _=>by kernel_rfl
 t4:=by kernel_rfl
 a4:=fun _=>by kernel_rfl
 z4:=fun _=>by kernel_rfl
 v4:=fun _=>by kernel_rfl
 t5:=by kernel_rfl
 a5:=fun _=>by kernel_rfl
 z5:=fun _=>by kernel_rfl
 v5:=fun _=>by kernel_rfl
 t9:=by kernel_rfl
 a9:=fun _=>by kernel_rfl
 z9:=fun _=>by kernel_rfl
 v9:=fun _=>by kernel_rfl
 t46:=by kernel_rfl
 a46:=fun _=>by kernel_rfl
 z46:=fun _=>by kernel_rfl
 v46:=fun _=>by kernel_rfl
 t53:=by kernel_rfl
 a53:=fun _=>by kernel_rfl
 z53:=fun _=>by kernel_rfl
 v53:=fun _=>by kernel_rfl
def bl(x:Int):Int:=(Lib.bitLen x.toNat:Int)
theorem len64_any(x:Int)(w:World)(hx:W64 x):Calls Tryz.prog 130 #[iU x] w fun e w'=>e= .returned (iI (bl x))/\w'=w:=
 Any.bits_Len64 {laysLen with} x w hx.1 (by have:=hx.2;omega)
theorem lead64_any(x:Int)(w:World)(hx:W64 x):Calls Tryz.prog 165 #[iU x] w fun e w'=>e= .returned (iI (64 -bl x))/\w'=w:=
 Any.bits_LeadingZeros64 laysLen x w hx.1 (by have:=hx.2;omega)
theorem Vm(x:Int)(hx:W64 x):0<=bl x/\bl x<=64:=by
 have h:=Lib.bitLen_le x.toNat 64 Z1 (by have:=hx.1;have:=hx.2;omega)
 unfold bl;omega
theorem Wo: ∀(k x:Nat),x<2^k->x≠0->k<=64->0<Lib.bitLen x/\2^(Lib.bitLen x -1)<=x/\x<2^Lib.bitLen x
 | 0,x,h,h0,_=>by simp at h;omega
 | k+1,x,h,h0,hk=>by
  have hx:x<2^64:=Nat.lt_of_lt_of_le h (Nat.pow_le_pow_right Z1 hk)
  rw[Lib.bitLen_half x h0 hx]
  by_cases h1:x/2=0
  ·have hz:Lib.bitLen (x/2)=0:=by rw[h1];decide
   rw[hz];simp;omega
  ·obtain⟨p,q,r⟩:=Wo k (x/2) (by rw[Nat.pow_succ] at h;omega) h1 Z1
   refine⟨Z1,?_,?_⟩
   ·have e:1+Lib.bitLen (x/2) -1=(Lib.bitLen (x/2) -1)+1:=Z1
    rw[e,Nat.pow_succ];omega
   ·have e:1+Lib.bitLen (x/2)=Lib.bitLen (x/2)+1:=Z1
    rw[e,Nat.pow_succ];omega
theorem bl_top(x:Int)(hx:W64 x)(h:9223372036854775808<=x):bl x=64:=by
 have hb:=Vm x hx
 obtain⟨_,_,r⟩:=Wo 64 x.toNat (by have:=hx.2;omega) Z1 Z1
 have: ¬Lib.bitLen x.toNat<=63:=fun hle=>by
  have:=Nat.pow_le_pow_right (n:=2) Z1 hle
  omega
 unfold bl at *;omega
end
section
open Go.RowKit
def blen(a b c d:Int):Int:=if d≠0 then 192+bl d else if c≠0 then 128+bl c else if b≠0 then 64+bl b else if a≠0 then bl a else 0
theorem Uq(a b c d:Int)(w:World)(ha:W64 a)(hb:W64 b)(hc:W64 c)(hd:W64 d):
 CC 118 #[A4 a b c d] w (iI (blen a b c d)):=by
 obtain⟨a1,a2⟩:=Vm a ha;obtain⟨b1,b2⟩:=Vm b hb;obtain⟨c1,c2⟩:=Vm c hc;obtain⟨d1,d2⟩:=Vm d hd
 unfold blen
 go_enter Tryz.func118,Tryz.ntmps118
 go_wp2
 refine wp_loop_rounds 5 ?_
 repeat any_goals (rw[rounds_succ];go_wp2_with (go_at_call 130;refine(len64_any _ _ (by assumption)).mono ?_;rintro e w' ⟨rfl,rfl⟩))
 all_goals (go_ret;refine⟨?_,by go_grown⟩;simp_all)
theorem bl_spec(x:Int)(hx:W64 x)(h:x≠0):0<bl x/\(2:Int)^(bl x -1).toNat<=x/\x<2^(bl x).toNat:=by
 obtain⟨x1,x2⟩:=hx
 obtain⟨p,q,r⟩:=Wo 64 x.toNat Z1 Z1 Z1
 have e1:(bl x -1).toNat=Lib.bitLen x.toNat -1:=by unfold bl;omega
 have e2:(bl x).toNat=Lib.bitLen x.toNat:=by unfold bl;omega
 rw[e1,e2]
 have q':((2^(Lib.bitLen x.toNat -1):Nat):Int)<=((x.toNat:Nat):Int):=Int.ofNat_le.2 q
 have r':((x.toNat:Nat):Int)<((2^Lib.bitLen x.toNat:Nat):Int):=Int.ofNat_lt.2 r
 simp only[Int.natCast_pow,Int.cast_ofNat_Int] at q' r'
 exact⟨by unfold bl;omega,Z1,Z1⟩
theorem lift_top(a b c d:Int)(ha:W64 a)(hb:W64 b)(hc:W64 c)(hd:W64 d)(h:V a b c d≠0):
 0<=256 -blen a b c d/\256 -blen a b c d<=255/\0x8000000000000000000000000000000000000000000000000000000000000000<=V a b c d*2^(256 -blen a b c d).toNat/\V a b c d*2^(256 -blen a b c d).toNat<0x10000000000000000000000000000000000000000000000000000000000000000:=by
 have key: ∀(k:Nat) (x low:Int),k<=192->W64 x->x≠0->0<=low->low<2^k->V a b c d=low+x*2^k->blen a b c d=k+bl x->
  0<=256 -blen a b c d/\256 -blen a b c d<=255/\0x8000000000000000000000000000000000000000000000000000000000000000<=V a b c d*2^(256 -blen a b c d).toNat/\V a b c d*2^(256 -blen a b c d).toNat<0x10000000000000000000000000000000000000000000000000000000000000000:=by
  intro k x low hk hx h0 l1 l2 e1 e2
  obtain⟨p,q,r⟩:=bl_spec x hx h0
  have hb2:=Vm x hx
  refine⟨Z1,Z1,?_,?_⟩
  ·have h1:(2:Int)^(bl x -1).toNat*2^k<=V a b c d:=by
    have:=Int.mul_le_mul_of_nonneg_right q (show (0:Int)<=2^k from Int.le_of_lt (Int.pow_pos Z1))
    omega
   have h2:=Int.mul_le_mul_of_nonneg_right h1 (show (0:Int)<=2^(256 -blen a b c d).toNat from Int.le_of_lt (Int.pow_pos Z1))
   rw[<-Int.pow_add,<-Int.pow_add,show (bl x -1).toNat+k+(256 -blen a b c d).toNat=255 by omega] at h2
   exact h2
  ·have h1:V a b c d<(2:Int)^(bl x).toNat*2^k:=by
    have h3:x+1<=2^(bl x).toNat:=r
    have:=Int.mul_le_mul_of_nonneg_right h3 (show (0:Int)<=2^k from Int.le_of_lt (Int.pow_pos Z1))
    rw[Int.add_mul] at this
    omega
   have h2:=Int.mul_lt_mul_of_pos_right h1 (show (0:Int)<2^(256 -blen a b c d).toNat from Int.pow_pos Z1)
   rw[<-Int.pow_add,<-Int.pow_add,show (bl x).toNat+k+(256 -blen a b c d).toNat=256 by omega] at h2
   exact h2
 have ha':=ha;have hb':=hb;have hc':=hc
 obtain⟨a1,a2⟩:=ha';obtain⟨b1,b2⟩:=hb';obtain⟨c1,c2⟩:=hc'
 by_cases h3:d=0
 ·by_cases h2:c=0
  ·by_cases h1:b=0
   ·have h0:a≠0:=by intro h0;apply h;rw[h0,h1,h2,h3];rfl
    exact key 0 a 0 Z1 ha h0 Z1 Z2 (by subst h3 h2 h1;unfold V;omega) (by unfold blen;simp[h3,h2,h1,h0])
   ·exact key 64 b a Z1 hb h1 a1 (by simpa using a2) (by subst h3 h2;unfold V;omega) (by unfold blen;simp[h3,h2,h1])
  ·exact key 128 c (a+b*18446744073709551616) Z1 hc h2 Z1 (by show _<(0x100000000000000000000000000000000:Int);omega) (by subst h3;unfold V;omega) (by unfold blen;simp[h3,h2])
 ·exact key 192 d (a+b*18446744073709551616+c*0x100000000000000000000000000000000) Z1 hd h3 Z1 (by show _<(0x1000000000000000000000000000000000000000000000000:Int);omega) (by unfold V;omega) (by unfold blen;simp[h3])
end
section
def Qd(u v h l:Int):Int:=(u*4294967296+v)/(h*4294967296+l)
theorem qd_start(u v h l q r:Int)(hv:0<=v/\v<4294967296)(hh:2147483648<=h/\h<4294967296)(hl:0<=l/\l<4294967296)(hu:0<=u/\u<h*4294967296+l)
 (e:u=q*h+r)(hr:0<=r/\r<h):Qd u v h l<=q/\q<=4294967297/\0<=Qd u v h l/\Qd u v h l<4294967296:=by
 have h0:0<h*4294967296+l:=Z1
 have hq:q<=4294967297:=by
  by_cases c:4294967298<=q
  ·have:4294967298*h<=q*h:=Int.mul_le_mul_of_nonneg_right c Z1
   omega
  ·omega
 refine⟨?_,hq,Int.ediv_nonneg Z1 Z1,?_⟩
 ·
   have h1:Qd u v h l*(h*4294967296+l)<=u*4294967296+v:=Int.ediv_mul_le _ Z1
   have h2:0<=Qd u v h l:=Int.ediv_nonneg Z1 Z1
   generalize Qd u v h l=Q at *
   have h3:Q*(h*4294967296+l)=Q*h*4294967296+Q*l:=by rw[Int.mul_add,Int.mul_assoc]
   have h4:0<=Q*l:=Int.mul_nonneg h2 hl.1
   by_cases c:q+1<=Q
   ·have h5:(q+1)*h<=Q*h:=Int.mul_le_mul_of_nonneg_right c Z1
    rw[Int.add_mul] at h5
    omega
   ·omega
 ·unfold Qd
  exact Int.ediv_lt_of_lt_mul h0 Z1
theorem qd_test(u v h l q r:Int)(hv:0<=v/\v<4294967296)(hh:2147483648<=h/\h<4294967296)(hl:0<=l/\l<4294967296)(e:u=q*h+r):
 (4294967296*r+v<q*l->Qd u v h l<q)/\(q*l<=4294967296*r+v->q<=Qd u v h l):=by
 have h0:0<h*4294967296+l:=Z1
 have h3:q*(h*4294967296+l)=q*h*4294967296+q*l:=by rw[Int.mul_add,Int.mul_assoc]
 constructor
 ·intro c
  unfold Qd
  exact Int.ediv_lt_of_lt_mul h0 Z1
 ·intro c
  unfold Qd
  exact(Int.le_ediv_iff_mul_le h0).2 Z1
theorem qd_break(u v h l q r:Int)(hv:0<=v/\v<4294967296)(hh:2147483648<=h/\h<4294967296)(hl:0<=l/\l<4294967296)(e:u=q*h+r)(hq:0<=q/\q<=4294967296)(hr:4294967296<=r):q<=Qd u v h l:=by
 refine(qd_test u v h l q r hv hh hl e).2 ?_
 have:q*l<=4294967296*4294967296:=Int.mul_le_mul hq.2 Z1 hl.1 Z1
 omega
theorem qd_rest(u v h l:Int)(hv:0<=v/\v<4294967296)(hh:2147483648<=h/\h<4294967296)(hl:0<=l/\l<4294967296):
 0<=u*4294967296+v -Qd u v h l*(h*4294967296+l)/\u*4294967296+v -Qd u v h l*(h*4294967296+l)<h*4294967296+l:=by
 have h0:0<h*4294967296+l:=Z1
 have h1:Qd u v h l*(h*4294967296+l)<=u*4294967296+v:=Int.ediv_mul_le _ Z1
 have h2:=Int.lt_ediv_add_one_mul_self (u*4294967296+v) h0
 unfold Qd at *
 rw[Int.add_mul] at h2
 omega
theorem qd_two(u v1 v0 h l:Int)(hv1:0<=v1/\v1<4294967296)(hv0:0<=v0/\v0<4294967296)(hh:2147483648<=h/\h<4294967296)(hl:0<=l/\l<4294967296)(m:Int)(hm:m=u*4294967296+v1 -Qd u v1 h l*(h*4294967296+l)):
 Qd u v1 h l*4294967296+Qd m v0 h l=(u*18446744073709551616+(v1*4294967296+v0))/(h*4294967296+l):=by
 have h0:0<h*4294967296+l:=Z1
 have e:u*18446744073709551616+(v1*4294967296+v0)=(m*4294967296+v0)+(Qd u v1 h l*4294967296)*(h*4294967296+l):=by
  rw[hm,Int.mul_right_comm (Qd u v1 h l)];omega
 rw[e,Int.add_mul_ediv_right _ _ Z1]
 unfold Qd;omega
end
section
open Go.RowKit
theorem div64_0(lo y:Int)(w:World)(hl:W64 lo)(hy:W64 y)(h2:9223372036854775808<=y):
 Calls Tryz.prog 160 #[iU 0,iU lo,iU y] w fun e w'=>(∃r,e= .returned (.tuple #[iU (lo/y),iU r]))/\Bw w w':=by
 obtain⟨l1,l2⟩:=hl;obtain⟨y1,y2⟩:=hy
 have hy0:(y==0)=false:=by simp;omega
 go_enter Tryz.func160,Tryz.ntmps160
 go_wp2
 go_quiet (fail)
 go_wp2
 go_ret2
 exact⟨⟨_,rfl⟩,below_drewN (Below.refl _ _) _⟩
theorem and32L(x:Int)(h:W64 x):bits .and .u64 x 4294967295=x%4294967296:=by
 obtain⟨h1,h2⟩:=h
 obtain⟨x,rfl⟩:=Int.eq_ofNat_of_zero_le h1
 rw[Mul64.maskN x Z1];omega
theorem or0(x:Int)(h:W64 x):bits .or .u64 x 0=x:=by
 obtain⟨h1,h2⟩:=h
 obtain⟨x,rfl⟩:=Int.eq_ofNat_of_zero_le h1
 have:=bits_or_u64_nat x 0 Z1 Z1
 simpa using this
theorem ret2w{a a' b:Int}(h:a=a'):Ending.returned (.tuple #[iU a,iU b])=Ending.returned (.tuple #[iU a',iU b]):=by rw[h]
theorem qd_step{u q h r:Int}(e:u=q*h+r):Hid (u=(q -1)*h+(r+h)):=by
 show u=_
 rw[Int.sub_mul];omega
theorem div64_1(hi lo y:Int)(w:World)(hh:W64 hi)(hl:W64 lo)(hy:W64 y)(h2:9223372036854775808<=y)(h3:hi<y)(h4:0<hi):
 Calls Tryz.prog 160 #[iU hi,iU lo,iU y] w fun e w'=>(∃r,e= .returned (.tuple #[iU ((hi*18446744073709551616+lo)/y),iU r]))/\Bw w w':=by
 have hbl:=bl_top y hy h2
 have hy':=hy
 have ay:=and32L y hy
 have al:=and32L lo hl
 have ho:bits .or .u64 hi (lo/18446744073709551616)=hi:=by rw[show lo/18446744073709551616=0 from by have:=hl.1;have:=hl.2;omega];exact or0 hi hh
 obtain⟨i1,i2⟩:=hh;obtain⟨l1,l2⟩:=hl;obtain⟨y1,y2⟩:=hy
 have hy0:(y==0)=false:=by simp;omega
 have hi0:(hi==0)=false:=by simp;omega
 have hn: ¬y<=hi:=Z1
 obtain⟨yh,eyh⟩:=Z3 (y/4294967296)
 obtain⟨yl,eyl⟩:=Z3 (y%4294967296)
 obtain⟨lh,elh⟩:=Z3 (lo/4294967296)
 obtain⟨ll,ell⟩:=Z3 (lo%4294967296)
 have hyh:2147483648<=yh/\yh<4294967296:=Z1
 have hyl:0<=yl/\yl<4294967296:=Z1
 have hlh:0<=lh/\lh<4294967296:=Z1
 have hll:0<=ll/\ll<4294967296:=Z1
 have ey:Hid (y=yh*4294967296+yl):=by show y=_;omega
 have el:Hid (lo=lh*4294967296+ll):=by show lo=_;omega
 rw[eyl] at ay
 rw[ell] at al
 obtain⟨q,eq⟩:=Z3 (hi/yh)
 obtain⟨r,er⟩:=Z3 (hi -q*yh)
 have hqr:0<=r/\r<yh:=by
  have a1:=Int.emod_nonneg hi (show yh≠0 by omega)
  have a2:=Int.emod_lt_of_pos hi (show 0<yh by omega)
  have a3:=Int.mul_ediv_add_emod hi yh
  rw[eq,Int.mul_comm] at a3
  omega
 have e1:hi=q*yh+r:=Z1
 have st:=qd_start hi lh yh yl q r hlh hyh hyl ⟨i1,by rw[<-ey.out];exact h3⟩ e1 hqr
 have hq0:0<=q:=Z1
 have ert:hi.tdiv yh=q:=by rw[Int.tdiv_eq_ediv_of_nonneg i1];exact eq
 have ewr:IntKind.u64.wrap (hi -IntKind.u64.wrap (q*yh))=r:=by
  rw[IntKind.wrap_u64,IntKind.wrap_u64];omega
 have ewr2:IntKind.u64.wrap (hi -q*yh)=r:=by
  rw[IntKind.wrap_u64];omega
 have E1:Hid (hi=q*yh+r):=e1
 clear eyl ell er e1
 go_enter Tryz.func160,Tryz.ntmps160
 go_wp2_with fail
 refine(lead64_any y _ hy').mono ?_
 rintro e w' ⟨rfl,rfl⟩
 rw[hbl]
 clear hbl
 go_upto_block 0 with fail
 clear ewr ewr2 ert eq
 go_cut [15,16] (fun s15 s16 wx=>s15=iU (Qd hi lh yh yl)/\(∃r,s16=iU r)/\w'=wx)
 case first=>
  go_wp2_with fail
  go_loop [15,16] (fun s15 s16=> ∃q r,s15=iU q/\s16=iU r/\Hid (hi=q*yh+r)/\0<=r/\r<4294967296/\Qd hi lh yh yl<=q/\q<=4294967297) (fun s15 _=>(intOf s15 -Qd hi lh yh yl).toNat)
  case atStart=>exact⟨q,r,rfl,rfl,E1,hqr.1,Z1,st.1,st.2.1⟩
  case round=>
   obtain⟨q',r',rfl,rfl,E2,r1,r2,k1,k2⟩:=hrel
   have t1:=qd_test hi lh yh yl q' r' hlh hyh hyl E2.out
   have hp0:0<=q'*yl:=Int.mul_nonneg Z1 hyl.1
   have hp1:q'*yl<=4294967297*4294967295:=Int.mul_le_mul k2 Z1 hyl.1 Z1
   clear E1 hqr
   have kst:=st.2.2.2
   go_wp2
   all_goals first
    | (go_meet;case rel=>exact⟨congrArg (Value.int IntKind.u64) (by have k5:=qd_break hi lh yh yl (q' -1) (r'+yh) hlh hyh hyl (qd_step E2.out) ⟨Z1,Z1⟩ Z1;omega),⟨_,rfl⟩,rfl⟩)
    | (go_meet;case rel=>exact⟨congrArg (Value.int IntKind.u64) Z1,⟨_,rfl⟩,rfl⟩)
    | exact⟨⟨q' -1,r'+yh,rfl,rfl,qd_step E2.out,Z1,Z1,Z1,Z1⟩,by simp[intOf];omega⟩
 case rest=>
  obtain⟨rfl,⟨r0,rfl⟩,rfl⟩:=hcut
  clear E1 hqr hq0
  have c1:=st.2.2.1
  have c2:=st.2.2.2
  clear st
  have hrs:=qd_rest hi lh yh yl hlh hyh hyl
  rw[<-ey.out] at hrs
  obtain⟨m,em⟩:=Z3 (hi*4294967296+lh -Qd hi lh yh yl*y)
  rw[em] at hrs
  have EM:Hid (m=hi*4294967296+lh -Qd hi lh yh yl*(yh*4294967296+yl)):=by show m=_;rw[<-ey.out];exact em.symm
  have hm:IntKind.u64.wrap (IntKind.u64.wrap (IntKind.u64.wrap (hi*4294967296)+lh) -IntKind.u64.wrap (Qd hi lh yh yl*y))=m:=by
   simp only[IntKind.wrap_u64];omega
  clear em
  obtain⟨q2,eq2⟩:=Z3 (m/yh)
  obtain⟨r2,er2⟩:=Z3 (m -q2*yh)
  have hqr2:0<=r2/\r2<yh:=by
   have a1:=Int.emod_nonneg m (show yh≠0 by omega)
   have a2:=Int.emod_lt_of_pos m (show 0<yh by omega)
   have a3:=Int.mul_ediv_add_emod m yh
   rw[eq2,Int.mul_comm] at a3
   omega
  have e2:m=q2*yh+r2:=Z1
  have st2:=qd_start m ll yh yl q2 r2 hll hyh hyl ⟨hrs.1,by rw[<-ey.out];exact hrs.2⟩ e2 hqr2
  have hq20:0<=q2:=Z1
  have hq21:IntKind.u64.wrap q2=q2:=by rw[IntKind.wrap_u64];omega
  have ert2:m.tdiv yh=q2:=by rw[Int.tdiv_eq_ediv_of_nonneg hrs.1];exact eq2
  have ewr:IntKind.u64.wrap (m -IntKind.u64.wrap (q2*yh))=r2:=by
   rw[IntKind.wrap_u64,IntKind.wrap_u64];omega
  have E1:Hid (m=q2*yh+r2):=e2
  clear er2 e2 eq2
  go_upto_block 2 with fail
  clear ewr ert2 hm
  go_cut [18,16] (fun s15 s16 wx=>s15=iU (Qd m ll yh yl)/\(∃r,s16=iU r)/\w'=wx)
  case first=>
   go_wp2_with fail
   go_loop [18,16] (fun s15 s16=> ∃q r,s15=iU q/\s16=iU r/\Hid (m=q*yh+r)/\0<=r/\r<4294967296/\Qd m ll yh yl<=q/\q<=4294967297) (fun s15 _=>(intOf s15 -Qd m ll yh yl).toNat)
   case atStart=>exact⟨q2,r2,rfl,rfl,E1,hqr2.1,Z1,st2.1,st2.2.1⟩
   case round=>
    obtain⟨q',r',rfl,rfl,E2,r1,r2',k1,k2⟩:=hrel
    have t1:=qd_test m ll yh yl q' r' hll hyh hyl E2.out
    have hp0:0<=q'*yl:=Int.mul_nonneg Z1 hyl.1
    have hp1:q'*yl<=4294967297*4294967295:=Int.mul_le_mul k2 Z1 hyl.1 Z1
    clear E1 hqr2
    have kst:=st2.2.2.2
    have kst0:=st2.2.2.1
    go_wp2
    all_goals first
     | (go_meet;case rel=>exact⟨congrArg (Value.int IntKind.u64) (by have k5:=qd_break m ll yh yl (q' -1) (r'+yh) hll hyh hyl (qd_step E2.out) ⟨Z1,Z1⟩ Z1;omega),⟨_,rfl⟩,rfl⟩)
     | (go_meet;case rel=>exact⟨congrArg (Value.int IntKind.u64) Z1,⟨_,rfl⟩,rfl⟩)
     | exact⟨⟨q' -1,r'+yh,rfl,rfl,qd_step E2.out,Z1,Z1,Z1,Z1⟩,by simp[intOf];omega⟩
  case rest=>
   obtain⟨rfl,⟨r3,rfl⟩,rfl⟩:=hcut
   have d1:=st2.2.2.1
   have d2:=st2.2.2.2
   clear st2 E1 hqr2
   have HF:Hid (Qd hi lh yh yl*4294967296+Qd m ll yh yl=(hi*18446744073709551616+lo)/y):=by
    show _=_
    rw[qd_two hi lh ll yh yl hlh hll hyh hyl m EM.out,<-ey.out,<-el.out]
   go_wp2
   go_ret2
   exact⟨⟨_,ret2w HF.out⟩,Below.refl _ _⟩
theorem div64_any(hi lo y:Int)(w:World)(hh:W64 hi)(hl:W64 lo)(hy:W64 y)(h2:9223372036854775808<=y)(h3:hi<y):
 Calls Tryz.prog 160 #[iU hi,iU lo,iU y] w fun e w'=>(∃r,e= .returned (.tuple #[iU ((hi*18446744073709551616+lo)/y),iU r]))/\Bw w w':=by
 by_cases h:0<hi
 ·exact div64_1 hi lo y w hh hl hy h2 h3 h
 ·have h0:hi=0:=by have:=hh.1;omega
  subst h0
  have:=div64_0 lo y w hl hy h2
  simpa using this
end
section
def gs(r2 r3 d3:Int):Int:=if d3<=r3 then 18446744073709551615 else (r3*18446744073709551616+r2)/d3
theorem gs_bd(r2 r3 d3:Int)(h2:W64 r2)(h3:W64 r3)(hd:W64 d3)(h:9223372036854775808<=d3):0<=gs r2 r3 d3/\gs r2 r3 d3<=18446744073709551615:=by
 obtain⟨a1,a2⟩:=h2;obtain⟨b1,b2⟩:=h3;obtain⟨c1,c2⟩:=hd
 unfold gs;split
 ·omega
 ·refine⟨Int.ediv_nonneg Z1 Z1,?_⟩
  have:(r3*18446744073709551616+r2)/d3<18446744073709551616:=Int.ediv_lt_of_lt_mul Z1 Z1
  omega
theorem gs_ge(n r0 r1 r2 r3 d0 d1 d2 d3:Int)(hn:W64 n)(h0:W64 r0)(h1:W64 r1)(h2:W64 r2)(h3:W64 r3)(k0:W64 d0)(k1:W64 d1)(k2:W64 d2)(hd:W64 d3)(h:9223372036854775808<=d3)
 (hlt:V r0 r1 r2 r3<V d0 d1 d2 d3):(V r0 r1 r2 r3*18446744073709551616+n)/V d0 d1 d2 d3<=gs r2 r3 d3:=by
 obtain⟨a1,a2⟩:=hn;obtain⟨b1,b2⟩:=h0;obtain⟨c1,c2⟩:=h1;obtain⟨e1,e2⟩:=h2;obtain⟨f1,f2⟩:=h3
 obtain⟨p1,p2⟩:=k0;obtain⟨q1,q2⟩:=k1;obtain⟨s1,s2⟩:=k2;obtain⟨t1,t2⟩:=hd
 have hD:0<V d0 d1 d2 d3:=by unfold V;omega
 have hN:0<=V r0 r1 r2 r3:=by unfold V;omega
 unfold gs;split
 ·have:(V r0 r1 r2 r3*18446744073709551616+n)/V d0 d1 d2 d3<18446744073709551616:=Int.ediv_lt_of_lt_mul hD Z1
  omega
 ·have hq:=Int.ediv_mul_le (V r0 r1 r2 r3*18446744073709551616+n) (show V d0 d1 d2 d3≠0 by omega)
  have hq0:0<=(V r0 r1 r2 r3*18446744073709551616+n)/V d0 d1 d2 d3:=Int.ediv_nonneg Z1 Z1
  generalize (V r0 r1 r2 r3*18446744073709551616+n)/V d0 d1 d2 d3=q at *
  refine(Int.le_ediv_iff_mul_le Z1).2 ?_
  have e:q*V d0 d1 d2 d3=q*d0+q*d1*18446744073709551616+q*d2*0x100000000000000000000000000000000+q*d3*0x1000000000000000000000000000000000000000000000000:=by
   unfold V;rw[Int.mul_add,Int.mul_add,Int.mul_add,Int.mul_assoc,Int.mul_assoc,Int.mul_assoc]
  have m0:0<=q*d0:=Int.mul_nonneg hq0 p1
  have m1:0<=q*d1:=Int.mul_nonneg hq0 q1
  have m2:0<=q*d2:=Int.mul_nonneg hq0 s1
  rw[e] at hq
  unfold V at hq
  omega
theorem st_sub(L r3 p:Int):
 D0 (L -V (D0 p) (D1 p) (D2 p) (D3 p))=D0 (L+r3*0x10000000000000000000000000000000000000000000000000000000000000000 -p)/\
 D1 (L -V (D0 p) (D1 p) (D2 p) (D3 p))=D1 (L+r3*0x10000000000000000000000000000000000000000000000000000000000000000 -p)/\
 D2 (L -V (D0 p) (D1 p) (D2 p) (D3 p))=D2 (L+r3*0x10000000000000000000000000000000000000000000000000000000000000000 -p)/\
 D3 (L -V (D0 p) (D1 p) (D2 p) (D3 p))=D3 (L+r3*0x10000000000000000000000000000000000000000000000000000000000000000 -p)/\
 r3 -(D4 p+ -D4 (L -V (D0 p) (D1 p) (D2 p) (D3 p)))=D4 (L+r3*0x10000000000000000000000000000000000000000000000000000000000000000 -p):=by
 rw[V_D]
 unfold D0 D1 D2 D3 D4
 refine⟨?_,?_,?_,?_,?_⟩<;>omega
theorem st_add(R D:Int):
 D0 (V (D0 R) (D1 R) (D2 R) (D3 R)+D)=D0 (R+D)/\D1 (V (D0 R) (D1 R) (D2 R) (D3 R)+D)=D1 (R+D)/\
 D2 (V (D0 R) (D1 R) (D2 R) (D3 R)+D)=D2 (R+D)/\D3 (V (D0 R) (D1 R) (D2 R) (D3 R)+D)=D3 (R+D)/\
 D4 R+D4 (V (D0 R) (D1 R) (D2 R) (D3 R)+D)=D4 (R+D):=by
 rw[V_D]
 unfold D0 D1 D2 D3 D4
 refine⟨?_,?_,?_,?_,?_⟩<;>omega
theorem st_top(N D g:Int)(hN:0<=N)(hD:0<D/\D<0x10000000000000000000000000000000000000000000000000000000000000000)(hg:N/D<=g/\0<=g/\g<=18446744073709551615):
 (D4 (N -D*g)%18446744073709551616=0->g=N/D/\N -D*g=N%D)/\(D4 (N -D*g)%18446744073709551616≠0->N/D<=g -1):=by
 have e:=Int.mul_ediv_add_emod N D
 have m1:=Int.emod_nonneg N (show D≠0 by omega)
 have m2:=Int.emod_lt_of_pos N hD.1
 have u:D*(N/D)<=D*g:=Int.mul_le_mul_of_nonneg_left hg.1 Z1
 have b:D*g<=0xffffffffffffffffffffffffffffffffffffffffffffffffffffffffffffffff*18446744073709551615:=Int.mul_le_mul Z1 hg.2.2 hg.2.1 Z1
 constructor
 ·intro h
  have h0:0<=N -D*g:=by unfold D4 at h;omega
  have hle:g<=N/D:=(Int.le_ediv_iff_mul_le hD.1).2 (by rw[Int.mul_comm];omega)
  have hge:g=N/D:=Z1
  exact⟨hge,by rw[hge];omega⟩
 ·intro h
  by_cases c:g=N/D
  ·exfalso;apply h
   rw[c]
   unfold D4;omega
  ·omega
theorem st_dec(N D g:Int):N -D*g+D=N -D*(g -1):=by rw[Int.mul_sub];omega
end
section
open Go.RowKit Go.Shelf
def rMul:Ren:=⟨fun _=>161,fun n=>if n=46 then 198 else 22,fun n=>n⟩
theorem laysMul:Lays.n264 Tryz.prog rMul where
 mixed:=by kernel_rfl
 f264:=by kernel_rfl
 t46:=by kernel_rfl
 a46:=fun _=>by kernel_rfl
 z46:=fun _=>by kernel_rfl
 v46:=fun _=>by kernel_rfl
 t53:=by kernel_rfl
 a53:=fun _=>by kernel_rfl
 z53:=fun _=>by kernel_rfl
 v53:=fun _=>by kernel_rfl
theorem mul64_nat(x y:Nat)(hx:x<18446744073709551616)(hy:y<18446744073709551616)(w:World):
 Calls Tryz.prog 161 #[iU x,iU y] w fun e w'=>e= .returned (.tuple #[iU ((x*y/18446744073709551616:Nat):Int),iU ((x*y%18446744073709551616:Nat):Int)])/\w'=w:=
 Any.bits_Mul64 laysMul x y hx hy w
theorem V7(x y:Int)(hx:W64 x)(hy:W64 y)(w:World):
 Calls Tryz.prog 161 #[iU x,iU y] w fun e w'=>e= .returned (.tuple #[iU (x*y/18446744073709551616),iU (x*y%18446744073709551616)])/\w'=w:=by
 obtain⟨x1,x2⟩:=hx;obtain⟨y1,y2⟩:=hy
 obtain⟨x,rfl⟩:=Int.eq_ofNat_of_zero_le x1
 obtain⟨y,rfl⟩:=Int.eq_ofNat_of_zero_le y1
 have h:=mul64_nat x y Z1 Z1 w
 have e1:((x*y/18446744073709551616:Nat):Int)=(x:Int)*(y:Int)/18446744073709551616:=by simp
 have e2:((x*y%18446744073709551616:Nat):Int)=(x:Int)*(y:Int)%18446744073709551616:=by simp
 rw[e1,e2] at h
 exact h
end
section
open Go.RowKit
theorem V_mul(a b c d p:Int):V a b c d*p=a*p+b*p*18446744073709551616+c*p*0x100000000000000000000000000000000+d*p*0x1000000000000000000000000000000000000000000000000:=by
 unfold V
 rw[Int.add_mul,Int.add_mul,Int.add_mul,Int.mul_right_comm b,Int.mul_right_comm c,Int.mul_right_comm d]
theorem W_hi(x p:Int)(hx:W64 x)(hp:W64 p):W64 (x*p/18446744073709551616):=by
 obtain⟨x1,x2⟩:=hx;obtain⟨p1,p2⟩:=hp
 have h0:0<=x*p:=Int.mul_nonneg x1 p1
 have h1:x*p<=18446744073709551615*18446744073709551615:=Int.mul_le_mul Z1 Z1 p1 Z1
 unfold W64;omega
theorem W_lo(x:Int):W64 (x%18446744073709551616):=by unfold W64;omega
theorem W_0:W64 0:=by unfold W64;omega
theorem scale_spec(a b c d p:Int)(ha:W64 a)(hb:W64 b)(hc:W64 c)(hd:W64 d)(hp:W64 p):
 D0 (V a b c d*p)=D0 (V (a*p%18446744073709551616) (b*p%18446744073709551616) (c*p%18446744073709551616) (d*p%18446744073709551616)+V 0 (a*p/18446744073709551616) (b*p/18446744073709551616) (c*p/18446744073709551616))/\D1 (V a b c d*p)=D1 (V (a*p%18446744073709551616) (b*p%18446744073709551616) (c*p%18446744073709551616) (d*p%18446744073709551616)+V 0 (a*p/18446744073709551616) (b*p/18446744073709551616) (c*p/18446744073709551616))/\D2 (V a b c d*p)=D2 (V (a*p%18446744073709551616) (b*p%18446744073709551616) (c*p%18446744073709551616) (d*p%18446744073709551616)+V 0 (a*p/18446744073709551616) (b*p/18446744073709551616) (c*p/18446744073709551616))/\D3 (V a b c d*p)=D3 (V (a*p%18446744073709551616) (b*p%18446744073709551616) (c*p%18446744073709551616) (d*p%18446744073709551616)+V 0 (a*p/18446744073709551616) (b*p/18446744073709551616) (c*p/18446744073709551616))/\D4 (V a b c d*p)=(d*p/18446744073709551616)+D4 (V (a*p%18446744073709551616) (b*p%18446744073709551616) (c*p%18446744073709551616) (d*p%18446744073709551616)+V 0 (a*p/18446744073709551616) (b*p/18446744073709551616) (c*p/18446744073709551616))/\0<=D4 (V (a*p%18446744073709551616) (b*p%18446744073709551616) (c*p%18446744073709551616) (d*p%18446744073709551616)+V 0 (a*p/18446744073709551616) (b*p/18446744073709551616) (c*p/18446744073709551616))/\(d*p/18446744073709551616)+D4 (V (a*p%18446744073709551616) (b*p%18446744073709551616) (c*p%18446744073709551616) (d*p%18446744073709551616)+V 0 (a*p/18446744073709551616) (b*p/18446744073709551616) (c*p/18446744073709551616))<18446744073709551616:=by
 have hd':=W_hi d p hd hp
 obtain⟨a1,a2⟩:=ha;obtain⟨b1,b2⟩:=hb;obtain⟨c1,c2⟩:=hc;obtain⟨d1,d2⟩:=hd;obtain⟨p1,p2⟩:=hp
 rw[V_mul]
 have q0:0<=a*p:=Int.mul_nonneg a1 p1
 have q1:0<=b*p:=Int.mul_nonneg b1 p1
 have q2:0<=c*p:=Int.mul_nonneg c1 p1
 have q3:0<=d*p:=Int.mul_nonneg d1 p1
 have m: ∀x:Int,0<=x->x<18446744073709551616->x*p<=18446744073709551615*18446744073709551615:=fun x h1 h2=>Int.mul_le_mul Z1 Z1 p1 Z1
 have m0:=m a a1 a2;have m1:=m b b1 b2;have m2:=m c c1 c2;have m3:=m d d1 d2
 generalize a*p=A at *
 generalize b*p=B at *
 generalize c*p=C at *
 generalize d*p=D at *
 unfold D0 D1 D2 D3 D4 V
 refine⟨?_,?_,?_,?_,?_,?_,?_⟩<;>omega
theorem scale_any(a b c d p:Int)(w:World)(ha:W64 a)(hb:W64 b)(hc:W64 c)(hd:W64 d)(hp:W64 p):
 CC 142 #[A4 a b c d,iU p] w (.tuple #[NV (V a b c d*p),iU (D4 (V a b c d*p))]):=by
 obtain⟨e0,e1,e2,e3,e4,e5,e6⟩:=scale_spec a b c d p ha hb hc hd hp
 have HE:Hid (Ending.returned (.tuple #[NV (V a b c d*p),iU (D4 (V a b c d*p))])=Ending.returned (.tuple #[NV (V (a*p%18446744073709551616) (b*p%18446744073709551616) (c*p%18446744073709551616) (d*p%18446744073709551616)+V 0 (a*p/18446744073709551616) (b*p/18446744073709551616) (c*p/18446744073709551616)),iU ((d*p/18446744073709551616)+D4 (V (a*p%18446744073709551616) (b*p%18446744073709551616) (c*p%18446744073709551616) (d*p%18446744073709551616)+V 0 (a*p/18446744073709551616) (b*p/18446744073709551616) (c*p/18446744073709551616)))])):=by
  unfold NV;rw[e0,e1,e2,e3,e4];rfl
 have hd0:=(W_hi d p hd hp).1
 clear e0 e1 e2 e3 e4
 go_enter Tryz.func142,Tryz.ntmps142
 go_wp2
 refine wp_loop_rounds 5 ?_
 rw[rounds_succ]
 go_wp2_with fail
 refine(V7 a p ha hp _).mono ?_
 rintro e w' ⟨rfl,rfl⟩
 go_wp2
 rw[rounds_succ]
 go_wp2_with fail
 refine(V7 b p hb hp _).mono ?_
 rintro e w' ⟨rfl,rfl⟩
 go_wp2
 rw[rounds_succ]
 go_wp2_with fail
 refine(V7 c p hc hp _).mono ?_
 rintro e w' ⟨rfl,rfl⟩
 go_wp2
 rw[rounds_succ]
 go_wp2_with fail
 refine(V7 d p hd hp _).mono ?_
 rintro e w' ⟨rfl,rfl⟩
 go_wp2
 rw[rounds_succ]
 go_wp2_with fail
 refine(add_any _ _ _ _ _ _ _ _ _ (W_lo _) (W_lo _) (W_lo _) (W_lo _) W_0 (W_hi a p ha hp) (W_hi b p hb hp) (W_hi c p hc hp)).mono ?_
 rintro e w1 ⟨rfl,hB⟩
 obtain⟨hcell,hfroz,hsize⟩:=bcell hB
 simp only[World.size_alloc] at hsize hcell hfroz
 have z0:w.heap.size<w1.heap.size:=Z1
 have z1:w.heap.size+1<w1.heap.size:=Z1
 have z2:w.heap.size+1+1<w1.heap.size:=Z1
 have z3:w.heap.size+1+1+1<w1.heap.size:=Z1
 have hB':Bw w w1:=Below.trans (by go_grown) (hB.mono (by simp;omega))
 clear hB
 have hw:IntKind.u64.wrap ((d*p/18446744073709551616)+D4 (V (a*p%18446744073709551616) (b*p%18446744073709551616) (c*p%18446744073709551616) (d*p%18446744073709551616)+V 0 (a*p/18446744073709551616) (b*p/18446744073709551616) (c*p/18446744073709551616)))=(d*p/18446744073709551616)+D4 (V (a*p%18446744073709551616) (b*p%18446744073709551616) (c*p%18446744073709551616) (d*p%18446744073709551616)+V 0 (a*p/18446744073709551616) (b*p/18446744073709551616) (c*p/18446744073709551616)):=by rw[IntKind.wrap_u64];omega
 have hs1:=hB'.size
 go_wp2
 go_region
 go_wp2
 refine bodyPost_ret (v:= .tuple #[NV (V (a*p%18446744073709551616) (b*p%18446744073709551616) (c*p%18446744073709551616) (d*p%18446744073709551616)+V 0 (a*p/18446744073709551616) (b*p/18446744073709551616) (c*p/18446744073709551616)),iU ((d*p/18446744073709551616)+D4 (V (a*p%18446744073709551616) (b*p%18446744073709551616) (c*p%18446744073709551616) (d*p%18446744073709551616)+V 0 (a*p/18446744073709551616) (b*p/18446744073709551616) (c*p/18446744073709551616)))]) (by simp[results,Tryz.results142,go_sem,hcell,z0,z1,z2,z3,hw]) rfl ⟨HE.out.symm,?_⟩
 iterate 6 all_goals (go_grown<;>try with_reducible refine below_drewN ?_ _)
theorem guess_any(r0 r1 r2 r3 d0 d1 d2 d3:Int)(w:World)(hr0:W64 r0)(hr1:W64 r1)(hr2:W64 r2)(hr3:W64 r3)(hd0:W64 d0)(hd1:W64 d1)(hd2:W64 d2)(hd3:W64 d3)(ht:9223372036854775808<=d3):
 CC 141 #[A4 r0 r1 r2 r3,A4 d0 d1 d2 d3] w (iU (gs r2 r3 d3)):=by
 unfold gs
 by_cases hc:d3<=r3
 ·rw[if_pos hc]
  go_enter Tryz.func141,Tryz.ntmps141
  go_wp2
  go_ret
  exact⟨rfl,by go_grown⟩
 ·rw[if_neg hc]
  have hlt:r3<d3:=Z1
  go_enter Tryz.func141,Tryz.ntmps141
  go_wp2_with fail
  refine(div64_any r3 r2 d3 _ hr3 hr2 hd3 ht hlt).mono ?_
  rintro e w1 ⟨⟨r,rfl⟩,hB⟩
  have hB':Bw w w1:=Z7 (Z5 (Z5 (Zf w) _) _) hB
  clear hB
  go_wp2
  go_ret
  exact⟨rfl,hB'⟩
theorem nn_eq(r0 r1 r2 r3 n:Int):V r0 r1 r2 r3*18446744073709551616+n=V n r0 r1 r2+r3*0x10000000000000000000000000000000000000000000000000000000000000000:=by unfold V;omega
theorem step_any(r0 r1 r2 r3 n d0 d1 d2 d3:Int)(w:World)(hr0:W64 r0)(hr1:W64 r1)(hr2:W64 r2)(hr3:W64 r3)(hd0:W64 d0)(hd1:W64 d1)(hd2:W64 d2)(hd3:W64 d3)(hn:W64 n)(ht:9223372036854775808<=d3)(hlt:V r0 r1 r2 r3<(V d0 d1 d2 d3)):
 CC 120 #[A4 r0 r1 r2 r3,iU n,A4 d0 d1 d2 d3] w (.tuple #[iU ((V r0 r1 r2 r3*18446744073709551616+n)/(V d0 d1 d2 d3)),NV ((V r0 r1 r2 r3*18446744073709551616+n)%(V d0 d1 d2 d3))]):=by
 have gb:=gs_bd r2 r3 d3 hr2 hr3 hd3 ht
 have gg:=gs_ge n r0 r1 r2 r3 d0 d1 d2 d3 hn hr0 hr1 hr2 hr3 hd0 hd1 hd2 hd3 ht hlt
 have hR:=V_bd r0 r1 r2 r3 hr0 hr1 hr2 hr3
 have hD:=V_bd d0 d1 d2 d3 hd0 hd1 hd2 hd3
 have hL:=V_bd n r0 r1 r2 hn hr0 hr1 hr2
 have hne:=nn_eq r0 r1 r2 r3 n
 have hG: ∃g,gs r2 r3 d3=g:=⟨_,rfl⟩
 obtain⟨g,hg⟩:=hG
 have hgu:=guess_any r0 r1 r2 r3 d0 d1 d2 d3
 rw[hg] at gb gg
 simp only[hg] at hgu
 have HGU:Hid _:=hgu
 clear hgu hg
 have hn1:=hn.1
 have hn2:=hn.2
 have hr31:=hr3.1
 have hr32:=hr3.2
 go_enter Tryz.func120,Tryz.ntmps120
 go_wp2
 go_region
 go_wp2_with fail
 refine(HGU.out _ hr0 hr1 hr2 hr3 hd0 hd1 hd2 hd3 ht).mono ?_
 rintro e w1 ⟨rfl,hB⟩
 have sz:=hB.size
 simp only[World.size_alloc,World.size_drew] at sz
 have hDv:C4 w1 (w.heap.size+1) d0 d1 d2 d3:=C4.below (by unfold C4;simp[go_sem]) hB (by simp<;>omega)
 have hRs:C4 w1 (w.heap.size+1+1) 0 0 0 0:=C4.below (by unfold C4;simp[go_sem]) hB (by simp<;>omega)
 have hLf:C4 w1 (w.heap.size+1+1+1) n r0 r1 r2:=C4.below (by unfold C4;simp[go_sem]) hB (by simp<;>omega)
 have hB1:Bw w w1:=by
  refine Below.trans ?_ (hB.mono ?_)
  ·iterate 6 all_goals (go_grown<;>try with_reducible refine below_drewN ?_ _)
  ·simp<;>omega
 clear hB
 have z1:w.heap.size+1<w1.heap.size:=Z1
 have z2:w.heap.size+1+1<w1.heap.size:=Z1
 have z3:w.heap.size+1+1+1<w1.heap.size:=Z1
 have hDpos:0<(V d0 d1 d2 d3):=Z1
 have HNE:Hid _:=hne
 clear hne
 rcases Bool.eq_false_or_eq_true (g==0) with hgz | hgz
 ·have HF:Hid (Ending.returned (.tuple #[iU 0,A4 n r0 r1 r2])=Ending.returned (.tuple #[iU ((V r0 r1 r2 r3*18446744073709551616+n)/(V d0 d1 d2 d3)),NV ((V r0 r1 r2 r3*18446744073709551616+n)%(V d0 d1 d2 d3))])):=by
   have g0:g=0:=by simpa using hgz
   rw[g0] at gg
   have hq0:0<=(V r0 r1 r2 r3*18446744073709551616+n)/(V d0 d1 d2 d3):=Int.ediv_nonneg Z1 Z1
   have hq:(V r0 r1 r2 r3*18446744073709551616+n)/(V d0 d1 d2 d3)=0:=Z1
   have hlt2:(V r0 r1 r2 r3*18446744073709551616+n)<(V d0 d1 d2 d3):=by
    have:=Int.lt_mul_ediv_self_add (x:=(V r0 r1 r2 r3*18446744073709551616+n)) hDpos
    rw[hq] at this;omega
   have hm:(V r0 r1 r2 r3*18446744073709551616+n)%(V d0 d1 d2 d3)=V n r0 r1 r2:=by
    rw[Int.emod_eq_of_lt Z1 hlt2,HNE.out]
    have:=HNE.out
    have:r3=0:=Z1
    rw[this];omega
   obtain⟨e0,e1,e2,e3,_⟩:=D_of (V n r0 r1 r2) n r0 r1 r2 0 hn hr0 hr1 hr2 Z1
   show _=_
   rw[hq,hm,NV,e0,e1,e2,e3]
  clear gg gb
  obtain⟨⟨lc0,lc1,lc2,lc3⟩,_⟩:=hLf
  obtain⟨⟨rc0,rc1,rc2,rc3⟩,rf0,rf1,rf2,rf3⟩:=hRs
  clear hDv
  go_wp2
  go_region
  go_wp2
  refine bodyPost_ret (v:= .tuple #[iU 0,A4 n r0 r1 r2]) (by simp[results,Tryz.results120,go_sem, *]) rfl ⟨HF.out,?_⟩
  iterate 6 all_goals (go_grown<;>try with_reducible refine below_drewN ?_ _)
 ·have hDv':=hDv;have hLf':=hLf
  obtain⟨⟨dc0,dc1,dc2,dc3⟩,df0,df1,df2,df3⟩:=hDv'
  obtain⟨⟨lc0,lc1,lc2,lc3⟩,lf0,lf1,lf2,lf3⟩:=hLf'
  have hgw:W64 g:=⟨Z1,Z1⟩
  go_wp2_with fail
  refine(scale_any d0 d1 d2 d3 g _ hd0 hd1 hd2 hd3 hgw).mono ?_
  rintro e w2 ⟨rfl,hB2⟩
  have sz2:=hB2.size
  have hDv2:=hDv.below hB2 z1
  have hRs2:=hRs.below hB2 z2
  have hLf2:=hLf.below hB2 z3
  have hq2:Bw w w2:=Z7 hB1 hB2
  clear hDv hRs hLf hB1 hB2 dc0 dc1 dc2 dc3 df0 df1 df2 df3 lc0 lc1 lc2 lc3 lf0 lf1 lf2 lf3
  have z1:w.heap.size+1<w2.heap.size:=Z1
  have z2:w.heap.size+1+1<w2.heap.size:=Z1
  have z3:w.heap.size+1+1+1<w2.heap.size:=Z1
  have hLf2':=hLf2
  obtain⟨⟨lc0,lc1,lc2,lc3⟩,lf0,lf1,lf2,lf3⟩:=hLf2'
  go_wp2_with fail
  refine(sub_any n r0 r1 r2 _ _ _ _ _ hn hr0 hr1 hr2 (W_D0 _) (W_D1 _) (W_D2 _) (W_D3 _)).mono ?_
  rintro e w3 ⟨rfl,hB3⟩
  have sz3:=hB3.size
  simp only[World.size_alloc] at sz3
  have hDv3:=(hDv2.alloc z1 _).below hB3 (by simp;omega)
  have hRs3:=(hRs2.alloc z2 _).below hB3 (by simp;omega)
  have hLf3:=(hLf2.alloc z3 _).below hB3 (by simp;omega)
  have hq3:Bw w w3:=Z7 (Z5 hq2 _) hB3
  clear hDv2 hRs2 hLf2 hq2 hB3 lc0 lc1 lc2 lc3 lf0 lf1 lf2 lf3 z1 z2 z3
  have z1:w.heap.size+1<w3.heap.size:=Z1
  have z2:w.heap.size+1+1<w3.heap.size:=Z1
  have z3:w.heap.size+1+1+1<w3.heap.size:=Z1
  have hLf3':=hLf3
  obtain⟨⟨lc0,lc1,lc2,lc3⟩,lf0,lf1,lf2,lf3⟩:=hLf3'
  go_wp2
  obtain⟨e0,e1,e2,e3,e4⟩:=st_sub (V n r0 r1 r2) r3 ((V d0 d1 d2 d3)*g)
  rw[<-HNE.out] at e0 e1 e2 e3 e4
  go_loopw [9,10] (fun t9 t10 wr=> ∃g' tp:Int,t9=iU tp/\t10=iU g'/\Hid (tp=D4 ((V r0 r1 r2 r3*18446744073709551616+n) -(V d0 d1 d2 d3)*g')%18446744073709551616)/\(V r0 r1 r2 r3*18446744073709551616+n)/(V d0 d1 d2 d3)<=g'/\0<=g'/\g'<=18446744073709551615/\Bw w wr/\w.heap.size+1+1+1<wr.heap.size/\
   C4 wr (w.heap.size+1) d0 d1 d2 d3/\C4 wr (w.heap.size+1+1) 0 0 0 0/\C4 wr (w.heap.size+1+1+1) (D0 ((V r0 r1 r2 r3*18446744073709551616+n) -(V d0 d1 d2 d3)*g')) (D1 ((V r0 r1 r2 r3*18446744073709551616+n) -(V d0 d1 d2 d3)*g')) (D2 ((V r0 r1 r2 r3*18446744073709551616+n) -(V d0 d1 d2 d3)*g')) (D3 ((V r0 r1 r2 r3*18446744073709551616+n) -(V d0 d1 d2 d3)*g'))) (fun _ t10 _=>(intOf t10 -(V r0 r1 r2 r3*18446744073709551616+n)/(V d0 d1 d2 d3)).toNat)
  case atStart=>
   refine⟨g,_,rfl,rfl,?_,gg,gb.1,gb.2,?_,by simp;omega,?_,?_,?_⟩
   ·show _=_
    rw[<-e4];simp only[IntKind.wrap_u64];omega
   ·exact(((hq3.setCell (by show _<=_;dsimp only;omega) _).setCell (by show _<=_;dsimp only;omega) _).setCell (by show _<=_;dsimp only;omega) _).setCell (by show _<=_;dsimp only;omega) _
   ·exact(((hDv3.other _ (by dsimp only;omega) _).other _ (by dsimp only;omega) _).other _ (by dsimp only;omega) _).other _ (by dsimp only;omega) _
   ·exact(((hRs3.other _ (by dsimp only;omega) _).other _ (by dsimp only;omega) _).other _ (by dsimp only;omega) _).other _ (by dsimp only;omega) _
   ·rw[<-e0,<-e1,<-e2,<-e3]
    exact(((hLf3.set0 _).set1 _).set2 _).set3 _
  case round=>
   clear e0 e1 e2 e3 e4 hDv3 hRs3 hLf3 hq3 lc0 lc1 lc2 lc3 lf0 lf1 lf2 lf3 z1 z2 z3 sz sz2 sz3
   obtain⟨g',tp,rfl,rfl,HT,k1,k2,k3,hq,hs,hDv,hRs,hLf⟩:=hrel
   have tpt:=st_top (V r0 r1 r2 r3*18446744073709551616+n) (V d0 d1 d2 d3) g' Z1 ⟨hDpos,hD.2⟩ ⟨k1,k2,k3⟩
   rw[<-HT.out] at tpt
   have hq0:0<=(V r0 r1 r2 r3*18446744073709551616+n)/(V d0 d1 d2 d3):=Int.ediv_nonneg Z1 Z1
   have z1:w.heap.size+1<wr.heap.size:=Z1
   have z2:w.heap.size+1+1<wr.heap.size:=Z1
   rcases Bool.eq_false_or_eq_true (tp !=0) with ht0 | ht0
   ·have hg1:(V r0 r1 r2 r3*18446744073709551616+n)/(V d0 d1 d2 d3)<=g' -1:=tpt.2 (by simpa using ht0)
    have hg2:1<=g':=Z1
    clear tpt
    have hDv':=hDv;have hLf':=hLf
    obtain⟨⟨dc0,dc1,dc2,dc3⟩,df0,df1,df2,df3⟩:=hDv'
    obtain⟨⟨lc0,lc1,lc2,lc3⟩,lf0,lf1,lf2,lf3⟩:=hLf'
    clear df0 df1 df2 df3 lf0 lf1 lf2 lf3
    have htp:0<=tp/\tp<18446744073709551616:=by rw[HT.out];omega
    have htp1:=htp.1
    clear htp
    go_wp2_with fail
    refine(add_any _ _ _ _ d0 d1 d2 d3 _ (W_D0 _) (W_D1 _) (W_D2 _) (W_D3 _) hd0 hd1 hd2 hd3).mono ?_
    rintro e w4 ⟨rfl,hB4⟩
    have _:=hB4.size
    have hDv4:=hDv.below hB4 z1
    have hRs4:=hRs.below hB4 z2
    have hLf4:=hLf.below hB4 hs
    have hq4:Bw w w4:=Z7 hq hB4
    clear hDv hRs hLf hq hB4 dc0 dc1 dc2 dc3 lc0 lc1 lc2 lc3
    have z3:w.heap.size+1+1+1<w4.heap.size:=Z1
    have hLf4':=hLf4
    obtain⟨⟨lc0,lc1,lc2,lc3⟩,lf0,lf1,lf2,lf3⟩:=hLf4'
    go_wp2
    obtain⟨e0,e1,e2,e3,e4⟩:=st_add ((V r0 r1 r2 r3*18446744073709551616+n) -(V d0 d1 d2 d3)*g') (V d0 d1 d2 d3)
    rw[st_dec] at e0 e1 e2 e3 e4
    refine⟨⟨g' -1,_,rfl,rfl,?_,hg1,Z1,Z1,?_,by simp;omega,?_,?_,?_⟩,by simp[intOf];omega⟩
    ·show _=_
     have hh:=HT.out
     rw[<-e4];simp only[IntKind.wrap_u64];omega
    ·exact(((hq4.setCell (by show _<=_;dsimp only;omega) _).setCell (by show _<=_;dsimp only;omega) _).setCell (by show _<=_;dsimp only;omega) _).setCell (by show _<=_;dsimp only;omega) _
    ·exact(((hDv4.other _ (by dsimp only;omega) _).other _ (by dsimp only;omega) _).other _ (by dsimp only;omega) _).other _ (by dsimp only;omega) _
    ·exact(((hRs4.other _ (by dsimp only;omega) _).other _ (by dsimp only;omega) _).other _ (by dsimp only;omega) _).other _ (by dsimp only;omega) _
    ·rw[<-e0,<-e1,<-e2,<-e3]
     exact(((hLf4.set0 _).set1 _).set2 _).set3 _
   ·have he:=tpt.1 (by simpa using ht0)
    have HF:Hid (Ending.returned (.tuple #[iU g',A4 (D0 ((V r0 r1 r2 r3*18446744073709551616+n) -(V d0 d1 d2 d3)*g')) (D1 ((V r0 r1 r2 r3*18446744073709551616+n) -(V d0 d1 d2 d3)*g')) (D2 ((V r0 r1 r2 r3*18446744073709551616+n) -(V d0 d1 d2 d3)*g')) (D3 ((V r0 r1 r2 r3*18446744073709551616+n) -(V d0 d1 d2 d3)*g'))])=Ending.returned (.tuple #[iU ((V r0 r1 r2 r3*18446744073709551616+n)/(V d0 d1 d2 d3)),NV ((V r0 r1 r2 r3*18446744073709551616+n)%(V d0 d1 d2 d3))])):=by
     show _=_
     rw[he.2,he.1]
    clear he tpt
    obtain⟨⟨lc0,lc1,lc2,lc3⟩,_⟩:=hLf
    obtain⟨⟨rc0,rc1,rc2,rc3⟩,rf0,rf1,rf2,rf3⟩:=hRs
    clear hDv
    go_wp2
    go_region
    go_wp2
    refine bodyPost_ret (v:= .tuple #[iU g',A4 (D0 ((V r0 r1 r2 r3*18446744073709551616+n) -(V d0 d1 d2 d3)*g')) (D1 ((V r0 r1 r2 r3*18446744073709551616+n) -(V d0 d1 d2 d3)*g')) (D2 ((V r0 r1 r2 r3*18446744073709551616+n) -(V d0 d1 d2 d3)*g')) (D3 ((V r0 r1 r2 r3*18446744073709551616+n) -(V d0 d1 d2 d3)*g'))]) (by simp[results,Tryz.results120,go_sem, *]) rfl ⟨HF.out,?_⟩
    iterate 6 all_goals (go_grown<;>try with_reducible refine below_drewN ?_ _)
end
end Go.Proofs.YtoffgfhilkpdpaaGreatDoor
