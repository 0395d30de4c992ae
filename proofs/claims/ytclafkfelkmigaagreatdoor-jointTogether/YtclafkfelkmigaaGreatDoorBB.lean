import Derived.Test.YtclafkfelkmigaaGreatDoorW2
import Derived.Shelf.Small.Bits
import Derived.Shelf.Bits.Mul64
namespace Go.Proofs.YtclafkfelkmigaaGreatDoor
set_option linter.unusedVariables false
set_option linter.unusedSimpArgs false
set_option maxRecDepth 100000
set_option maxHeartbeats 4000000
section
open Go.RowKit Go.Shelf
def rLen:Ren:=⟨fun n=>if n=134 then 164 else 142,fun n=>if n=46 then 205 else if n=53 then 34 else n,fun n=>n⟩
theorem laysLen:Lays.n134 Tryz.prog rLen where
 mixed:=by kernel_rfl
 f129:=by kernel_rfl
 f134:=by kernel_rfl
 t3:=by kernel_rfl
 a3:=fun _=>by kernel_rfl
 z3:=fun _=>by kernel_rfl
 v3:=fun _=>by kernel_rfl
 t4:=by kernel_rfl
 a4:=fun _=>by kernel_rfl
 z4:=fun _=>by kernel_rfl
 v4:=fun _=>by kernel_rfl
 t5:=by kernel_rfl
 a5:=fun _=>by kernel_rfl
 z5:=fun _=>by kernel_rfl
 v5:=fun _=>by kernel_rfl
 t9:=by kernel_rfl
 a9:=fun _=>by kernel_rfl
 z9:=fun _=>by kernel_rfl
 v9:=fun _=>by kernel_rfl
 t46:=by kernel_rfl
 a46:=fun _=>by kernel_rfl
 z46:=fun _=>by kernel_rfl
 v46:=fun _=>by kernel_rfl
 t53:=by kernel_rfl
 a53:=fun _=>by kernel_rfl
 z53:=fun _=>by kernel_rfl
 v53:=fun _=>by kernel_rfl
def bl(x:Int):Int:=(Lib.bitLen x.toNat:Int)
theorem len64_any(x:Int)(w:World)(hx:W64 x):Calls Tryz.prog 142 #[iU x] w fun e w'=>e= .returned (iI (bl x))/\w'=w:=
 Any.bits_Len64 {laysLen with} x w hx.1 (by have:=hx.2;omega)
theorem lead64_any(x:Int)(w:World)(hx:W64 x):Calls Tryz.prog 164 #[iU x] w fun e w'=>e= .returned (iI (64 -bl x))/\w'=w:=
 Any.bits_LeadingZeros64 laysLen x w hx.1 (by have:=hx.2;omega)
theorem Vl(x:Int)(hx:W64 x):0<=bl x/\bl x<=64:=by
 have h:=Lib.bitLen_le x.toNat 64 (by omega) (by have:=hx.1;have:=hx.2;omega)
 unfold bl;omega
theorem Wp: ∀(k x:Nat),x<2^k->x≠0->k<=64->0<Lib.bitLen x/\2^(Lib.bitLen x -1)<=x/\x<2^Lib.bitLen x
 | 0,x,h,h0,_=>by simp at h;omega
 | k+1,x,h,h0,hk=>by
  have hx:x<2^64:=Nat.lt_of_lt_of_le h (Nat.pow_le_pow_right (by omega) hk)
  rw[Lib.bitLen_half x h0 hx]
  by_cases h1:x/2=0
  ·have hz:Lib.bitLen (x/2)=0:=by rw[h1];decide
   rw[hz];simp;omega
  ·obtain⟨p,q,r⟩:=Wp k (x/2) (by rw[Nat.pow_succ] at h;omega) h1 (by omega)
   refine⟨by omega,?_,?_⟩
   ·have e:1+Lib.bitLen (x/2) -1=(Lib.bitLen (x/2) -1)+1:=by omega
    rw[e,Nat.pow_succ];omega
   ·have e:1+Lib.bitLen (x/2)=Lib.bitLen (x/2)+1:=by omega
    rw[e,Nat.pow_succ];omega
theorem bl_top(x:Int)(hx:W64 x)(h:9223372036854775808<=x):bl x=64:=by
 have hb:=Vl x hx
 obtain⟨_,_,r⟩:=Wp 64 x.toNat (by have:=hx.2;omega) (by omega) (by omega)
 have: ¬Lib.bitLen x.toNat<=63:=fun hle=>by
  have:=Nat.pow_le_pow_right (n:=2) (by omega) hle
  omega
 unfold bl at *;omega
end
section
open Go.RowKit
def blen(a b c d:Int):Int:=if d≠0 then 192+bl d else if c≠0 then 128+bl c else if b≠0 then 64+bl b else if a≠0 then bl a else 0
theorem Uo(a b c d:Int)(w:World)(ha:W64 a)(hb:W64 b)(hc:W64 c)(hd:W64 d):
 CC 121 #[A4 a b c d] w (iI (blen a b c d)):=by
 obtain⟨a1,a2⟩:=Vl a ha;obtain⟨b1,b2⟩:=Vl b hb;obtain⟨c1,c2⟩:=Vl c hc;obtain⟨d1,d2⟩:=Vl d hd
 unfold blen
 go_enter Tryz.func121,Tryz.ntmps121
 go_wp2
 refine wp_loop_rounds 5 ?_
 repeat any_goals (rw[rounds_succ];go_wp2_with (go_at_call 142;refine(len64_any _ _ (by assumption)).mono ?_;rintro e w' ⟨rfl,rfl⟩))
 all_goals (go_ret;refine⟨?_,by go_grown⟩;simp_all)
theorem bl_spec(x:Int)(hx:W64 x)(h:x≠0):0<bl x/\(2:Int)^(bl x -1).toNat<=x/\x<2^(bl x).toNat:=by
 obtain⟨x1,x2⟩:=hx
 obtain⟨p,q,r⟩:=Wp 64 x.toNat (by omega) (by omega) (by omega)
 have e1:(bl x -1).toNat=Lib.bitLen x.toNat -1:=by unfold bl;omega
 have e2:(bl x).toNat=Lib.bitLen x.toNat:=by unfold bl;omega
 rw[e1,e2]
 have q':((2^(Lib.bitLen x.toNat -1):Nat):Int)<=((x.toNat:Nat):Int):=Int.ofNat_le.2 q
 have r':((x.toNat:Nat):Int)<((2^Lib.bitLen x.toNat:Nat):Int):=Int.ofNat_lt.2 r
 simp only[Int.natCast_pow,Int.cast_ofNat_Int] at q' r'
 exact⟨by unfold bl;omega,by omega,by omega⟩
theorem lift_top(a b c d:Int)(ha:W64 a)(hb:W64 b)(hc:W64 c)(hd:W64 d)(h:V a b c d≠0):
 0<=256 -blen a b c d/\256 -blen a b c d<=255/\0x8000000000000000000000000000000000000000000000000000000000000000<=V a b c d*2^(256 -blen a b c d).toNat/\V a b c d*2^(256 -blen a b c d).toNat<0x10000000000000000000000000000000000000000000000000000000000000000:=by
 have key: ∀(k:Nat) (x low:Int),k<=192->W64 x->x≠0->0<=low->low<2^k->V a b c d=low+x*2^k->blen a b c d=k+bl x->
  0<=256 -blen a b c d/\256 -blen a b c d<=255/\0x8000000000000000000000000000000000000000000000000000000000000000<=V a b c d*2^(256 -blen a b c d).toNat/\V a b c d*2^(256 -blen a b c d).toNat<0x10000000000000000000000000000000000000000000000000000000000000000:=by
  intro k x low hk hx h0 l1 l2 e1 e2
  obtain⟨p,q,r⟩:=bl_spec x hx h0
  have hb2:=Vl x hx
  refine⟨by omega,by omega,?_,?_⟩
  ·have h1:(2:Int)^(bl x -1).toNat*2^k<=V a b c d:=by
    have:=Int.mul_le_mul_of_nonneg_right q (show (0:Int)<=2^k from Int.le_of_lt (Int.pow_pos (by omega)))
    omega
   have h2:=Int.mul_le_mul_of_nonneg_right h1 (show (0:Int)<=2^(256 -blen a b c d).toNat from Int.le_of_lt (Int.pow_pos (by omega)))
   rw[<-Int.pow_add,<-Int.pow_add,show (bl x -1).toNat+k+(256 -blen a b c d).toNat=255 by omega] at h2
   exact h2
  ·have h1:V a b c d<(2:Int)^(bl x).toNat*2^k:=by
    have h3:x+1<=2^(bl x).toNat:=r
    have:=Int.mul_le_mul_of_nonneg_right h3 (show (0:Int)<=2^k from Int.le_of_lt (Int.pow_pos (by omega)))
    rw[Int.add_mul] at this
    omega
   have h2:=Int.mul_lt_mul_of_pos_right h1 (show (0:Int)<2^(256 -blen a b c d).toNat from Int.pow_pos (by omega))
   rw[<-Int.pow_add,<-Int.pow_add,show (bl x).toNat+k+(256 -blen a b c d).toNat=256 by omega] at h2
   exact h2
 have ha':=ha;have hb':=hb;have hc':=hc
 obtain⟨a1,a2⟩:=ha';obtain⟨b1,b2⟩:=hb';obtain⟨c1,c2⟩:=hc'
 by_cases h3:d=0
 ·by_cases h2:c=0
  ·by_cases h1:b=0
   ·have h0:a≠0:=by intro h0;apply h;rw[h0,h1,h2,h3];rfl
    exact key 0 a 0 (by omega) ha h0 (by omega) (by decide) (by subst h3 h2 h1;unfold V;omega) (by unfold blen;simp[h3,h2,h1,h0])
   ·exact key 64 b a (by omega) hb h1 a1 (by simpa using a2) (by subst h3 h2;unfold V;omega) (by unfold blen;simp[h3,h2,h1])
  ·exact key 128 c (a+b*18446744073709551616) (by omega) hc h2 (by omega) (by show _<(0x100000000000000000000000000000000:Int);omega) (by subst h3;unfold V;omega) (by unfold blen;simp[h3,h2])
 ·exact key 192 d (a+b*18446744073709551616+c*0x100000000000000000000000000000000) (by omega) hd h3 (by omega) (by show _<(0x1000000000000000000000000000000000000000000000000:Int);omega) (by unfold V;omega) (by unfold blen;simp[h3])
end
section
def Qd(u v h l:Int):Int:=(u*4294967296+v)/(h*4294967296+l)
theorem qd_start(u v h l q r:Int)(hv:0<=v/\v<4294967296)(hh:2147483648<=h/\h<4294967296)(hl:0<=l/\l<4294967296)(hu:0<=u/\u<h*4294967296+l)
 (e:u=q*h+r)(hr:0<=r/\r<h):Qd u v h l<=q/\q<=4294967297/\0<=Qd u v h l/\Qd u v h l<4294967296:=by
 have h0:0<h*4294967296+l:=by omega
 have hq:q<=4294967297:=by
  by_cases c:4294967298<=q
  ·have:4294967298*h<=q*h:=Int.mul_le_mul_of_nonneg_right c (by omega)
   omega
  ·omega
 refine⟨?_,hq,Int.ediv_nonneg (by omega) (by omega),?_⟩
 ·
   have h1:Qd u v h l*(h*4294967296+l)<=u*4294967296+v:=Int.ediv_mul_le _ (by omega)
   have h2:0<=Qd u v h l:=Int.ediv_nonneg (by omega) (by omega)
   generalize Qd u v h l=Q at *
   have h3:Q*(h*4294967296+l)=Q*h*4294967296+Q*l:=by rw[Int.mul_add,Int.mul_assoc]
   have h4:0<=Q*l:=Int.mul_nonneg h2 hl.1
   by_cases c:q+1<=Q
   ·have h5:(q+1)*h<=Q*h:=Int.mul_le_mul_of_nonneg_right c (by omega)
    rw[Int.add_mul] at h5
    omega
   ·omega
 ·unfold Qd
  exact Int.ediv_lt_of_lt_mul h0 (by omega)
theorem qd_test(u v h l q r:Int)(hv:0<=v/\v<4294967296)(hh:2147483648<=h/\h<4294967296)(hl:0<=l/\l<4294967296)(e:u=q*h+r):
 (4294967296*r+v<q*l->Qd u v h l<q)/\(q*l<=4294967296*r+v->q<=Qd u v h l):=by
 have h0:0<h*4294967296+l:=by omega
 have h3:q*(h*4294967296+l)=q*h*4294967296+q*l:=by rw[Int.mul_add,Int.mul_assoc]
 constructor
 ·intro c
  unfold Qd
  exact Int.ediv_lt_of_lt_mul h0 (by omega)
 ·intro c
  unfold Qd
  exact(Int.le_ediv_iff_mul_le h0).2 (by omega)
theorem qd_break(u v h l q r:Int)(hv:0<=v/\v<4294967296)(hh:2147483648<=h/\h<4294967296)(hl:0<=l/\l<4294967296)(e:u=q*h+r)(hq:0<=q/\q<=4294967296)(hr:4294967296<=r):q<=Qd u v h l:=by
 refine(qd_test u v h l q r hv hh hl e).2 ?_
 have:q*l<=4294967296*4294967296:=Int.mul_le_mul hq.2 (by omega) hl.1 (by omega)
 omega
theorem qd_rest(u v h l:Int)(hv:0<=v/\v<4294967296)(hh:2147483648<=h/\h<4294967296)(hl:0<=l/\l<4294967296):
 0<=u*4294967296+v -Qd u v h l*(h*4294967296+l)/\u*4294967296+v -Qd u v h l*(h*4294967296+l)<h*4294967296+l:=by
 have h0:0<h*4294967296+l:=by omega
 have h1:Qd u v h l*(h*4294967296+l)<=u*4294967296+v:=Int.ediv_mul_le _ (by omega)
 have h2:=Int.lt_ediv_add_one_mul_self (u*4294967296+v) h0
 unfold Qd at *
 rw[Int.add_mul] at h2
 omega
theorem qd_two(u v1 v0 h l:Int)(hv1:0<=v1/\v1<4294967296)(hv0:0<=v0/\v0<4294967296)(hh:2147483648<=h/\h<4294967296)(hl:0<=l/\l<4294967296)(m:Int)(hm:m=u*4294967296+v1 -Qd u v1 h l*(h*4294967296+l)):
 Qd u v1 h l*4294967296+Qd m v0 h l=(u*18446744073709551616+(v1*4294967296+v0))/(h*4294967296+l):=by
 have h0:0<h*4294967296+l:=by omega
 have e:u*18446744073709551616+(v1*4294967296+v0)=(m*4294967296+v0)+(Qd u v1 h l*4294967296)*(h*4294967296+l):=by
  rw[hm,Int.mul_right_comm (Qd u v1 h l)];omega
 rw[e,Int.add_mul_ediv_right _ _ (by omega)]
 unfold Qd;omega
end
section
open Go.RowKit
theorem div64_0(lo y:Int)(w:World)(hl:W64 lo)(hy:W64 y)(h2:9223372036854775808<=y):
 Calls Tryz.prog 159 #[iU 0,iU lo,iU y] w fun e w'=>(∃r,e= .returned (.tuple #[iU (lo/y),iU r]))/\Bw w w':=by
 obtain⟨l1,l2⟩:=hl;obtain⟨y1,y2⟩:=hy
 have hy0:(y==0)=false:=by simp;omega
 go_enter Tryz.func159,Tryz.ntmps159
 go_wp2
 go_quiet (fail)
 go_wp2
 go_ret2
 exact⟨⟨_,rfl⟩,below_drewN (Below.refl _ _) _⟩
theorem and32L(x:Int)(h:W64 x):bits .and .u64 x 4294967295=x%4294967296:=by
 obtain⟨h1,h2⟩:=h
 obtain⟨x,rfl⟩:=Int.eq_ofNat_of_zero_le h1
 rw[Mul64.maskN x (by omega)];omega
theorem or0(x:Int)(h:W64 x):bits .or .u64 x 0=x:=by
 obtain⟨h1,h2⟩:=h
 obtain⟨x,rfl⟩:=Int.eq_ofNat_of_zero_le h1
 have:=bits_or_u64_nat x 0 (by omega) (by omega)
 simpa using this
theorem ret2w{a a' b:Int}(h:a=a'):Ending.returned (.tuple #[iU a,iU b])=Ending.returned (.tuple #[iU a',iU b]):=by rw[h]
theorem qd_step{u q h r:Int}(e:u=q*h+r):Hid (u=(q -1)*h+(r+h)):=by
 show u=_
 rw[Int.sub_mul];omega
theorem div64_1(hi lo y:Int)(w:World)(hh:W64 hi)(hl:W64 lo)(hy:W64 y)(h2:9223372036854775808<=y)(h3:hi<y)(h4:0<hi):
 Calls Tryz.prog 159 #[iU hi,iU lo,iU y] w fun e w'=>(∃r,e= .returned (.tuple #[iU ((hi*18446744073709551616+lo)/y),iU r]))/\Bw w w':=by
 have hbl:=bl_top y hy h2
 have hy':=hy
 have ay:=and32L y hy
 have al:=and32L lo hl
 have ho:bits .or .u64 hi (lo/18446744073709551616)=hi:=by rw[show lo/18446744073709551616=0 from by have:=hl.1;have:=hl.2;omega];exact or0 hi hh
 obtain⟨i1,i2⟩:=hh;obtain⟨l1,l2⟩:=hl;obtain⟨y1,y2⟩:=hy
 have hy0:(y==0)=false:=by simp;omega
 have hi0:(hi==0)=false:=by simp;omega
 have hn: ¬y<=hi:=by omega
 obtain⟨yh,eyh⟩: ∃yh,y/4294967296=yh:=⟨_,rfl⟩
 obtain⟨yl,eyl⟩: ∃yl,y%4294967296=yl:=⟨_,rfl⟩
 obtain⟨lh,elh⟩: ∃lh,lo/4294967296=lh:=⟨_,rfl⟩
 obtain⟨ll,ell⟩: ∃ll,lo%4294967296=ll:=⟨_,rfl⟩
 have hyh:2147483648<=yh/\yh<4294967296:=by omega
 have hyl:0<=yl/\yl<4294967296:=by omega
 have hlh:0<=lh/\lh<4294967296:=by omega
 have hll:0<=ll/\ll<4294967296:=by omega
 have ey:Hid (y=yh*4294967296+yl):=by show y=_;omega
 have el:Hid (lo=lh*4294967296+ll):=by show lo=_;omega
 rw[eyl] at ay
 rw[ell] at al
 obtain⟨q,eq⟩: ∃q,hi/yh=q:=⟨_,rfl⟩
 obtain⟨r,er⟩: ∃r,hi -q*yh=r:=⟨_,rfl⟩
 have hqr:0<=r/\r<yh:=by
  have a1:=Int.emod_nonneg hi (show yh≠0 by omega)
  have a2:=Int.emod_lt_of_pos hi (show 0<yh by omega)
  have a3:=Int.mul_ediv_add_emod hi yh
  rw[eq,Int.mul_comm] at a3
  omega
 have e1:hi=q*yh+r:=by omega
 have st:=qd_start hi lh yh yl q r hlh hyh hyl ⟨i1,by rw[<-ey.out];exact h3⟩ e1 hqr
 have hq0:0<=q:=by omega
 have ert:hi.tdiv yh=q:=by rw[Int.tdiv_eq_ediv_of_nonneg i1];exact eq
 have ewr:IntKind.u64.wrap (hi -IntKind.u64.wrap (q*yh))=r:=by
  rw[IntKind.wrap_u64,IntKind.wrap_u64];omega
 have ewr2:IntKind.u64.wrap (hi -q*yh)=r:=by
  rw[IntKind.wrap_u64];omega
 have E1:Hid (hi=q*yh+r):=e1
 clear eyl ell er e1
 go_enter Tryz.func159,Tryz.ntmps159
 go_wp2_with fail
 refine(lead64_any y _ hy').mono ?_
 rintro e w' ⟨rfl,rfl⟩
 rw[hbl]
 clear hbl
 go_upto_block 0 with fail
 clear ewr ewr2 ert eq
 go_cut [15,16] (fun s15 s16 wx=>s15=iU (Qd hi lh yh yl)/\(∃r,s16=iU r)/\w'=wx)
 case first=>
  go_wp2_with fail
  go_loop [15,16] (fun s15 s16=> ∃q r,s15=iU q/\s16=iU r/\Hid (hi=q*yh+r)/\0<=r/\r<4294967296/\Qd hi lh yh yl<=q/\q<=4294967297) (fun s15 _=>(intOf s15 -Qd hi lh yh yl).toNat)
  case atStart=>exact⟨q,r,rfl,rfl,E1,hqr.1,by omega,st.1,st.2.1⟩
  case round=>
   obtain⟨q',r',rfl,rfl,E2,r1,r2,k1,k2⟩:=hrel
   have t1:=qd_test hi lh yh yl q' r' hlh hyh hyl E2.out
   have hp0:0<=q'*yl:=Int.mul_nonneg (by omega) hyl.1
   have hp1:q'*yl<=4294967297*4294967295:=Int.mul_le_mul k2 (by omega) hyl.1 (by omega)
   clear E1 hqr
   have kst:=st.2.2.2
   go_wp2
   all_goals first
    | (go_meet;case rel=>exact⟨congrArg (Value.int IntKind.u64) (by have k5:=qd_break hi lh yh yl (q' -1) (r'+yh) hlh hyh hyl (qd_step E2.out) ⟨by omega,by omega⟩ (by omega);omega),⟨_,rfl⟩,rfl⟩)
    | (go_meet;case rel=>exact⟨congrArg (Value.int IntKind.u64) (by omega),⟨_,rfl⟩,rfl⟩)
    | exact⟨⟨q' -1,r'+yh,rfl,rfl,qd_step E2.out,by omega,by omega,by omega,by omega⟩,by simp[intOf];omega⟩
 case rest=>
  obtain⟨rfl,⟨r0,rfl⟩,rfl⟩:=hcut
  clear E1 hqr hq0
  have c1:=st.2.2.1
  have c2:=st.2.2.2
  clear st
  have hrs:=qd_rest hi lh yh yl hlh hyh hyl
  rw[<-ey.out] at hrs
  obtain⟨m,em⟩: ∃m,hi*4294967296+lh -Qd hi lh yh yl*y=m:=⟨_,rfl⟩
  rw[em] at hrs
  have EM:Hid (m=hi*4294967296+lh -Qd hi lh yh yl*(yh*4294967296+yl)):=by show m=_;rw[<-ey.out];exact em.symm
  have hm:IntKind.u64.wrap (IntKind.u64.wrap (IntKind.u64.wrap (hi*4294967296)+lh) -IntKind.u64.wrap (Qd hi lh yh yl*y))=m:=by
   simp only[IntKind.wrap_u64];omega
  clear em
  obtain⟨q2,eq2⟩: ∃q2,m/yh=q2:=⟨_,rfl⟩
  obtain⟨r2,er2⟩: ∃r2,m -q2*yh=r2:=⟨_,rfl⟩
  have hqr2:0<=r2/\r2<yh:=by
   have a1:=Int.emod_nonneg m (show yh≠0 by omega)
   have a2:=Int.emod_lt_of_pos m (show 0<yh by omega)
   have a3:=Int.mul_ediv_add_emod m yh
   rw[eq2,Int.mul_comm] at a3
   omega
  have e2:m=q2*yh+r2:=by omega
  have st2:=qd_start m ll yh yl q2 r2 hll hyh hyl ⟨hrs.1,by rw[<-ey.out];exact hrs.2⟩ e2 hqr2
  have hq20:0<=q2:=by omega
  have hq21:IntKind.u64.wrap q2=q2:=by rw[IntKind.wrap_u64];omega
  have ert2:m.tdiv yh=q2:=by rw[Int.tdiv_eq_ediv_of_nonneg hrs.1];exact eq2
  have ewr:IntKind.u64.wrap (m -IntKind.u64.wrap (q2*yh))=r2:=by
   rw[IntKind.wrap_u64,IntKind.wrap_u64];omega
  have E1:Hid (m=q2*yh+r2):=e2
  clear er2 e2 eq2
  go_upto_block 2 with fail
  clear ewr ert2 hm
  go_cut [18,16] (fun s15 s16 wx=>s15=iU (Qd m ll yh yl)/\(∃r,s16=iU r)/\w'=wx)
  case first=>
   go_wp2_with fail
   go_loop [18,16] (fun s15 s16=> ∃q r,s15=iU q/\s16=iU r/\Hid (m=q*yh+r)/\0<=r/\r<4294967296/\Qd m ll yh yl<=q/\q<=4294967297) (fun s15 _=>(intOf s15 -Qd m ll yh yl).toNat)
   case atStart=>exact⟨q2,r2,rfl,rfl,E1,hqr2.1,by omega,st2.1,st2.2.1⟩
   case round=>
    obtain⟨q',r',rfl,rfl,E2,r1,r2',k1,k2⟩:=hrel
    have t1:=qd_test m ll yh yl q' r' hll hyh hyl E2.out
    have hp0:0<=q'*yl:=Int.mul_nonneg (by omega) hyl.1
    have hp1:q'*yl<=4294967297*4294967295:=Int.mul_le_mul k2 (by omega) hyl.1 (by omega)
    clear E1 hqr2
    have kst:=st2.2.2.2
    have kst0:=st2.2.2.1
    go_wp2
    all_goals first
     | (go_meet;case rel=>exact⟨congrArg (Value.int IntKind.u64) (by have k5:=qd_break m ll yh yl (q' -1) (r'+yh) hll hyh hyl (qd_step E2.out) ⟨by omega,by omega⟩ (by omega);omega),⟨_,rfl⟩,rfl⟩)
     | (go_meet;case rel=>exact⟨congrArg (Value.int IntKind.u64) (by omega),⟨_,rfl⟩,rfl⟩)
     | exact⟨⟨q' -1,r'+yh,rfl,rfl,qd_step E2.out,by omega,by omega,by omega,by omega⟩,by simp[intOf];omega⟩
  case rest=>
   obtain⟨rfl,⟨r3,rfl⟩,rfl⟩:=hcut
   have d1:=st2.2.2.1
   have d2:=st2.2.2.2
   clear st2 E1 hqr2
   have HF:Hid (Qd hi lh yh yl*4294967296+Qd m ll yh yl=(hi*18446744073709551616+lo)/y):=by
    show _=_
    rw[qd_two hi lh ll yh yl hlh hll hyh hyl m EM.out,<-ey.out,<-el.out]
   go_wp2
   go_ret2
   exact⟨⟨_,ret2w HF.out⟩,Below.refl _ _⟩
theorem div64_any(hi lo y:Int)(w:World)(hh:W64 hi)(hl:W64 lo)(hy:W64 y)(h2:9223372036854775808<=y)(h3:hi<y):
 Calls Tryz.prog 159 #[iU hi,iU lo,iU y] w fun e w'=>(∃r,e= .returned (.tuple #[iU ((hi*18446744073709551616+lo)/y),iU r]))/\Bw w w':=by
 by_cases h:0<hi
 ·exact div64_1 hi lo y w hh hl hy h2 h3 h
 ·have h0:hi=0:=by have:=hh.1;omega
  subst h0
  have:=div64_0 lo y w hl hy h2
  simpa using this
end
section
def gs(r2 r3 d3:Int):Int:=if d3<=r3 then 18446744073709551615 else (r3*18446744073709551616+r2)/d3
theorem gs_bd(r2 r3 d3:Int)(h2:W64 r2)(h3:W64 r3)(hd:W64 d3)(h:9223372036854775808<=d3):0<=gs r2 r3 d3/\gs r2 r3 d3<=18446744073709551615:=by
 obtain⟨a1,a2⟩:=h2;obtain⟨b1,b2⟩:=h3;obtain⟨c1,c2⟩:=hd
 unfold gs;split
 ·omega
 ·refine⟨Int.ediv_nonneg (by omega) (by omega),?_⟩
  have:(r3*18446744073709551616+r2)/d3<18446744073709551616:=Int.ediv_lt_of_lt_mul (by omega) (by omega)
  omega
theorem gs_ge(n r0 r1 r2 r3 d0 d1 d2 d3:Int)(hn:W64 n)(h0:W64 r0)(h1:W64 r1)(h2:W64 r2)(h3:W64 r3)(k0:W64 d0)(k1:W64 d1)(k2:W64 d2)(hd:W64 d3)(h:9223372036854775808<=d3)
 (hlt:V r0 r1 r2 r3<V d0 d1 d2 d3):(V r0 r1 r2 r3*18446744073709551616+n)/V d0 d1 d2 d3<=gs r2 r3 d3:=by
 obtain⟨a1,a2⟩:=hn;obtain⟨b1,b2⟩:=h0;obtain⟨c1,c2⟩:=h1;obtain⟨e1,e2⟩:=h2;obtain⟨f1,f2⟩:=h3
 obtain⟨p1,p2⟩:=k0;obtain⟨q1,q2⟩:=k1;obtain⟨s1,s2⟩:=k2;obtain⟨t1,t2⟩:=hd
 have hD:0<V d0 d1 d2 d3:=by unfold V;omega
 have hN:0<=V r0 r1 r2 r3:=by unfold V;omega
 unfold gs;split
 ·have:(V r0 r1 r2 r3*18446744073709551616+n)/V d0 d1 d2 d3<18446744073709551616:=Int.ediv_lt_of_lt_mul hD (by omega)
  omega
 ·have hq:=Int.ediv_mul_le (V r0 r1 r2 r3*18446744073709551616+n) (show V d0 d1 d2 d3≠0 by omega)
  have hq0:0<=(V r0 r1 r2 r3*18446744073709551616+n)/V d0 d1 d2 d3:=Int.ediv_nonneg (by omega) (by omega)
  generalize (V r0 r1 r2 r3*18446744073709551616+n)/V d0 d1 d2 d3=q at *
  refine(Int.le_ediv_iff_mul_le (by omega)).2 ?_
  have e:q*V d0 d1 d2 d3=q*d0+q*d1*18446744073709551616+q*d2*0x100000000000000000000000000000000+q*d3*0x1000000000000000000000000000000000000000000000000:=by
   unfold V;rw[Int.mul_add,Int.mul_add,Int.mul_add,Int.mul_assoc,Int.mul_assoc,Int.mul_assoc]
  have m0:0<=q*d0:=Int.mul_nonneg hq0 p1
  have m1:0<=q*d1:=Int.mul_nonneg hq0 q1
  have m2:0<=q*d2:=Int.mul_nonneg hq0 s1
  rw[e] at hq
  unfold V at hq
  omega
theorem st_sub(L r3 p:Int):
 D0 (L -V (D0 p) (D1 p) (D2 p) (D3 p))=D0 (L+r3*0x10000000000000000000000000000000000000000000000000000000000000000 -p)/\
 D1 (L -V (D0 p) (D1 p) (D2 p) (D3 p))=D1 (L+r3*0x10000000000000000000000000000000000000000000000000000000000000000 -p)/\
 D2 (L -V (D0 p) (D1 p) (D2 p) (D3 p))=D2 (L+r3*0x10000000000000000000000000000000000000000000000000000000000000000 -p)/\
 D3 (L -V (D0 p) (D1 p) (D2 p) (D3 p))=D3 (L+r3*0x10000000000000000000000000000000000000000000000000000000000000000 -p)/\
 r3 -(D4 p+ -D4 (L -V (D0 p) (D1 p) (D2 p) (D3 p)))=D4 (L+r3*0x10000000000000000000000000000000000000000000000000000000000000000 -p):=by
 rw[V_D]
 unfold D0 D1 D2 D3 D4
 refine⟨?_,?_,?_,?_,?_⟩<;>omega
theorem st_add(R D:Int):
 D0 (V (D0 R) (D1 R) (D2 R) (D3 R)+D)=D0 (R+D)/\D1 (V (D0 R) (D1 R) (D2 R) (D3 R)+D)=D1 (R+D)/\
 D2 (V (D0 R) (D1 R) (D2 R) (D3 R)+D)=D2 (R+D)/\D3 (V (D0 R) (D1 R) (D2 R) (D3 R)+D)=D3 (R+D)/\
 D4 R+D4 (V (D0 R) (D1 R) (D2 R) (D3 R)+D)=D4 (R+D):=by
 rw[V_D]
 unfold D0 D1 D2 D3 D4
 refine⟨?_,?_,?_,?_,?_⟩<;>omega
theorem st_top(N D g:Int)(hN:0<=N)(hD:0<D/\D<0x10000000000000000000000000000000000000000000000000000000000000000)(hg:N/D<=g/\0<=g/\g<=18446744073709551615):
 (D4 (N -D*g)%18446744073709551616=0->g=N/D/\N -D*g=N%D)/\(D4 (N -D*g)%18446744073709551616≠0->N/D<=g -1):=by
 have e:=Int.mul_ediv_add_emod N D
 have m1:=Int.emod_nonneg N (show D≠0 by omega)
 have m2:=Int.emod_lt_of_pos N hD.1
 have u:D*(N/D)<=D*g:=Int.mul_le_mul_of_nonneg_left hg.1 (by omega)
 have b:D*g<=0xffffffffffffffffffffffffffffffffffffffffffffffffffffffffffffffff*18446744073709551615:=Int.mul_le_mul (by omega) hg.2.2 hg.2.1 (by omega)
 constructor
 ·intro h
  have h0:0<=N -D*g:=by unfold D4 at h;omega
  have hle:g<=N/D:=(Int.le_ediv_iff_mul_le hD.1).2 (by rw[Int.mul_comm];omega)
  have hge:g=N/D:=by omega
  exact⟨hge,by rw[hge];omega⟩
 ·intro h
  by_cases c:g=N/D
  ·exfalso;apply h
   rw[c]
   unfold D4;omega
  ·omega
theorem st_dec(N D g:Int):N -D*g+D=N -D*(g -1):=by rw[Int.mul_sub];omega
end
section
open Go.RowKit Go.Shelf
def rMul:Ren:=⟨fun _=>160,fun n=>if n=46 then 205 else 34,fun n=>n⟩
theorem laysMul:Lays.n264 Tryz.prog rMul where
 mixed:=by kernel_rfl
 f264:=by kernel_rfl
 t46:=by kernel_rfl
 a46:=fun _=>by kernel_rfl
 z46:=fun _=>by kernel_rfl
 v46:=fun _=>by kernel_rfl
 t53:=by kernel_rfl
 a53:=fun _=>by kernel_rfl
 z53:=fun _=>by kernel_rfl
 v53:=fun _=>by kernel_rfl
theorem mul64_nat(x y:Nat)(hx:x<18446744073709551616)(hy:y<18446744073709551616)(w:World):
 Calls Tryz.prog 160 #[iU x,iU y] w fun e w'=>e= .returned (.tuple #[iU ((x*y/18446744073709551616:Nat):Int),iU ((x*y%18446744073709551616:Nat):Int)])/\w'=w:=
 Any.bits_Mul64 laysMul x y hx hy w
theorem V7(x y:Int)(hx:W64 x)(hy:W64 y)(w:World):
 Calls Tryz.prog 160 #[iU x,iU y] w fun e w'=>e= .returned (.tuple #[iU (x*y/18446744073709551616),iU (x*y%18446744073709551616)])/\w'=w:=by
 obtain⟨x1,x2⟩:=hx;obtain⟨y1,y2⟩:=hy
 obtain⟨x,rfl⟩:=Int.eq_ofNat_of_zero_le x1
 obtain⟨y,rfl⟩:=Int.eq_ofNat_of_zero_le y1
 have h:=mul64_nat x y (by omega) (by omega) w
 have e1:((x*y/18446744073709551616:Nat):Int)=(x:Int)*(y:Int)/18446744073709551616:=by simp
 have e2:((x*y%18446744073709551616:Nat):Int)=(x:Int)*(y:Int)%18446744073709551616:=by simp
 rw[e1,e2] at h
 exact h
end
section
open Go.RowKit
theorem V_mul(a b c d p:Int):V a b c d*p=a*p+b*p*18446744073709551616+c*p*0x100000000000000000000000000000000+d*p*0x1000000000000000000000000000000000000000000000000:=by
 unfold V
 rw[Int.add_mul,Int.add_mul,Int.add_mul,Int.mul_right_comm b,Int.mul_right_comm c,Int.mul_right_comm d]
theorem W_hi(x p:Int)(hx:W64 x)(hp:W64 p):W64 (x*p/18446744073709551616):=by
 obtain⟨x1,x2⟩:=hx;obtain⟨p1,p2⟩:=hp
 have h0:0<=x*p:=Int.mul_nonneg x1 p1
 have h1:x*p<=18446744073709551615*18446744073709551615:=Int.mul_le_mul (by omega) (by omega) p1 (by omega)
 unfold W64;omega
theorem W_lo(x:Int):W64 (x%18446744073709551616):=by unfold W64;omega
theorem W_0:W64 0:=by unfold W64;omega
theorem scale_spec(a b c d p:Int)(ha:W64 a)(hb:W64 b)(hc:W64 c)(hd:W64 d)(hp:W64 p):
 D0 (V a b c d*p)=D0 (V (a*p%18446744073709551616) (b*p%18446744073709551616) (c*p%18446744073709551616) (d*p%18446744073709551616)+V 0 (a*p/18446744073709551616) (b*p/18446744073709551616) (c*p/18446744073709551616))/\D1 (V a b c d*p)=D1 (V (a*p%18446744073709551616) (b*p%18446744073709551616) (c*p%18446744073709551616) (d*p%18446744073709551616)+V 0 (a*p/18446744073709551616) (b*p/18446744073709551616) (c*p/18446744073709551616))/\D2 (V a b c d*p)=D2 (V (a*p%18446744073709551616) (b*p%18446744073709551616) (c*p%18446744073709551616) (d*p%18446744073709551616)+V 0 (a*p/18446744073709551616) (b*p/18446744073709551616) (c*p/18446744073709551616))/\D3 (V a b c d*p)=D3 (V (a*p%18446744073709551616) (b*p%18446744073709551616) (c*p%18446744073709551616) (d*p%18446744073709551616)+V 0 (a*p/18446744073709551616) (b*p/18446744073709551616) (c*p/18446744073709551616))/\D4 (V a b c d*p)=(d*p/18446744073709551616)+D4 (V (a*p%18446744073709551616) (b*p%18446744073709551616) (c*p%18446744073709551616) (d*p%18446744073709551616)+V 0 (a*p/18446744073709551616) (b*p/18446744073709551616) (c*p/18446744073709551616))/\0<=D4 (V (a*p%18446744073709551616) (b*p%18446744073709551616) (c*p%18446744073709551616) (d*p%18446744073709551616)+V 0 (a*p/18446744073709551616) (b*p/18446744073709551616) (c*p/18446744073709551616))/\(d*p/18446744073709551616)+D4 (V (a*p%18446744073709551616) (b*p%18446744073709551616) (c*p%18446744073709551616) (d*p%18446744073709551616)+V 0 (a*p/18446744073709551616) (b*p/18446744073709551616) (c*p/18446744073709551616))<18446744073709551616:=by
 have hd':=W_hi d p hd hp
 obtain⟨a1,a2⟩:=ha;obtain⟨b1,b2⟩:=hb;obtain⟨c1,c2⟩:=hc;obtain⟨d1,d2⟩:=hd;obtain⟨p1,p2⟩:=hp
 rw[V_mul]
 have q0:0<=a*p:=Int.mul_nonneg a1 p1
 have q1:0<=b*p:=Int.mul_nonneg b1 p1
 have q2:0<=c*p:=Int.mul_nonneg c1 p1
 have q3:0<=d*p:=Int.mul_nonneg d1 p1
 have m: ∀x:Int,0<=x->x<18446744073709551616->x*p<=18446744073709551615*18446744073709551615:=fun x h1 h2=>Int.mul_le_mul (by omega) (by omega) p1 (by omega)
 have m0:=m a a1 a2;have m1:=m b b1 b2;have m2:=m c c1 c2;have m3:=m d d1 d2
 generalize a*p=A at *
 generalize b*p=B at *
 generalize c*p=C at *
 generalize d*p=D at *
 unfold D0 D1 D2 D3 D4 V
 refine⟨?_,?_,?_,?_,?_,?_,?_⟩<;>omega
theorem scale_any(a b c d p:Int)(w:World)(ha:W64 a)(hb:W64 b)(hc:W64 c)(hd:W64 d)(hp:W64 p):
 CC 147 #[A4 a b c d,iU p] w (.tuple #[NV (V a b c d*p),iU (D4 (V a b c d*p))]):=by
 obtain⟨e0,e1,e2,e3,e4,e5,e6⟩:=scale_spec a b c d p ha hb hc hd hp
 have HE:Hid (Ending.returned (.tuple #[NV (V a b c d*p),iU (D4 (V a b c d*p))])=Ending.returned (.tuple #[NV (V (a*p%18446744073709551616) (b*p%18446744073709551616) (c*p%18446744073709551616) (d*p%18446744073709551616)+V 0 (a*p/18446744073709551616) (b*p/18446744073709551616) (c*p/18446744073709551616)),iU ((d*p/18446744073709551616)+D4 (V (a*p%18446744073709551616) (b*p%18446744073709551616) (c*p%18446744073709551616) (d*p%18446744073709551616)+V 0 (a*p/18446744073709551616) (b*p/18446744073709551616) (c*p/18446744073709551616)))])):=by
  unfold NV;rw[e0,e1,e2,e3,e4];rfl
 have hd0:=(W_hi d p hd hp).1
 clear e0 e1 e2 e3 e4
 go_enter Tryz.func147,Tryz.ntmps147
 go_wp2
 refine wp_loop_rounds 5 ?_
 rw[rounds_succ]
 go_wp2_with fail
 refine(V7 a p ha hp _).mono ?_
 rintro e w' ⟨rfl,rfl⟩
 go_wp2
 rw[rounds_succ]
 go_wp2_with fail
 refine(V7 b p hb hp _).mono ?_
 rintro e w' ⟨rfl,rfl⟩
 go_wp2
 rw[rounds_succ]
 go_wp2_with fail
 refine(V7 c p hc hp _).mono ?_
 rintro e w' ⟨rfl,rfl⟩
 go_wp2
 rw[rounds_succ]
 go_wp2_with fail
 refine(V7 d p hd hp _).mono ?_
 rintro e w' ⟨rfl,rfl⟩
 go_wp2
 rw[rounds_succ]
 go_wp2_with fail
 refine(add_any _ _ _ _ _ _ _ _ _ (W_lo _) (W_lo _) (W_lo _) (W_lo _) W_0 (W_hi a p ha hp) (W_hi b p hb hp) (W_hi c p hc hp)).mono ?_
 rintro e w1 ⟨rfl,hB⟩
 obtain⟨hcell,hfroz,hsize⟩:=bcell hB
 simp only[World.size_alloc] at hsize hcell hfroz
 have z0:w.heap.size<w1.heap.size:=by omega
 have z1:w.heap.size+1<w1.heap.size:=by omega
 have z2:w.heap.size+1+1<w1.heap.size:=by omega
 have z3:w.heap.size+1+1+1<w1.heap.size:=by omega
 have hB':Bw w w1:=Below.trans (by go_grown) (hB.mono (by simp;omega))
 clear hB
 have hw:IntKind.u64.wrap ((d*p/18446744073709551616)+D4 (V (a*p%18446744073709551616) (b*p%18446744073709551616) (c*p%18446744073709551616) (d*p%18446744073709551616)+V 0 (a*p/18446744073709551616) (b*p/18446744073709551616) (c*p/18446744073709551616)))=(d*p/18446744073709551616)+D4 (V (a*p%18446744073709551616) (b*p%18446744073709551616) (c*p%18446744073709551616) (d*p%18446744073709551616)+V 0 (a*p/18446744073709551616) (b*p/18446744073709551616) (c*p/18446744073709551616)):=by rw[IntKind.wrap_u64];omega
 have hs1:=hB'.size
 go_wp2
 go_region
 go_wp2
 refine bodyPost_ret (v:= .tuple #[NV (V (a*p%18446744073709551616) (b*p%18446744073709551616) (c*p%18446744073709551616) (d*p%18446744073709551616)+V 0 (a*p/18446744073709551616) (b*p/18446744073709551616) (c*p/18446744073709551616)),iU ((d*p/18446744073709551616)+D4 (V (a*p%18446744073709551616) (b*p%18446744073709551616) (c*p%18446744073709551616) (d*p%18446744073709551616)+V 0 (a*p/18446744073709551616) (b*p/18446744073709551616) (c*p/18446744073709551616)))]) (by simp[results,Tryz.results147,go_sem,hcell,z0,z1,z2,z3,hw]) rfl ⟨HE.out.symm,?_⟩
 iterate 6 all_goals (go_grown<;>try with_reducible refine below_drewN ?_ _)
end
end Go.Proofs.YtclafkfelkmigaaGreatDoor
