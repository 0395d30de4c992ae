import Derived.Test.YtoffgfhilkpdpaaGreatDoorEE
namespace Go.Proofs.YtoffgfhilkpdpaaGreatDoor
set_option linter.unusedVariables false
set_option linter.unusedSimpArgs false
set_option maxRecDepth 100000
set_option maxHeartbeats 4000000
section
open Go.RowKit
def nx(n x:Int):Int:=IntKind.u64.wrap (x*IntKind.u64.wrap (2 -IntKind.u64.wrap (n*x)))
def mik(n:Int):Nat->Int
 | 0=>n
 | k+1=>nx n (mik n k)
def mi(n:Int):Int:=IntKind.u64.wrap (-(mik n 5))
theorem wrap_u(x:Int):IntKind.u64.wrap x=x%18446744073709551616:=by
 simp[IntKind.wrap,IntKind.signed,IntKind.bits]
theorem nx_step(n x c D:Int)(h:c∣1 -n*x)(h1:D∣c*c)(h2:D∣18446744073709551616):D∣1 -n*nx n x:=by
 unfold nx
 rw[wrap_u,wrap_u,wrap_u]
 obtain⟨p,hp⟩:=h
 obtain⟨q,hq⟩:=h1
 obtain⟨r,hr⟩:=h2
 have e1:=Int.mul_ediv_add_emod (n*x) 18446744073709551616
 have e2:=Int.mul_ediv_add_emod (2 -n*x%18446744073709551616) 18446744073709551616
 have e3:=Int.mul_ediv_add_emod (x*((2 -n*x%18446744073709551616)%18446744073709551616)) 18446744073709551616
 generalize x*((2 -n*x%18446744073709551616)%18446744073709551616)/18446744073709551616=t3 at *
 generalize x*((2 -n*x%18446744073709551616)%18446744073709551616)%18446744073709551616=y at *
 generalize (2 -n*x%18446744073709551616)/18446744073709551616=t2 at *
 generalize (2 -n*x%18446744073709551616)%18446744073709551616=z at *
 generalize n*x/18446744073709551616=t1 at *
 generalize n*x%18446744073709551616=s at *
 refine⟨q*p*p+n*r*t3+n*x*r*t2 -n*x*r*t1,?_⟩
 have hy:y=x*z -18446744073709551616*t3:=Z1
 have hz:z=2 -s -18446744073709551616*t2:=Z1
 have hs:s=n*x -18446744073709551616*t1:=Z1
 have hpp:(1 -n*x)*(1 -n*x)=D*(q*p*p):=by rw[hp];grind
 rw[hy,hz,hs]
 grind
theorem mi_spec(n:Int)(h:n%2=1):18446744073709551616∣mi n*n+1:=by
 have h0:(8:Int)∣1 -n*mik n 0:=by
  show (8:Int)∣1 -n*n
  obtain⟨q,hq⟩: ∃q,n=2*q+1:=⟨n/2,Z1⟩
  obtain⟨r,hr⟩: ∃r,q*(q+1)=2*r:=by
   rcases Int.emod_two_eq q with h | h
   ·exact⟨q/2*(q+1),by
     have:=Int.mul_ediv_add_emod q 2;generalize q/2=s at *;have:q=2*s:=Z1
     subst this;grind⟩
   ·exact⟨q*((q+1)/2),by
     have:=Int.mul_ediv_add_emod (q+1) 2;have e:(q+1)%2=0:=Z1
     generalize (q+1)/2=s at *;have:q+1=2*s:=Z1
     rw[this];grind⟩
  exact⟨-r,by subst hq;grind⟩
 have h1:=nx_step n (mik n 0) 8 64 h0 Z2 Z2
 have h2:=nx_step n (mik n 1) 64 4096 h1 Z2 Z2
 have h3:=nx_step n (mik n 2) 4096 16777216 h2 Z2 Z2
 have h4:=nx_step n (mik n 3) 16777216 281474976710656 h3 Z2 Z2
 have h5:=nx_step n (mik n 4) 281474976710656 18446744073709551616 h4 Z2 Z2
 have h6:(18446744073709551616:Int)∣1 -n*mik n 5:=h5
 unfold mi
 rw[wrap_u]
 obtain⟨p,hp⟩:=h6
 have e:=Int.mul_ediv_add_emod (-(mik n 5)) 18446744073709551616
 generalize -(mik n 5)/18446744073709551616=t at *
 generalize -(mik n 5)%18446744073709551616=s at *
 generalize mik n 5=y at *
 refine⟨p -t*n,?_⟩
 have hs:s= -y -18446744073709551616*t:=Z1
 rw[hs];grind
theorem W_mi(n:Int):W64 (mi n):=by unfold mi;rw[wrap_u];exact⟨Int.emod_nonneg _ Z2,Int.emod_lt_of_pos _ Z2⟩
theorem ret_u{a b:Int}(h:a=b):Ending.returned (iU a)= .returned (iU b):=by rw[h]
theorem minv(n:Int)(w:World)(hn:W64 n):Calls Tryz.prog 155 #[iU n] w fun e w'=>e= .returned (iU (mi n))/\w'=w:=by
 obtain⟨n1,n2⟩:=hn
 go_enter Tryz.func155,Tryz.ntmps155
 go_wp2
 go_loop [3,5] (fun x i=> ∃k:Nat,k<=5/\i=iI k/\x=iU (mik n k)) (fun _ i=>5 -(intOf i).toNat)
 case atStart=>exact⟨0,Z1,rfl,rfl⟩
 case round=>
  obtain⟨k,hk,rfl,rfl⟩:=hrel
  by_cases hlt:k<5
  ·have hlt':(k:Int)<5:=Z1
   go_wp2
   go_round
   case rel=>exact⟨k+1,Z1,by go_num,rfl⟩
   case measure=>simp[intOf];omega
  ·have hlt': ¬(k:Int)<5:=Z1
   have h5:k=5:=Z1
   subst h5
   go_wp2
   go_ret
   exact⟨rfl,rfl⟩
end
section
def dgt(b:Int)(k:Nat):Int:=b/18446744073709551616^k%18446744073709551616
theorem LN_at(b:Int): ∀k:Nat,k<4->(LN b)[k]?=some (iU (dgt b k))
 | 0,_=>by simp[dgt,D0]
 | 1,_=>by simp[dgt,D1]
 | 2,_=>by simp[dgt,D2]
 | 3,_=>by simp[dgt,D3]
theorem W_dgt(b:Int)(k:Nat):W64 (dgt b k):=by unfold dgt W64;omega
theorem emod_mul'(b x y:Int)(hx:0<x)(hy:0<y):b%(x*y)=b%x+x*(b/x%y):=by
 have e1:=Int.mul_ediv_add_emod b x
 have e2:=Int.mul_ediv_add_emod (b/x) y
 have h1:=Int.emod_nonneg b (show x≠0 by omega)
 have h2:=Int.emod_lt_of_pos b hx
 have h3:=Int.emod_nonneg (b/x) (show y≠0 by omega)
 have h4:=Int.emod_lt_of_pos (b/x) hy
 generalize b/x%y=s at *
 generalize b/x/y=t at *
 generalize b/x=q at *
 generalize b%x=r at *
 have hb:b=r+x*s+x*y*t:=by rw[<-e1,<-e2];grind
 rw[hb,Int.add_mul_emod_self_left]
 have h5:0<=x*s:=Int.mul_nonneg Z1 h3
 have h6:x*s<=x*(y -1):=Int.mul_le_mul_of_nonneg_left Z1 Z1
 have h7:x*(y -1)=x*y -x:=by grind
 exact Int.emod_eq_of_lt Z1 Z1
theorem low_succ(b:Int)(k:Nat):b%18446744073709551616^(k+1)=b%18446744073709551616^k+18446744073709551616^k*dgt b k:=by
 rw[Int.pow_succ,emod_mul' _ _ _ (Int.pow_pos Z2) Z2];rfl
def mK(S a β cl:Int):Int:=D0 ((S+a*β)%0x100000000000000000000000000000000000000000000000000000000000000000000000000000000)*cl%18446744073709551616
def mS(S a β m cl:Int):Int:=(S+a*β+m*mK S a β cl)/18446744073709551616
theorem mK_W(S a β cl:Int):W64 (mK S a β cl):=by unfold mK W64;omega
theorem mul_bd{x y X Y:Int}(hx:0<=x)(hX:x<=X)(hy:0<=y)(hY:y<=Y):0<=x*y/\x*y<=X*Y:=
 ⟨Int.mul_nonneg hx hy,Int.mul_le_mul hX hY hy Z1⟩
theorem mS_spec(S a β m cl:Int)(hS0:0<=S)(hS:S<2*m)(ha0:0<=a)(ha:a<m)(hβ:W64 β)(hm:m<0x10000000000000000000000000000000000000000000000000000000000000000)(hc:18446744073709551616∣cl*D0 m+1):
 18446744073709551616*mS S a β m cl=S+a*β+m*mK S a β cl/\0<=mS S a β m cl/\mS S a β m cl<2*m/\
 [Value.int .u64 (D1 (((S+a*β)%0x100000000000000000000000000000000000000000000000000000000000000000000000000000000+m*mK S a β cl)%0x100000000000000000000000000000000000000000000000000000000000000000000000000000000)),iU (D2 (((S+a*β)%0x100000000000000000000000000000000000000000000000000000000000000000000000000000000+m*mK S a β cl)%0x100000000000000000000000000000000000000000000000000000000000000000000000000000000)),iU (D3 (((S+a*β)%0x100000000000000000000000000000000000000000000000000000000000000000000000000000000+m*mK S a β cl)%0x100000000000000000000000000000000000000000000000000000000000000000000000000000000)),iU (D4 (((S+a*β)%0x100000000000000000000000000000000000000000000000000000000000000000000000000000000+m*mK S a β cl)%0x100000000000000000000000000000000000000000000000000000000000000000000000000000000)),iU (((S+a*β)/0x100000000000000000000000000000000000000000000000000000000000000000000000000000000+((S+a*β)%0x100000000000000000000000000000000000000000000000000000000000000000000000000000000+m*mK S a β cl)/0x100000000000000000000000000000000000000000000000000000000000000000000000000000000)%18446744073709551616)]=
  [Value.int .u64 (D0 (mS S a β m cl)),iU (D1 (mS S a β m cl)),iU (D2 (mS S a β m cl)),iU (D3 (mS S a β m cl)),iU (D4 (mS S a β m cl))]:=by
 have kW:=mK_W S a β cl
 have b1:=mul_bd (x:=a) (y:=β) (X:=m -1) (Y:=18446744073709551615) ha0 Z1 hβ.1 (by have:=hβ.2;omega)
 have b2:=mul_bd (x:=m) (y:=mK S a β cl) (X:=m) (Y:=18446744073709551615) Z1 (Int.le_refl _) kW.1 (by have:=kW.2;omega)
 have hdv:18446744073709551616∣S+a*β+m*mK S a β cl:=by
  obtain⟨p,hp⟩:=hc
  have e1:D0 ((S+a*β)%0x100000000000000000000000000000000000000000000000000000000000000000000000000000000)=(S+a*β)%18446744073709551616:=by unfold D0;omega
  have e2:=Int.mul_ediv_add_emod (S+a*β) 18446744073709551616
  have e3:=Int.mul_ediv_add_emod (D0 ((S+a*β)%0x100000000000000000000000000000000000000000000000000000000000000000000000000000000)*cl) 18446744073709551616
  have e4:m=18446744073709551616*(m/18446744073709551616)+D0 m:=by unfold D0;omega
  have e5:mK S a β cl=D0 ((S+a*β)%0x100000000000000000000000000000000000000000000000000000000000000000000000000000000)*cl%18446744073709551616:=rfl
  rw[<-e5] at e3
  rw[e1] at e3
  generalize mK S a β cl=κ at *
  generalize (S+a*β)%18446744073709551616=t at *
  generalize (S+a*β)/18446744073709551616=q at *
  generalize t*cl/18446744073709551616=r at *
  generalize m/18446744073709551616=m1 at *
  generalize D0 m=m0 at *
  refine⟨q+p*t -r*m0+m1*κ,?_⟩
  have h1:κ=t*cl -18446744073709551616*r:=Z1
  rw[<-e2,e4,h1]
  grind
 have hdv':18446744073709551616*mS S a β m cl=S+a*β+m*mK S a β cl:=by
  unfold mS;exact Int.mul_ediv_cancel' hdv
 refine⟨hdv',?_⟩
 have hb1:(m -1)*18446744073709551615=m*18446744073709551615 -18446744073709551615:=Z1
 generalize mS S a β m cl=S' at *
 generalize mK S a β cl=κ at *
 generalize a*β=p at *
 generalize m*κ=q at *
 clear hdv
 refine⟨Z1,Z1,?_⟩
 have hE:((S+p)%0x100000000000000000000000000000000000000000000000000000000000000000000000000000000+q)%0x100000000000000000000000000000000000000000000000000000000000000000000000000000000=(S+p+q)%0x100000000000000000000000000000000000000000000000000000000000000000000000000000000:=Z1
 have hF:((S+p)/0x100000000000000000000000000000000000000000000000000000000000000000000000000000000+((S+p)%0x100000000000000000000000000000000000000000000000000000000000000000000000000000000+q)/0x100000000000000000000000000000000000000000000000000000000000000000000000000000000)%18446744073709551616=(S+p+q)/0x100000000000000000000000000000000000000000000000000000000000000000000000000000000:=Z1
 rw[hE,hF,<-hdv']
 have d1:D1 (18446744073709551616*S'%0x100000000000000000000000000000000000000000000000000000000000000000000000000000000)=D0 S':=by unfold D0 D1;omega
 have d2:D2 (18446744073709551616*S'%0x100000000000000000000000000000000000000000000000000000000000000000000000000000000)=D1 S':=by unfold D1 D2;omega
 have d3:D3 (18446744073709551616*S'%0x100000000000000000000000000000000000000000000000000000000000000000000000000000000)=D2 S':=by unfold D2 D3;omega
 have d4:D4 (18446744073709551616*S'%0x100000000000000000000000000000000000000000000000000000000000000000000000000000000)=D3 S':=by unfold D3 D4;omega
 have d5:18446744073709551616*S'/0x100000000000000000000000000000000000000000000000000000000000000000000000000000000=D4 S':=by unfold D4;omega
 rw[d1,d2,d3,d4,d5]
theorem mS_next(S a b m cl:Int)(k:Nat)(hr:18446744073709551616*mS S a (dgt b k) m cl=S+a*dgt b k+m*mK S a (dgt b k) cl)(hd:m∣18446744073709551616^k*S -a*(b%18446744073709551616^k)):
 m∣18446744073709551616^(k+1)*mS S a (dgt b k) m cl -a*(b%18446744073709551616^(k+1)):=by
 rw[low_succ,Int.pow_succ,Int.mul_assoc,hr]
 obtain⟨p,hp⟩:=hd
 refine⟨p+18446744073709551616^k*mK S a (dgt b k) cl,?_⟩
 generalize (18446744073709551616:Int)^k=r at *
 generalize dgt b k=d at *
 generalize mK S a d cl=κ at *
 generalize b%r=l at *
 grind
def IsMg(a b m x:Int):Prop:=0<=x/\x<m/\m∣0x10000000000000000000000000000000000000000000000000000000000000000*x -a*b
theorem odd_coprime(m y:Int)(h:m%2=1)(k:Nat)(hd:m∣2^k*y):m∣y:=by
 induction k with
 | zero=>simpa using hd
 | succ k ih=>
  apply ih
  obtain⟨q,hq⟩:=hd
  have hq2:q%2=0:=by
   have:(2:Int)∣m*q:=⟨2^k*y,by rw[<-hq,Int.pow_succ];grind⟩
   have h2:=Int.emod_eq_zero_of_dvd this
   rw[Int.mul_emod,h] at h2
   omega
  obtain⟨r,hr⟩: ∃r,q=2*r:=⟨q/2,Z1⟩
  refine⟨r,?_⟩
  rw[hr,Int.pow_succ] at hq
  have:2*(2^k*y)=2*(m*r):=by grind
  omega
theorem IsMg.uniq{a b m x y:Int}(ho:m%2=1)(hx:IsMg a b m x)(hy:IsMg a b m y):x=y:=by
 obtain⟨p,hp⟩:=hx.2.2
 obtain⟨q,hq⟩:=hy.2.2
 have e:(2:Int)^256=0x10000000000000000000000000000000000000000000000000000000000000000:=Z2
 have h1:m∣2^256*(x -y):=⟨p -q,by rw[e];grind⟩
 have h2:=odd_coprime m (x -y) ho 256 h1
 obtain⟨k,hk⟩:=h2
 have a1:=hx.1;have a2:=hx.2.1;have a3:=hy.1;have a4:=hy.2.1
 have:k=0:=by
  by_cases hk0:k=0
  ·exact hk0
  ·exfalso
   rcases Int.lt_or_gt_of_ne hk0 with h | h
   ·have:=Int.mul_le_mul_of_nonneg_left (show k<= -1 by omega) (show 0<=m by omega);omega
   ·have:=Int.mul_le_mul_of_nonneg_left (show 1<=k by omega) (show 0<=m by omega);omega
 subst this;omega
theorem mg_lt{a b m S:Int}(h0:0<=S)(h1:S<m)(hd:m∣18446744073709551616^4*S -a*(b%18446744073709551616^4))(hb:0<=b/\b<0x10000000000000000000000000000000000000000000000000000000000000000):IsMg a b m S:=by
 have e:(18446744073709551616:Int)^4=0x10000000000000000000000000000000000000000000000000000000000000000:=Z2
 rw[e,Int.emod_eq_of_lt hb.1 hb.2] at hd
 exact⟨h0,h1,hd⟩
theorem mg_ge{a b m S:Int}(h0:m<=S)(h1:S<2*m)(hd:m∣18446744073709551616^4*S -a*(b%18446744073709551616^4))(hb:0<=b/\b<0x10000000000000000000000000000000000000000000000000000000000000000):IsMg a b m (S -m):=by
 have e:(18446744073709551616:Int)^4=0x10000000000000000000000000000000000000000000000000000000000000000:=Z2
 rw[e,Int.emod_eq_of_lt hb.1 hb.2] at hd
 obtain⟨p,hp⟩:=hd
 exact⟨Z1,Z1,⟨p -0x10000000000000000000000000000000000000000000000000000000000000000,by grind⟩⟩
end
section
open Go.RowKit
abbrev L5(n:Int):List Value:=[iU (D0 n),iU (D1 n),iU (D2 n),iU (D3 n),iU (D4 n)]
theorem add64_to(x y s c:Int)(hx:0<=x)(hy:0<=y)(w:World)(hs:(x+y)%18446744073709551616=s)(hc:(x+y)/18446744073709551616=c):(callFunc 147 #[iU x,iU y,iU 0]).run Tryz.prog w= .ok (.value (.tuple #[iU s,iU c])) w:=by
 subst hs hc;exact add64_0 x y hx hy w
theorem mul64_B(x y p:Int)(hx:W64 x)(hy:W64 y)(hp:x*y=p)(w:World):CC 161 #[iU x,iU y] w (.tuple #[iU (p/18446744073709551616),iU (p%18446744073709551616)]):=by
 subst hp
 refine(V7 x y hx hy w).mono ?_
 rintro e w' ⟨rfl,rfl⟩
 exact⟨rfl,Below.refl _ _⟩
theorem U3:EnT 161:=fun _ _=>by kernel_rfl
theorem pr_bd(x p:Int)(hx:W64 x)(hp:W64 p):0<=x*p/\x*p<=0xfffffffffffffffe0000000000000001:=by
 obtain⟨x1,x2⟩:=hx;obtain⟨p1,p2⟩:=hp
 refine⟨Int.mul_nonneg x1 p1,?_⟩
 have h1:x*p<=18446744073709551615*18446744073709551615:=Int.mul_le_mul Z1 Z1 p1 Z1
 omega
theorem amul_core(bs ba:Nat)(a n c:Int)(xs ps o es ad:Nat->Int)(L:Nat->List Value)(w:World)(hn:W64 n)(hab:ba<bs)(lbs:bs<w.heap.size)(Ks:Hid (CV w bs (L 0)))(Ka:Hid (CV w ba (LN a)))(ha:Hid (∀i,i<4->(LN a)[i]?=some (iU (ad i))/\W64 (ad i)/\ad i*n=ps i/\0<=ps i/\ps i<=0xfffffffffffffffe0000000000000001))(hL:Hid (∀i,i<5->(L i)[i]?=some (iU (xs i))/\L (i+1)=(L i).set i (iU (es i))/\0<=xs i/\xs i<18446744073709551616))(ho0:o 0=0)(ho:Hid (∀i,i<4->0<=o i/\o i<18446744073709551616/\o (i+1)=(xs i+ps i+o i)/18446744073709551616/\es i=(xs i+ps i+o i)%18446744073709551616))(h4:Hid (0<=o 4/\o 4<18446744073709551616/\es 4=(xs 4+o 4)%18446744073709551616/\c=(xs 4+o 4)/18446744073709551616)):
 Calls Tryz.prog 163 #[.pointer (some ⟨bs,0,none⟩),.pointer (some ⟨ba,0,none⟩),iU n] w fun e' w'=>e'= .returned (iU c)/\Below bs w w'/\CV w' bs (L 5):=by
 go_enter Tryz.func163,Tryz.ntmps163
 go_wp2_with fail
 go_loopw [7,8,12] (fun s7 s8 s12 wr=> ∃(i:Nat) (cc:Int),i<=4/\s12=iI (i:Int)/\s7=iU (o i)/\s8=iU cc/\Below bs w wr/\Hid (CV wr bs (L i))/\bs<wr.heap.size) (fun _ _ s12 _=>4 -(intOf s12).toNat)
 case atStart=>exact⟨0,0,Z1,rfl,by rw[ho0],rfl,Below.refl _ _,Ks,lbs⟩
 case round=>
  obtain⟨i,cc,hi,rfl,rfl,rfl,HBr,Cs,ls⟩:=hrel
  have Ca:=Ka.out.below HBr hab
  have la:=Nat.lt_trans hab ls
  have Cs:=Cs.out
  by_cases hj:i<4
  ·have hl:decide ((i:Int)<4)=true:=by simp;omega
   obtain⟨hga,wA,hpa,p0,p1⟩:=ha.out i hj
   obtain⟨hgs,hLs,x0,x1⟩:=hL.out i Z1
   obtain⟨o0,o1,hos,hes⟩:=ho.out i hj
   generalize L i=lv at *
   generalize xs i=x at *
   generalize ps i=pp at *
   generalize o i=oi at *
   generalize hoo:o (i+1)=oo at *
   generalize es i=ee at *
   generalize ad i=av at *
   have hpa:Hid _:=hpa
   have hLs:Hid _:=hLs
   have K0_1:Bk bs wr [(true,bs,lv),(false,ba,LN a)]:=⟨.o ls Z1 Cs<| .c la Ca<|trivial,by simp<;>omega⟩
   go_upto_region 3 with fail
   apply rgP K0_1 HBr Z1 [] [] [(0,13,_)] [] [] []
   ·exact Oc1 (g_bn (fun uZ=>Za _ _ (i:Int) 4 _ uZ hl))
   intro u1 HB1 sz1 K1
   simp only[sQ] at K1⊢
   go_upto_region 4 with fail
   apply rgP K1 HB1 Z1 [] [] [(0,14,_),(1,9,_)] [] [] []
   ·exact Oc2 g_mv g_as
   intro u2 HB2 sz2 K2
   simp only[sQ] at K2⊢
   go_upto_region 5 with fail
   apply rgP K2 HB2 Z1 [] [] [(0,16,_),(1,17,_),(2,18,_),(3,19,_),(4,20,_),(5,21,_),(6,22,_),(7,15,_),(8,23,_),(9,24,_),(10,10,_),(11,11,_)] [] [] []
   ·exact Od8 g_mv g_mv g_nl (g_ix (fun uZ=>xbN ba i uZ hj)) (g_lv 1 i lU hga) g_mv (g_cl U3 (mul64_B av n pp wA hn hpa.out)) g_mv<|Oc4 g_ex g_ex g_as g_as
   intro u3 HB3 sz3 K3
   simp only[sQ] at K3⊢
   go_upto_region 6 with fail
   apply rgP K3 HB3 Z1 [] [] [(0,26,_),(1,27,_),(2,28,_),(3,25,_),(4,29,_),(5,30,_),(6,11,_),(7,8,_)] [(6,0)] [(6,11)] []
   ·exact Oc8 g_mv g_mv (g_ce (fun uZ=>add64_to (pp%18446744073709551616) oi ((pp+oi)%18446744073709551616) ((pp%18446744073709551616+oi)/18446744073709551616) Z1 Z1 uZ Z1 rfl)) g_mv g_ex g_ex g_as g_as
   intro u4 HB4 _ K4
   simp only[sQ] at K4⊢
   go_upto_region 7 with fail
   apply rgP K4 HB4 Z1 [] [] [(0,31,_),(1,32,_),(2,33,_),(3,10,_)] [(3,0)] [(3,10)] []
   ·exact Oc4 g_mv g_mv (g_bn (fun uZ=>add_u _ _ (pp/18446744073709551616) ((pp%18446744073709551616+oi)/18446744073709551616) ((pp+oi)/18446744073709551616) uZ Z1)) g_as
   intro u5 HB5 _ K5
   simp only[sQ] at K5⊢
   go_upto_region 8 with fail
   apply rgD K5 HB5 Z1 [.all 14 (lv.set i (iU ee))] [] [(0,35,_),(1,36,_),(2,37,_),(3,38,_),(4,39,_),(5,40,_),(6,41,_),(7,42,_),(8,43,_),(9,34,_),(10,44,_),(11,45,_),(12,46,_),(13,47,_),(15,8,_)] [(14,6)] [] []
   ·exact Od8 g_mv g_mv g_mv g_mv g_nl (g_ix (fun uZ=>Yw uZ bs i Z1)) (g_lw 0 i lU hgs) g_mv<|Oc8 (g_ce (fun uZ=>add64_to x ((pp+oi)%18446744073709551616) ee ((x+(pp+oi)%18446744073709551616)/18446744073709551616) Z1 Z1 uZ Z1 rfl)) g_mv g_ex g_ex g_nl (g_ix (fun uZ=>Yw uZ bs i Z1)) (g_sw 0 i s64 hgs rfl) g_as
   intro u6 HB6 _ K6
   simp only[sQ] at K6⊢
   go_upto_region 9 with fail
   apply rgP K6 HB6 Z1 [] [] [(0,48,_),(1,49,_),(2,50,_),(3,7,_)] [] [] []
   ·exact Oc4 g_mv g_mv (g_bn (fun uZ=>add_u _ _ ((pp+oi)/18446744073709551616) ((x+(pp+oi)%18446744073709551616)/18446744073709551616) oo uZ Z1)) g_as
   intro u7 HB7 _ K7
   simp only[sQ] at K7⊢
   go_upto_region 10 with fail
   apply rgP K7 HB7 Z1 [] [] [(0,51,_),(1,12,_)] [(1,0)] [(1,12)] []
   ·exact Oc2 (g_bn (fun uZ=>Zu _ _ (i:Int) 1 ((i+1:Nat):Int) uZ Z1 Z1 Z1)) g_mv
   intro u8 HB8 _ K8
   simp only[sQ] at K8⊢
   go_wp2
   refine⟨⟨i+1,_,Z1,rfl,by rw[hoo],rfl,HB8,by rw[hLs.out];exact(K8.cv 0),(K8.lt 0)⟩,?_⟩
   simp[intOf]<;>omega
  ·have hl:decide ((i:Int)<4)=false:=by simp;omega
   obtain rfl:i=4:=Z1
   obtain⟨hgs,hLs,x0,x1⟩:=hL.out 4 Z1
   have hLs:L 5=_:=hLs
   obtain⟨o0,o1,hes,hcc⟩:=h4.out
   generalize L 4=lv at *
   generalize xs 4=x at *
   generalize o 4=oi at *
   generalize es 4=ee at *
   have hLs:Hid _:=hLs
   have K0_1:Bk bs wr [(true,bs,lv),(false,ba,LN a)]:=⟨.o ls Z1 Cs<| .c la Ca<|trivial,by simp<;>omega⟩
   go_upto_region 3 with fail
   apply rgP K0_1 HBr Z1 [] [] [(0,13,_)] [] [] []
   ·exact Oc1 (g_bn (fun uZ=>Za _ _ ((4:Nat):Int) 4 _ uZ hl))
   intro u1 HB1 sz1 K1
   simp only[sQ] at K1⊢
   go_upto_region 11 with fail
   apply rgD K1 HB1 Z1 [.all 12 (lv.set 4 (iU ee))] [] [(0,53,_),(1,54,_),(2,55,_),(3,56,_),(4,57,_),(5,58,_),(6,59,_),(7,52,_),(8,60,_),(9,61,_),(10,62,_),(11,63,_),(13,8,_)] [(12,4)] [] []
   ·exact Od8 g_mv g_mv g_nl (g_ix (fun uZ=>Yw uZ bs 4 Z1)) (g_lw 0 4 lU hgs) g_mv (g_ce (fun uZ=>add64_to x oi ee c Z1 Z1 uZ Z1 Z1)) g_mv<|Oc6 g_ex g_ex g_nl (g_ix (fun uZ=>Yw uZ bs 4 Z1)) (g_sw 0 (4) s64 hgs rfl) g_as
   intro u2 HB2 sz2 K2
   simp only[sQ] at K2⊢
   go_upto_region 12 with fail
   apply rgP K2 HB2 Z1 [] [] [(0,64,_),(1,6,_)] [] [] []
   ·exact Oc2 g_mv g_as
   intro u3 HB3 sz3 K3
   simp only[sQ] at K3⊢
   go_wp2
   exact bodyPost_ret (v:=iU c) (by simp[results,Tryz.results163,go_sem]) rfl ⟨rfl,HB3,by rw[hLs.out];exact(K3.cv 0)⟩
theorem dg_row(S a n M:Int)(hM:0<M):(S%(M*18446744073709551616)+a%(M*18446744073709551616)*n)/(M*18446744073709551616)=(S/M%18446744073709551616+a/M%18446744073709551616*n+(S%M+a%M*n)/M)/18446744073709551616/\(S+a*n)/M%18446744073709551616=(S/M%18446744073709551616+a/M%18446744073709551616*n+(S%M+a%M*n)/M)%18446744073709551616:=by
 rw[emod_mul' S M _ hM Z2,emod_mul' a M _ hM Z2]
 have e1:=Int.emod_add_mul_ediv S M
 have e2:=Int.emod_add_mul_ediv a M
 have e3:=Int.emod_add_mul_ediv (S%M+a%M*n) M
 have r0:=Int.emod_nonneg (S%M+a%M*n) (by omega:M≠0)
 have r1:=Int.emod_lt_of_pos (S%M+a%M*n) hM
 have key: ∀q r:Int,0<=r->r<M->(M*q+r)/M=q:=fun q r h0 h1=>by
  rw[Int.add_comm,Int.add_mul_ediv_left _ _ Z1,Int.ediv_eq_zero_of_lt h0 h1,Int.zero_add]
 generalize (S%M+a%M*n)/M=o at *
 generalize (S%M+a%M*n)%M=r at *
 generalize hs:S/M=s at *
 generalize ha:a/M=b at *
 generalize S%M=s0 at *
 generalize a%M=a0 at *
 constructor
 ·rw[<-Int.ediv_ediv_of_nonneg Z1]
  have e:s0+M*(s%18446744073709551616)+(a0+M*(b%18446744073709551616))*n=M*(s%18446744073709551616+b%18446744073709551616*n+o)+r:=by grind
  rw[e,key _ _ r0 r1]
 ·have e:S+a*n=M*(s+b*n+o)+r:=by grind
  rw[e,key _ _ r0 r1]
  have h1:=Int.emod_add_mul_ediv s 18446744073709551616
  have h2:=Int.emod_add_mul_ediv b 18446744073709551616
  generalize s%18446744073709551616=s' at *
  generalize b%18446744073709551616=b' at *
  generalize s/18446744073709551616=s2 at *
  generalize b/18446744073709551616=b2 at *
  have e3:s+b*n+o=(s'+b'*n+o)+18446744073709551616*(s2+b2*n):=by grind
  rw[e3,Int.add_mul_emod_self_left]
def mRow(S T:Int):Nat->List Value
 | 0=>[iU (dgt S 0),iU (dgt S 1),iU (dgt S 2),iU (dgt S 3),iU (dgt S 4)]
 | i+1=>(mRow S T i).set i (iU (dgt T i))
theorem dg5(S:Int)(h0:0<=S)(h:S<0x100000000000000000000000000000000000000000000000000000000000000000000000000000000):L5 S=[iU (dgt S 0),iU (dgt S 1),iU (dgt S 2),iU (dgt S 3),iU (dgt S 4)]:=by
 have e:D0 S=dgt S 0/\D1 S=dgt S 1/\D2 S=dgt S 2/\D3 S=dgt S 3/\D4 S=dgt S 4:=by
  unfold D0 D1 D2 D3 D4 dgt;refine⟨?_,?_,?_,?_,?_⟩<;>omega
 rw[L5,e.1,e.2.1,e.2.2.1,e.2.2.2.1,e.2.2.2.2]
theorem amul(bs ba:Nat)(S a n:Int)(w:World)(hS0:0<=S)(hS:S<0x100000000000000000000000000000000000000000000000000000000000000000000000000000000)(ha:In a)(hn:W64 n)(hab:ba<bs)(lbs:bs<w.heap.size)(Ks0:CV w bs (L5 S))(Ka:CV w ba (LN a)):
 Calls Tryz.prog 163 #[.pointer (some ⟨bs,0,none⟩),.pointer (some ⟨ba,0,none⟩),iU n] w fun e w'=>e= .returned (iU ((S+a*n)/0x100000000000000000000000000000000000000000000000000000000000000000000000000000000))/\Below bs w w'/\CV w' bs (L5 ((S+a*n)%0x100000000000000000000000000000000000000000000000000000000000000000000000000000000)):=by
 have hM: ∀i:Nat,(0:Int)<18446744073709551616^i:=fun i=>Int.pow_pos Z2
 have row:=fun i:Nat=>dg_row S a n (18446744073709551616^i) (hM i)
 have hb: ∀i:Nat,0<=(S%18446744073709551616^i+a%18446744073709551616^i*n)/18446744073709551616^i/\(S%18446744073709551616^i+a%18446744073709551616^i*n)/18446744073709551616^i<18446744073709551616:=fun i=>by
  have h:=hM i
  generalize (18446744073709551616:Int)^i=M at *
  have a0:=Int.emod_nonneg a (by omega:M≠0)
  have a1:=Int.emod_lt_of_pos a h
  have s0:=Int.emod_nonneg S (by omega:M≠0)
  have s1:=Int.emod_lt_of_pos S h
  obtain⟨n0,n1⟩:=hn
  have p0:=Int.mul_nonneg a0 n0
  have p1:a%M*n<=(M -1)*18446744073709551615:=Int.mul_le_mul Z1 Z1 n0 Z1
  exact⟨Int.ediv_nonneg Z1 Z1,Int.ediv_lt_of_lt_mul h Z1⟩
 have hd:dgt a 4=0:=by unfold dgt;have:=ha.1;have:=ha.2;omega
 rw[dg5 S hS0 hS] at Ks0
 have r4:=row 4
 have e4:=hb 4
 refine(amul_core bs ba a n ((dgt S 4+(S%18446744073709551616^4+a%18446744073709551616^4*n)/18446744073709551616^4)/18446744073709551616) (dgt S) (fun i=>dgt a i*n) (fun i=>(S%18446744073709551616^i+a%18446744073709551616^i*n)/18446744073709551616^i) (dgt (S+a*n)) (dgt a) (mRow S (S+a*n)) w hn hab lbs Ks0 Ka (fun i hi=>?_) (fun i hi=>?_) ?_ (fun i hi=>?_) ?_).mono ?_
 ·have h:=pr_bd (dgt a i) n (W_dgt a i) hn
  exact⟨LN_at a i hi,W_dgt a i,rfl,h.1,h.2⟩
 ·refine⟨?_,rfl,(W_dgt S i).1,(W_dgt S i).2⟩
  match i,hi with
  | 0,_=>rfl
  | 1,_=>rfl
  | 2,_=>rfl
  | 3,_=>rfl
  | 4,_=>rfl
 ·simp[Int.emod_one]
 ·refine⟨(hb i).1,(hb i).2,?_,(row i).2⟩
  rw[Int.pow_succ];exact(row i).1
 ·refine⟨e4.1,e4.2,?_,rfl⟩
  have:=r4.2
  unfold dgt at hd⊢
  rw[hd,Int.zero_mul,Int.add_zero] at this
  exact this
 ·rintro e u ⟨rfl,hB,hC⟩
  refine⟨?_,hB,?_⟩
  ·have h:=r4.1
   unfold dgt at hd⊢
   rw[hd,Int.zero_mul,Int.add_zero,<-Int.pow_succ,Int.emod_eq_of_lt hS0 Z1,Int.emod_eq_of_lt ha.1 (by have:=ha.2;omega)] at h
   rw[ret_u]
   exact h.symm
  ·rw[dg5 _ (Int.emod_nonneg _ Z2) (Int.emod_lt_of_pos _ Z2)]
   have e: ∀i,i<5->dgt ((S+a*n)%0x100000000000000000000000000000000000000000000000000000000000000000000000000000000) i=dgt (S+a*n) i:=fun i hi=>by
    generalize S+a*n=T
    unfold dgt
    match i,hi with
    | 0,_=>omega
    | 1,_=>omega
    | 2,_=>omega
    | 3,_=>omega
    | 4,_=>omega
   rw[e 0 Z2,e 1 Z2,e 2 Z2,e 3 Z2,e 4 Z2]
   exact hC
abbrev LM(m c:Int):List Value:=[iU (D0 m),iU (D1 m),iU (D2 m),iU (D3 m),iU c]
theorem L5_0:L05=L5 0:=by simp[L5,D0,D1,D2,D3,D4]
theorem sub_a(S m:Int)(w:World)(h0:0<=S)(hm:In m)(h:S<m):CC 152 #[NV S,NV m] w (.tuple #[NV (S -m+0x10000000000000000000000000000000000000000000000000000000000000000),.bool true]):=
 nSub_lt S m w ⟨h0,by have:=hm.2;omega⟩ hm h
theorem sub_b(S m:Int)(w:World)(hm:In m)(h:m<=S)(h1:S<0x10000000000000000000000000000000000000000000000000000000000000000):CC 152 #[NV S,NV m] w (.tuple #[NV (S -m),.bool false]):=
 nSub_ge S m w ⟨by have:=hm.1;omega,h1⟩ hm h
theorem sub_c(S m:Int)(w:World)(hm:In m)(h:S<2*m)(h1:0x10000000000000000000000000000000000000000000000000000000000000000<=S):CC 152 #[NV S,NV m] w (.tuple #[NV (S -m),.bool true]):=by
 have hm2:=hm.2
 have k:=nSub_lt (S -0x10000000000000000000000000000000000000000000000000000000000000000) m w ⟨Z1,Z1⟩ hm Z1
 rw[NV_less S,show S -0x10000000000000000000000000000000000000000000000000000000000000000 -m+0x10000000000000000000000000000000000000000000000000000000000000000=S -m by omega] at k
 exact k
set_option maxHeartbeats 8000000 in
theorem mprod(bo:Nat)(a b m cl x:Int)(w:World)(ha:In a)(hb:In b)(hm:In m)(ham:a<m)(ho:m%2=1)(hcw:W64 cl)(hcl:18446744073709551616∣cl*D0 m+1)(hx:IsMg a b m x)(Ko:CV w bo (LM m cl))(lo:bo<w.heap.size):
 CC 157 #[.pointer (some ⟨bo,0,none⟩),NV a,NV b] w (NV x):=by
 have hm0:0<=m:=hm.1
 go_enter Tryz.func157,Tryz.ntmps157
 go_upto_region 1 with fail
 obtain⟨v0,hC,HB0,K0⟩:=bx3 w (LN a) 24 (LN b) 24 L0s 24
 rw[hC]
 clear hC
 have Ko0:CV v0 bo (LM m cl):=Ko.below HB0 lo
 have lo0:bo<v0.heap.size:=Nat.lt_of_lt_of_le lo HB0.size
 clear Ko
 have K0_1:Bk w.heap.size v0 [(false,w.heap.size,LN a),(false,w.heap.size+1,LN b),(true,w.heap.size+1+1,L0s),(false,bo,LM m cl)]:=⟨.c (K0.lt 0) (K0.cv 0)<| .c (K0.lt 1) (K0.cv 1)<| .o (K0.lt 2) Z1 (K0.cv 2)<| .c lo0 Ko0<|trivial,by simp;omega⟩
 refine Rp K0_1 HB0 [] [(0,7,L05,none)] [] [] [] [] (Oc1 (g_al 0 al__5_uint64)) fun u1 b1_0 HB1 _ K1=>?_
 simp only[sQ] at K1⊢
 go_wp2_with fail
 go_loopw [13] (fun s13 wr=> ∃(k:Nat) (S:Int),k<=4/\s13=iI k/\0<=S/\S<2*m/\Hid (m∣18446744073709551616^k*S -a*(b%18446744073709551616^k))/\Bw w wr/\CV wr (w.heap.size) (LN a)/\CV wr (w.heap.size+1) (LN b)/\CV wr (w.heap.size+1+1) L0s/\CV wr bo (LM m cl)/\CV wr b1_0 (L5 S)/\b1_0<wr.heap.size) (fun s13 _=>4 -(intOf s13).toNat)
 case atStart=>exact⟨0,0,Z1,rfl,Z1,Z1,⟨0,by simp⟩,HB1,(K1.cv 0),(K1.cv 1),(K1.cv 2),(K1.cv 3),by rw[<-L5_0];exact(K1.cv 4),(K1.lt 4)⟩
 case round=>
  obtain⟨k,S,hk,rfl,hS0,hSl,hI,HBr,Ka,Kb,Kr,Ko,Ks,ls⟩:=hrel
  have hn:=K1.n
  simp at hn
  have ho4:=K1.lo 4
  by_cases hk4:k<4
  ·have hk4':(k:Int)<4:=Z1
   have hdg:=W_dgt b k
   have hsp:=mS_spec S a (dgt b k) m cl hS0 hSl ha.1 ham hdg hm.2 hcl
   have hnx:Hid (m∣18446744073709551616^(k+1)*mS S a (dgt b k) m cl -a*(b%18446744073709551616^(k+1))):=mS_next S a b m cl k hsp.1 hI
   obtain⟨_,hn0,hn1,hl5⟩:=hsp
   have kW:=mK_W S a (dgt b k) cl
   have bb1:=mul_bd (x:=a) (y:=dgt b k) (X:=m -1) (Y:=18446744073709551615) ha.1 Z1 hdg.1 (by have:=hdg.2;omega)
   have bb2:=mul_bd (x:=m) (y:=mK S a (dgt b k) cl) (X:=m) (Y:=18446744073709551615) hm.1 (Int.le_refl _) kW.1 (by have:=kW.2;omega)
   have hm2:=hm.2
   have hS5:S<0x100000000000000000000000000000000000000000000000000000000000000000000000000000000:=Z1
   have hT0:0<=(S+a*dgt b k)%0x100000000000000000000000000000000000000000000000000000000000000000000000000000000:=Int.emod_nonneg _ Z2
   have hT1:(S+a*dgt b k)%0x100000000000000000000000000000000000000000000000000000000000000000000000000000000<0x100000000000000000000000000000000000000000000000000000000000000000000000000000000:=Int.emod_lt_of_pos _ Z2
   have Hl5:Hid _:=hl5
   clear hl5 bb1 bb2
   obtain⟨t1,ht1⟩:=Z3 ((S+a*dgt b k)%0x100000000000000000000000000000000000000000000000000000000000000000000000000000000)
   obtain⟨c1,hc1⟩:=Z3 ((S+a*dgt b k)/0x100000000000000000000000000000000000000000000000000000000000000000000000000000000)
   obtain⟨κ,hκ⟩:=Z3 (mK S a (dgt b k) cl)
   obtain⟨E1,hE1⟩:=Z3 ((t1+m*κ)%0x100000000000000000000000000000000000000000000000000000000000000000000000000000000)
   obtain⟨c2,hc2⟩:=Z3 ((t1+m*κ)/0x100000000000000000000000000000000000000000000000000000000000000000000000000000000)
   have A1:Hid (∀u,b1_0<u.heap.size->CV u b1_0 (L5 S)->CV u (w.heap.size) (LN a)->Calls Tryz.prog 163 #[.pointer (some ⟨b1_0,0,none⟩),.pointer (some ⟨w.heap.size,0,none⟩),iU (dgt b k)] u fun e u'=>e= .returned (iU c1)/\Below b1_0 u u'/\CV u' b1_0 (L5 t1)):=fun u h1 h2 h3=>by
    rw[<-ht1,<-hc1];exact amul b1_0 (w.heap.size) S a (dgt b k) u hS0 hS5 ha hdg Z1 h1 h2 h3
   have A2:Hid (∀u,b1_0<u.heap.size->CV u b1_0 (L5 t1)->CV u bo (LN m)->Calls Tryz.prog 163 #[.pointer (some ⟨b1_0,0,none⟩),.pointer (some ⟨bo,0,none⟩),iU κ] u fun e u'=>e= .returned (iU c2)/\Below b1_0 u u'/\CV u' b1_0 (L5 E1)):=fun u h1 h2 h3=>by
    rw[<-hE1,<-hc2];exact amul b1_0 bo t1 m κ u (by rw[<-ht1];exact hT0) (by rw[<-ht1];exact hT1) hm (by rw[<-hκ];exact kW) Z1 h1 h2 h3
   have hmk:Hid (D0 t1*cl%18446744073709551616=κ):=by rw[<-hκ,<-ht1];rfl
   rw[ht1,hc1,hκ,hE1,hc2] at Hl5
   clear ht1 hc1 hκ hE1 hc2 hT0 hT1 kW
   have K1_2:Bk w.heap.size wr [(false,w.heap.size,LN a),(false,w.heap.size+1,LN b),(false,w.heap.size+1+1,L0s),(false,bo,LM m cl),(true,b1_0,L5 S)]:=⟨.c Z1 Ka<| .c Z1 Kb<| .c Z1 Kr<| .c Z1 Ko<| .o ls (K1.lo 4) Ks<|trivial,by simp;omega⟩
   go_upto_region 4 with fail
   refine Rn K1_2 HBr [(0,15,_),(1,8,_)] (Oc2 g_mv g_as) fun u2 HB2 sz2 K2=>?_
   simp only[sQ] at K2⊢
   go_upto_region 5 with fail
   refine Rp K2 HB2 [.no,.no,.no,.no,.all 3 (L5 t1)] [] (cG 0 16 [_,_,_,_] [(4,9,_)]) [] [] [] (Oc5 g_mv (g_ix (fun uZ=>ix_nat uZ _ k Z1)) (g_lv 1 k lU (LN_at b k hk4)) (g_cx 4 Xp (fun fZ uZ kZ sZ kk=>A1.out uZ (kZ.lb sZ 4) kk (kZ.cv 0)) ⟨by simp<;>omega,by simp<;>omega,by simp<;>omega,by simp<;>omega,trivial⟩) g_as) fun u3 HB3 sz3 K3=>?_
   simp only[sQ] at K3⊢
   go_upto_region 6 with fail
   refine Rd K3 HB3 [.no,.no,.no,.no,.all 11 (L5 E1)] [] (cG 0 20 [_,_,_,_,_,_,_,_,_,_,_,_,_] [(13,9,_)]) [(11,5),(13,0),(10,5)] [(13,9)] [] (Od8 g_mv g_mv g_nl (g_fd (fd_m bo)) (g_ix (fun uZ=>Yw uZ _ 0 Z1)) (g_lc 4 0 lU) g_mv g_nl<|Oc6 (g_fd (fd_c bo)) (g_lc 3 4 lU) (g_bn (fun uZ=>mul_u _ _ (D0 t1) cl κ uZ hmk.out)) (g_cx 4 Xp (fun fZ uZ kZ sZ kk=>A2.out uZ (kZ.lb sZ 4) kk (CV.pre (r:=[iU cl]) (kZ.cv 3))) ⟨by simp<;>omega,by simp<;>omega,by simp<;>omega,by simp<;>omega,trivial⟩) (g_bn (fun uZ=>add_u _ _ c1 c2 ((c1+c2)%18446744073709551616) uZ rfl)) g_as) fun u4 HB4 sz4 K4=>?_
   simp only[sQ] at K4⊢
   go_upto_region 7 with fail
   refine Rp K4 HB4 [.no,.no,.no,.no,.cs [(0,10,iU (D1 E1)),(1,12,iU (D2 E1)),(2,14,iU (D3 E1)),(3,16,iU (D4 E1)),(4,18,iU ((c1+c2)%18446744073709551616))]] [] (cG 0 33 [_,_,_,_,_,_,_,_,_,_] [(11,43,_),(13,44,_),(15,45,_),(17,46,_)]) [(12,1),(14,3),(16,5),(18,7)] [] [] (Od8 (g_ix (fun uZ=>Yw uZ _ 1 Z1)) (g_lc 4 1 lU) (g_ix (fun uZ=>Yw uZ _ 2 Z1)) (g_lc 4 2 lU) (g_ix (fun uZ=>Yw uZ _ 3 Z1)) (g_lc 4 3 lU) (g_ix (fun uZ=>Yw uZ _ 4 Z1)) (g_lc 4 4 lU)<|Od8 g_mv (g_ix (fun uZ=>Yw uZ _ 0 Z1)) (g_sc 4 0 sU) (g_ix (fun uZ=>Yw uZ _ 1 Z1)) (g_sc 4 1 sU) (g_ix (fun uZ=>Yw uZ _ 2 Z1)) (g_sc 4 2 sU) (g_ix (fun uZ=>Yw uZ _ 3 Z1))<|Oc3 (g_sc 4 3 sU) (g_ix (fun uZ=>Yw uZ _ 4 Z1)) (g_sc 4 4 sU)) fun u5 HB5 _ K5=>?_
   simp only[fX,nK,nP,Wr.f,aK,pM,List.foldl,List.set_cons_zero,List.set_cons_succ] at K5
   simp only[sQ]
   go_upto_region 8 with fail
   refine Rp K5 HB5 [] [] [(0,47,_),(1,13,_)] [(1,0)] [(1,13)] [] (Oc2 (g_bn (fun uZ=>Zu _ _ (k:Int) 1 ((k+1:Nat):Int) uZ Z1 Z1 Z1)) g_mv) fun u6 HB6 _ K6=>?_
   simp only[sQ] at K6⊢
   go_wp2
   refine⟨⟨k+1,mS S a (dgt b k) m cl,Z1,rfl,hn0,hn1,hnx,HB6,(K6.cv 0),(K6.cv 1),(K6.cv 2),(K6.cv 3),by rw[L5,<-Hl5.out];exact(K6.cv 4),(K6.lt 4)⟩,?_⟩
   simp[intOf];omega
  ·have hk4': ¬(k:Int)<4:=Z1
   have h4:k=4:=Z1
   subst h4
   have hm2:=hm.2
   by_cases hc:S<m
   ·have hx':Hid (x=S):=hx.uniq ho (mg_lt hS0 hc hI.out hb)
    have d4:(D4 S==0)=true:=by unfold D4;simp;omega
    clear hI hx hcl
    have K1_2:Bk w.heap.size wr [(false,w.heap.size,LN a),(false,w.heap.size+1,LN b),(true,w.heap.size+1+1,L0s),(false,bo,LM m cl),(false,b1_0,L5 S)]:=⟨.c Z1 Ka<| .c Z1 Kb<| .o Z1 (K1.lo 2) Kr<| .c Z1 Ko<| .c ls Ks<|trivial,by simp;omega⟩
    go_upto_region 9 with fail
    refine Rp K1_2 HBr [] [(3,10,L0s,some (4,LN S))] (cG 0 48 [_,_,_] []) [(4,3)] [] [false,false] (Oc5 (g_sl (sl_five b1_0)) (g_sp (ap_five b1_0)) (g_ld 4 uN iN) (g_al 0 aN) (g_sn 0 iN)) fun u2 b2_3 HB2 sz2 K2=>?_
    simp only[sQ] at K2⊢
    go_upto_region 10 with fail
    refine Rd K2 HB2 [] [(9,11,L0s,some (10,LN (S -m+0x10000000000000000000000000000000000000000000000000000000000000000)))] (cG 0 52 [_,_,_,_,_,_] [(6,51,_),(7,58,_),(8,59,_),(11,12,_)]) [(10,9)] [] [true,false,true,true,false] (Od8 (g_ld 3 uN iN) g_mv g_nl (g_fd (fd_m bo)) (g_ld 1 uN iN) (g_cl Yt (fun uZ=>sub_a S m uZ hS0 hm hc)) g_mv g_ex<|Oc4 g_ex (g_al 0 aN) (g_sn 0 iN) g_as) fun u3 b3_9 HB3 sz3 K3=>?_
    simp only[sQ] at K3⊢
    have c4:=((K3.cv 1) 4 _ rfl).1
    go_upto_region 12 with fail
    refine Rp K3 HB3 [.all 1 (LN S)] [] [(0,66,_)] [] [] [true,false,false] (Oc2 (g_ld 2 uN iN) (g_st 0 iN)) fun u4 HB4 sz4 K4=>?_
    simp only[sQ] at K4⊢
    have c6:=(K4.cv 0).n4
    go_wp2
    refine bodyPost_ret (v:=NV S) (by simp[results,Tryz.results157,go_sem,c6]) rfl ⟨by rw[hx'.out],HB4⟩
   ·have hx':Hid (x=S -m):=hx.uniq ho (mg_ge Z1 hSl hI.out hb)
    clear hI hx hcl
    have hc:m<=S:=Z1
    by_cases h4:S<0x10000000000000000000000000000000000000000000000000000000000000000
    ·skip
     have K1_2:Bk w.heap.size wr [(false,w.heap.size,LN a),(false,w.heap.size+1,LN b),(true,w.heap.size+1+1,L0s),(false,bo,LM m cl),(false,b1_0,L5 S)]:=⟨.c Z1 Ka<| .c Z1 Kb<| .o Z1 (K1.lo 2) Kr<| .c Z1 Ko<| .c ls Ks<|trivial,by simp;omega⟩
     go_upto_region 9 with fail
     refine Rp K1_2 HBr [] [(3,10,L0s,some (4,LN S))] (cG 0 48 [_,_,_] []) [(4,3)] [] [false,false] (Oc5 (g_sl (sl_five b1_0)) (g_sp (ap_five b1_0)) (g_ld 4 uN iN) (g_al 0 aN) (g_sn 0 iN)) fun u2 b2_3 HB2 sz2 K2=>?_
     simp only[sQ] at K2⊢
     go_upto_region 10 with fail
     refine Rd K2 HB2 [] [(9,11,L0s,some (10,LN (S -m)))] (cG 0 52 [_,_,_,_,_,_] [(6,51,_),(7,58,_),(8,59,_),(11,12,_)]) [(10,9)] [] [true,false,true,false] (Od8 (g_ld 3 uN iN) g_mv g_nl (g_fd (fd_m bo)) (g_ld 1 uN iN) (g_cl Yt (fun uZ=>sub_b S m uZ hm hc h4)) g_mv g_ex<|Oc4 g_ex (g_al 0 aN) (g_sn 0 iN) g_as) fun u3 b3_9 HB3 sz3 K3=>?_
     simp only[sQ] at K3⊢
     have c4:=((K3.cv 1) 4 _ rfl).1
     go_upto_region 13 with fail
     refine Rp K3 HB3 [.all 1 (LN (S -m))] [] [(0,67,_)] [] [] [true,false,false] (Oc2 (g_ld 2 uN iN) (g_st 0 iN)) fun u4 HB4 sz4 K4=>?_
     simp only[sQ] at K4⊢
     have c6:=(K4.cv 0).n4
     go_wp2
     refine bodyPost_ret (v:=NV (S -m)) (by simp[results,Tryz.results157,go_sem,c6]) rfl ⟨by rw[hx'.out],HB4⟩
    ·have h4:0x10000000000000000000000000000000000000000000000000000000000000000<=S:=Z1
     have d4:(D4 S==0)=false:=by unfold D4;simp;omega
     have K1_2:Bk w.heap.size wr [(false,w.heap.size,LN a),(false,w.heap.size+1,LN b),(true,w.heap.size+1+1,L0s),(false,bo,LM m cl),(false,b1_0,L5 S)]:=⟨.c Z1 Ka<| .c Z1 Kb<| .o Z1 (K1.lo 2) Kr<| .c Z1 Ko<| .c ls Ks<|trivial,by simp;omega⟩
     go_upto_region 9 with fail
     refine Rp K1_2 HBr [] [(3,10,L0s,some (4,LN S))] (cG 0 48 [_,_,_] []) [(4,3)] [] [false,false] (Oc5 (g_sl (sl_five b1_0)) (g_sp (ap_five b1_0)) (g_ld 4 uN iN) (g_al 0 aN) (g_sn 0 iN)) fun u2 b2_3 HB2 sz2 K2=>?_
     simp only[sQ] at K2⊢
     go_upto_region 10 with fail
     refine Rd K2 HB2 [] [(9,11,L0s,some (10,LN (S -m)))] (cG 0 52 [_,_,_,_,_,_] [(6,51,_),(7,58,_),(8,59,_),(11,12,_)]) [(10,9)] [] [true,false,true,false] (Od8 (g_ld 3 uN iN) g_mv g_nl (g_fd (fd_m bo)) (g_ld 1 uN iN) (g_cl Yt (fun uZ=>sub_c S m uZ hm hSl h4)) g_mv g_ex<|Oc4 g_ex (g_al 0 aN) (g_sn 0 iN) g_as) fun u3 b3_9 HB3 sz3 K3=>?_
     simp only[sQ] at K3⊢
     have c4:=((K3.cv 1) 4 _ rfl).1
     go_upto_region 13 with fail
     refine Rp K3 HB3 [.all 1 (LN (S -m))] [] [(0,67,_)] [] [] [true,false,false] (Oc2 (g_ld 2 uN iN) (g_st 0 iN)) fun u4 HB4 sz4 K4=>?_
     simp only[sQ] at K4⊢
     have c6:=(K4.cv 0).n4
     go_wp2
     refine bodyPost_ret (v:=NV (S -m)) (by simp[results,Tryz.results157,go_sem,c6]) rfl ⟨by rw[hx'.out],HB4⟩
set_option maxHeartbeats 8000000 in
theorem mlowProduct(a b:Int)(w:World)(ha:In a)(hb:In b):
 CC 137 #[NV a,NV b] w (NV (a*b%0x10000000000000000000000000000000000000000000000000000000000000000)):=by
 go_enter Tryz.func137,Tryz.ntmps137
 go_upto_region 1 with fail
 obtain⟨v0,hC,HB0,K0⟩:=bx3 w (LN a) 24 (LN b) 24 L0s 24
 rw[hC]
 clear hC
 refine Rp K0 HB0 [.no,.no,.all 4 (LN (a*b%0x10000000000000000000000000000000000000000000000000000000000000000))] [] (cG 0 5 [_,_,_,_] []) [] [] [false,false] (Oc5 (g_ld 0 uN iN) (g_ld 1 uN iN) (g_cl Xw (fun uZ=>nMul a b uZ ha hb)) (g_cl Wm (mlow (a*b))) (g_st 2 iN)) fun u1 HB1 _ K1=>?_
 simp only[sQ] at K1⊢
 have c4:=(K1.cv 0).n4
 go_wp2
 refine bodyPost_ret (v:=NV (a*b%0x10000000000000000000000000000000000000000000000000000000000000000)) (by simp[results,Tryz.results137,go_sem,c4]) rfl ⟨rfl,HB1⟩
set_option maxHeartbeats 8000000 in
theorem mraise(N:FuncId)(first:List Value)(P:Nat->Int)(e:Int)(bo:Nat)(l0:List Value)(w:World)(hEnt: ∀(vs:Array Value) (w:World),(callFunc N vs).run Tryz.prog w= .ok (.enter N vs) w)
 (hT:Hid (∀(i j:Nat) (u:World),CV u bo l0->bo<u.heap.size->Calls Tryz.prog N (first++[NV (P i),NV (P j)]).toArray u fun en u'=>en= .returned (NV (P (i+j)))/\Bw u u'))(he:In e)(Kb:CV w bo l0)(lb:bo<w.heap.size):
 CC 136 #[NV (P 1),NV e,NV (P 0),.func (.func N) first.toArray #[]] w (NV (P e.toNat)):=by
 have hb:=lenI_bd e
 obtain⟨L,hLe⟩: ∃L:Nat,lenI e=(L:Int):=⟨(lenI e).toNat,Z1⟩
 have hL:Hid (∀u,CC 118 #[NV e] u (iI (L:Int))):=fun u=>by rw[<-hLe];exact nLen e u
 have hlt:=lenI_lt he
 rw[hLe] at hlt hb
 have h0:Hid ((e/2^(L -0)).toNat=0):=by
  show (e/2^(L -0)).toNat=0
  rw[Nat.sub_zero,Int.ediv_eq_zero_of_lt he.1 (by simpa using hlt)];rfl
 have hL256:L<=256:=Z1
 clear hLe hlt hb
 go_enter Tryz.func136,Tryz.ntmps136
 go_upto_region 1 with fail
 obtain⟨v0,hC,HB0,K0⟩:=bx4 w (LN (P 1)) 24 (LN e) 24 (LN (P 0)) 24 L0s 24
 rw[hC]
 clear hC
 have Ko0:CV v0 bo l0:=Kb.below HB0 lb
 have lo0:bo<v0.heap.size:=Nat.lt_of_lt_of_le lb HB0.size
 clear Kb
 have K0_1:Bk w.heap.size v0 [(false,w.heap.size,LN (P 1)),(false,w.heap.size+1,LN e),(false,w.heap.size+1+1,LN (P 0)),(true,w.heap.size+1+1+1,L0s),(false,bo,l0)]:=⟨.c (K0.lt 0) (K0.cv 0)<| .c (K0.lt 1) (K0.cv 1)<| .c (K0.lt 2) (K0.cv 2)<| .o (K0.lt 3) Z1 (K0.cv 3)<| .c lo0 Ko0<|trivial,by simp;omega⟩
 refine Rd K0_1 HB0 [] [(3,9,L0s,some (4,LN (P 0)))] (cG 0 12 [_,_,_] [(5,10,_)]) [(4,3)] [] [] (Oc6 (g_ld 2 uN iN) (g_ld 1 uN iN) (g_cl ent_limb_Length hL.out) (g_al 0 aN) (g_sn 0 iN) g_as) fun u1 b1_3 HB1 _ K1=>?_
 simp only[sQ] at K1⊢
 go_wp2_with fail
 go_loopw [16] (fun s16 wr=> ∃(j:Nat),j<=L/\s16=iI j/\Bw w wr/\CV wr (w.heap.size) (LN (P 1))/\CV wr (w.heap.size+1) (LN e)/\CV wr (w.heap.size+1+1+1) L0s/\CV wr bo l0/\CV wr b1_3 (LN (P (e/2^(L -j)).toNat))/\b1_3<wr.heap.size) (fun s16 _=>L -(intOf s16).toNat)
 case atStart=>exact⟨0,Z1,rfl,HB1,(K1.cv 0),(K1.cv 1),(K1.cv 3),(K1.cv 4),by rw[h0.out];exact(K1.cv 5),(K1.lt 5)⟩
 case round=>
  obtain⟨j,hj,rfl,HBr,Ka,Ke,Kr,Ko,Kp,lp⟩:=hrel
  have hn:=K1.n
  simp at hn
  have ho5:=K1.lo 5
  by_cases hjl:j<L
  ·have hjl':(j:Int)<(L:Int):=Z1
   obtain⟨k,hk1,hk2⟩: ∃k:Nat,k+j+1<=L/\L<=k+j+1:=⟨L -1 -j,Z1,Z1⟩
   obtain⟨n,hn⟩:=Z3 ((e/2^(L -j)).toNat:Nat)
   have hts:=top_step e he.1 k
   rw[show L -j=k+1 by omega] at hn
   have hnn:0<=e/2^(k+1):=Int.ediv_nonneg he.1 (Int.le_of_lt (Int.pow_pos Z2))
   have Kp:CV wr b1_3 (LN (P n)):=by rw[<-hn,<-show L -j=k+1 by omega];exact Kp
   have hnx:Hid ((e/2^(L -(j+1))).toNat=n+n+(if bitI e k then 1 else 0)):=by
    show (e/2^(L -(j+1))).toNat=_
    rw[show L -(j+1)=k by omega,hts]
    split<;>omega
   clear hts hn hnn
   have K1_2:Bk w.heap.size wr [(false,w.heap.size,LN (P 1)),(false,w.heap.size+1,LN e),(true,w.heap.size+1+1+1,L0s),(false,bo,l0),(true,b1_3,LN (P n))]:=⟨.c Z1 Ka<| .c Z1 Ke<| .o Z1 (K1.lo 3) Kr<| .c Z1 Ko<| .o lp (K1.lo 5) Kp<|trivial,by simp;omega⟩
   go_upto_region 4 with fail
   refine Rn K1_2 HBr [(0,18,_),(1,11,_)] (Oc2 g_mv g_as) fun u2 HB2 _ K2=>?_
   simp only[sQ] at K2⊢
   go_upto_region 5 with fail
   refine Rp K2 HB2 [.no,.no,.no,.no,.all 4 (LN (P (n+n)))] [] (cG 0 19 [_,_,_,_] []) [(4,1),(4,2)] [] [] (Oc5 g_mv (g_ld 4 uN iN) (g_ld 4 uN iN) (g_cv (first:=first) hEnt (fun fZ uZ kZ sZ=>hT.out n n uZ (kZ.cv 3) (kZ.lb sZ 3))) (g_st 4 iN)) fun u3 HB3 _ K3=>?_
   simp only[sQ] at K3⊢
   cases hbit:bitI e k
   ·have Hb:Hid (bitI e k=false):=hbit
    clear hbit
    go_upto_region 6 with fail
    refine Rn K3 HB3 (cG 0 23 [_,_,_,_,_,_] []) (Oc6 (g_ld 1 uN iN) g_mv (g_bn (fun uZ=>Xi _ _ (L:Int) 1 ((L:Int) -1) uZ rfl Z1 Z1)) g_mv (g_bn (fun uZ=>Xi _ _ ((L:Int) -1) (j:Int) (k:Int) uZ Z1 Z1 Z1)) (g_cl Xx (fun uZ=>by have h1:=nBit e k uZ Z1 Z1;rw[Hb.out] at h1;exact h1))) fun u4 HB4 sz4 K4=>?_
    simp only[sQ] at K4⊢
    go_upto_region 8 with fail
    refine Rp K4 HB4 [] [] [(0,33,_),(1,16,_)] [(1,0)] [(1,16)] [] (Oc2 (g_bn (fun uZ=>Zu _ _ (j:Int) 1 ((j+1:Nat):Int) uZ Z1 Z1 Z1)) g_mv) fun u5 HB5 sz5 K5=>?_
    simp only[sQ] at K5⊢
    go_wp2
    refine⟨⟨j+1,Z1,rfl,HB5,(K5.cv 0),(K5.cv 1),(K5.cv 2),(K5.cv 3),by rw[hnx.out];simp only[Hb.out];exact(K5.cv 4),(K5.lt 4)⟩,?_⟩
    simp[intOf];omega
   ·have Hb:Hid (bitI e k=true):=hbit
    clear hbit
    go_upto_region 6 with fail
    refine Rn K3 HB3 (cG 0 23 [_,_,_,_,_,_] []) (Oc6 (g_ld 1 uN iN) g_mv (g_bn (fun uZ=>Xi _ _ (L:Int) 1 ((L:Int) -1) uZ rfl Z1 Z1)) g_mv (g_bn (fun uZ=>Xi _ _ ((L:Int) -1) (j:Int) (k:Int) uZ Z1 Z1 Z1)) (g_cl Xx (fun uZ=>by have h1:=nBit e k uZ Z1 Z1;rw[Hb.out] at h1;exact h1))) fun u4 HB4 sz4 K4=>?_
    simp only[sQ] at K4⊢
    go_upto_region 7 with fail
    refine Rp K4 HB4 [.no,.no,.no,.no,.all 4 (LN (P (n+n+1)))] [] (cG 0 29 [_,_,_,_] []) [(4,1)] [] [] (Oc5 g_mv (g_ld 4 uN iN) (g_ld 0 uN iN) (g_cv (first:=first) hEnt (fun fZ uZ kZ sZ=>hT.out (n+n) 1 uZ (kZ.cv 3) (kZ.lb sZ 3))) (g_st 4 iN)) fun u5 HB5 sz5 K5=>?_
    simp only[sQ] at K5⊢
    go_upto_region 8 with fail
    refine Rp K5 HB5 [] [] [(0,33,_),(1,16,_)] [(1,0)] [(1,16)] [] (Oc2 (g_bn (fun uZ=>Zu _ _ (j:Int) 1 ((j+1:Nat):Int) uZ Z1 Z1 Z1)) g_mv) fun u6 HB6 _ K6=>?_
    simp only[sQ] at K6⊢
    go_wp2
    refine⟨⟨j+1,Z1,rfl,HB6,(K6.cv 0),(K6.cv 1),(K6.cv 2),(K6.cv 3),by rw[hnx.out];simp only[Hb.out];exact(K6.cv 4),(K6.lt 4)⟩,?_⟩
    simp[intOf];omega
  ·have hjl': ¬(j:Int)<(L:Int):=Z1
   have hend:(e/2^(L -j)).toNat=e.toNat:=by rw[show L -j=0 by omega];simp
   have Kp:CV wr b1_3 (LN (P e.toNat)):=by rw[<-hend];exact Kp
   clear hend
   have K3_2:Bk w.heap.size wr [(false,w.heap.size,LN (P 1)),(false,w.heap.size+1,LN e),(true,w.heap.size+1+1+1,L0s),(false,bo,l0),(false,b1_3,LN (P e.toNat))]:=⟨.c Z1 Ka<| .c Z1 Ke<| .o Z1 (K1.lo 3) Kr<| .c Z1 Ko<| .c lp Kp<|trivial,by simp;omega⟩
   go_upto_region 9 with fail
   refine Rp K3_2 HBr [.no,.no,.all 1 (LN (P e.toNat))] [] [(0,34,_)] [] [] [false,false,true,false,false] (Oc2 (g_ld 4 uN iN) (g_st 2 iN)) fun u4 HB4 sz4 K4=>?_
   simp only[sQ] at K4⊢
   have c8:=(K4.cv 0).n4
   go_wp2
   refine bodyPost_ret (v:=NV (P e.toNat)) (by simp[results,Tryz.results136,go_sem,c8]) rfl ⟨rfl,HB4⟩
end
end Go.Proofs.YtoffgfhilkpdpaaGreatDoor
