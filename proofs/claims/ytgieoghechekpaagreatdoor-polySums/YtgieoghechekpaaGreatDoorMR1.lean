import Derived.Test.YtgieoghechekpaaGreatDoorAP5
namespace Go.Proofs.YtgieoghechekpaaGreatDoor
set_option linter.unusedVariables false
set_option linter.unusedSimpArgs false
set_option maxRecDepth 100000
set_option maxHeartbeats 4000000
open Go.RowKit
theorem nrAdd_lt(a b:Int)(w:World)(ha:In a)(hb:In b)(h:a+b<115792089237316195423570985008687907853269984665640564039457584007913129639936):CC 42 #[NV a,NV b] w (.tuple #[NV (a+b),.bool false]):=by
 have e:ovB a b=false:=by unfold ovB;simp;omega
 have k:=nrAdd a b w ha hb
 rw[e] at k;exact k
theorem nrAdd_ge(a b:Int)(w:World)(ha:In a)(hb:In b)(h:115792089237316195423570985008687907853269984665640564039457584007913129639936<=a+b):CC 42 #[NV a,NV b] w (.tuple #[NV (a+b -115792089237316195423570985008687907853269984665640564039457584007913129639936),.bool true]):=by
 have e:ovB a b=true:=by unfold ovB;simp;omega
 have k:=nrAdd a b w ha hb
 rw[e] at k;rw[NV_less];exact k
def P512:Int:=115792089237316195423570985008687907853269984665640564039457584007913129639936*115792089237316195423570985008687907853269984665640564039457584007913129639936
theorem half{x y:Int}(hx:0<=x)(hy:0<y)(h:y<=x):2*(x%y)<=x:=by
 have e:=Int.mul_ediv_add_emod x y
 have l:=Int.emod_lt_of_pos x hy
 have n:=Int.emod_nonneg x (show y≠0 by omega)
 have q:1<=x/y:=by
  by_cases h1:x/y<1
  ·have hq:0<=x/y:=Int.ediv_nonneg hx (by omega)
   have:x/y=0:=by omega
   rw[this] at e;simp at e;omega
  ·omega
 have m:=Int.mul_le_mul_of_nonneg_left q (show 0<=y by omega)
 omega
def PBk(k:Nat)(x y:Int):Prop:=y=0\/k=0\/(y<=x/\x*y*2^(k -1)<P512)
theorem P512_e:P512=115792089237316195423570985008687907853269984665640564039457584007913129639936*115792089237316195423570985008687907853269984665640564039457584007913129639936:=rfl
theorem P_le(k:Nat):P512<=2^(512+k):=by
 rw[show 512+k=256+(256+k) by omega,Int.pow_add,Int.pow_add,show (2:Int)^256=115792089237316195423570985008687907853269984665640564039457584007913129639936 by decide]
 have p:(0:Int)<2^k:=Int.pow_pos (by omega)
 unfold P512
 omega
theorem prod_lt{x y:Int}(hx:In x)(hy:In y):x*y<P512:=by
 rw[P512_e]
 have h1:=Int.mul_le_mul_of_nonneg_right (show x<=115792089237316195423570985008687907853269984665640564039457584007913129639935 by have:=hx.2;omega) hy.1
 have h2:=hy.2
 omega
theorem PBk.step{k:Nat}{x y:Int}(hx:In x)(hy:In y)(h:y≠0)(hP:PBk k x y):PBk (k+1) y (x%y):=by
 have y1:0<y:=by have:=hy.1;omega
 have l:=Int.emod_lt_of_pos x y1
 have n:=Int.emod_nonneg x h
 have ir:In (x%y):=Zd hy h
 have base:y*(x%y)<P512:=prod_lt hy ir
 refine .inr (.inr ⟨by omega,?_⟩)
 rcases hP with h0 | h0 | ⟨h1,h2⟩
 ·exact absurd h0 h
 ·subst h0;simpa using base
 ·by_cases hk:k=0
  ·subst hk;simpa using base
  ·obtain⟨j,rfl⟩: ∃j,k=j+1:=⟨k -1,by omega⟩
   simp only[Nat.add_sub_cancel] at h2⊢
   have hh:=half hx.1 y1 h1
   have p:(0:Int)<2^j:=Int.pow_pos (by omega)
   have m1:y*(2*(x%y))<=y*x:=Int.mul_le_mul_of_nonneg_left hh (by omega)
   have m2:=Int.mul_le_mul_of_nonneg_right m1 (Int.le_of_lt p)
   have e:y*(x%y)*2^(j+1)=y*(2*(x%y))*2^j:=by rw[Int.pow_succ];grind
   have e2:y*x=x*y:=Int.mul_comm _ _
   rw[e];rw[e2] at m2;omega
theorem PBk.fin{x y:Int}(hy:In y)(hP:PBk 600 x y):y=0:=by
 rcases hP with h | h | ⟨h1,h2⟩
 ·exact h
 ·omega
 ·by_cases h:y<1
  ·have:=hy.1;omega
  ·exfalso
   have m0:1*1<=x*y:=Int.mul_le_mul (by omega) (by omega) (by omega) (by omega)
   have p:(0:Int)<=2^(512+87):=Int.le_of_lt (Int.pow_pos (by omega))
   have m:=Int.mul_le_mul_of_nonneg_right m0 p
   have c:=P_le 87
   have h2':x*y*2^(512+87)<P512:=h2
   generalize (2:Int)^(512+87)=z at *
   omega
structure RV(m a x y fx fy:Int)(k:Nat):Prop where
 x0:0<=x
 xy:x<y
 ym:y<=m
 g:gI y x=gI m a
 dx:m∣fx*a -x
 dy:m∣fy*a -y
 fx0:0<=fx/\fx<m
 fy0:0<=fy/\fy<m
 b:y*x*2^k<P512
theorem RV.start{m a:Int}(hm:In m)(h1:1<m)(h0:0<=a)(ha:a<m):RV m a a m 1 0 0 where
 x0:=h0
 xy:=ha
 ym:=Int.le_refl _
 g:=rfl
 dx:=⟨0,by omega⟩
 dy:=⟨-1,by omega⟩
 fx0:=⟨by omega,h1⟩
 fy0:=⟨by omega,by omega⟩
 b:=by
  have:=prod_lt hm (show In a from ⟨h0,by have:=hm.2;omega⟩)
  simpa using this
theorem RV.step{m a x y fx fy:Int}{k:Nat}(h:RV m a x y fx fy k)(hx:x≠0):RV m a (y%x) x ((fy -y/x*fx%m)%m) fx (k+1) where
 x0:=Int.emod_nonneg _ hx
 xy:=Int.emod_lt_of_pos _ (by have:=h.x0;omega)
 ym:=by have:=h.xy;have:=h.ym;omega
 g:=by rw[gI_step y x (by have:=h.x0;have:=h.xy;omega) h.x0 hx];exact h.g
 dx:=by
  obtain⟨p,hp⟩:=h.dx
  obtain⟨q,hq⟩:=h.dy
  have e1:=Int.mul_ediv_add_emod (y/x*fx) m
  have e2:=Int.mul_ediv_add_emod (fy -y/x*fx%m) m
  have e3:=Int.mul_ediv_add_emod y x
  generalize (fy -y/x*fx%m)%m=u at *
  generalize (fy -y/x*fx%m)/m=u1 at *
  generalize y/x*fx%m=v at *
  generalize y/x*fx/m=v1 at *
  generalize y%x=r at *
  generalize y/x=s at *
  exact⟨q -s*p+v1*a -u1*a,by grind⟩
 dy:=h.dx
 fx0:=by
  have m0:0<m:=by have:=h.x0;have:=h.xy;have:=h.ym;omega
  exact⟨Int.emod_nonneg _ (by omega),Int.emod_lt_of_pos _ m0⟩
 fy0:=h.fx0
 b:=by
  have x1:0<x:=by have:=h.x0;omega
  have hh:=half (show 0<=y by have:=h.xy;omega) x1 (by have:=h.xy;omega)
  have p:(0:Int)<2^k:=Int.pow_pos (by omega)
  have m1:x*(2*(y%x))<=x*y:=Int.mul_le_mul_of_nonneg_left hh (by omega)
  have m2:=Int.mul_le_mul_of_nonneg_right m1 (Int.le_of_lt p)
  have e:x*(y%x)*2^(k+1)=x*(2*(y%x))*2^k:=by rw[Int.pow_succ];grind
  have hb:=h.b
  have e2:x*y=y*x:=Int.mul_comm _ _
  rw[e];rw[e2] at m2;omega
theorem RV.fin{m a x y fx fy:Int}(h:RV m a x y fx fy 600):x=0:=by
 by_cases h1:x<1
 ·have:=h.x0;omega
 ·exfalso
  have hb:=h.b
  have m0:1*1<=y*x:=Int.mul_le_mul (by have:=h.xy;omega) (by omega) (by omega) (by have:=h.xy;omega)
  have p:(0:Int)<=2^(512+88):=Int.le_of_lt (Int.pow_pos (by omega))
  have m:=Int.mul_le_mul_of_nonneg_right m0 p
  have c:=P_le 88
  have hb:y*x*2^(512+88)<P512:=hb
  generalize (2:Int)^(512+88)=z at *
  omega
end Go.Proofs.YtgieoghechekpaaGreatDoor
