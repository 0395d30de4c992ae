import Derived.Test.YtgieoghechekpaaGreatDoorMA1
namespace Go.Proofs.YtgieoghechekpaaGreatDoor
set_option linter.unusedVariables false
set_option linter.unusedSimpArgs false
set_option maxRecDepth 100000
set_option maxHeartbeats 4000000
section
open Go.RowKit
end
section
def IsMg(a b m x:Int):Prop:=0<=x/\x<m/\m∣115792089237316195423570985008687907853269984665640564039457584007913129639936*x -a*b
theorem odd_coprime(m y:Int)(h:m%2=1)(k:Nat)(hd:m∣2^k*y):m∣y:=by
 induction k with
 | zero=>simpa using hd
 | succ k ih=>
  apply ih
  obtain⟨q,hq⟩:=hd
  have hq2:q%2=0:=by
   have:(2:Int)∣m*q:=⟨2^k*y,by rw[<-hq,Int.pow_succ];grind⟩
   have h2:=Int.emod_eq_zero_of_dvd this
   rw[Int.mul_emod,h] at h2
   omega
  obtain⟨r,hr⟩: ∃r,q=2*r:=⟨q/2,by omega⟩
  refine⟨r,?_⟩
  rw[hr,Int.pow_succ] at hq
  have:2*(2^k*y)=2*(m*r):=by grind
  omega
theorem IsMg.uniq{a b m x y:Int}(ho:m%2=1)(hx:IsMg a b m x)(hy:IsMg a b m y):x=y:=by
 obtain⟨p,hp⟩:=hx.2.2
 obtain⟨q,hq⟩:=hy.2.2
 have e:(2:Int)^256=115792089237316195423570985008687907853269984665640564039457584007913129639936:=by decide
 have h1:m∣2^256*(x -y):=⟨p -q,by rw[e];grind⟩
 have h2:=odd_coprime m (x -y) ho 256 h1
 obtain⟨k,hk⟩:=h2
 have a1:=hx.1;have a2:=hx.2.1;have a3:=hy.1;have a4:=hy.2.1
 have:k=0:=by
  by_cases hk0:k=0
  ·exact hk0
  ·exfalso
   rcases Int.lt_or_gt_of_ne hk0 with h | h
   ·have:=Int.mul_le_mul_of_nonneg_left (show k<= -1 by omega) (show 0<=m by omega);omega
   ·have:=Int.mul_le_mul_of_nonneg_left (show 1<=k by omega) (show 0<=m by omega);omega
 subst this;omega
end
section
open Go.RowKit
end
end Go.Proofs.YtgieoghechekpaaGreatDoor
