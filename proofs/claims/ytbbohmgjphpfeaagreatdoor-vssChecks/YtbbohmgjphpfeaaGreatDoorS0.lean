import Derived.Test.YtbbohmgjphpfeaaGreatDoorSH1
namespace Go.Proofs.YtbbohmgjphpfeaaGreatDoor
set_option linter.unusedVariables false
set_option linter.unusedSimpArgs false
set_option maxRecDepth 100000
set_option maxHeartbeats 4000000
theorem Xd (r:Nat) (h:r<=64):(2:Int)^r*2^(64 -r)=18446744073709551616:=by
 rw[<-Int.pow_add,show r+(64 -r)=64 by omega];rfl
theorem Zu (r:Nat):(0:Int)<2^r:=Int.pow_pos (by omega)
theorem shr_eq (x:Int) (r:Nat) (h:r<=64):x/2^(64 -r)=x*2^r/18446744073709551616:=by
 rw[<-Xd r h,Int.mul_comm ((2:Int)^r),Int.mul_ediv_mul_of_pos_left _ _ (Zu r)]
theorem shl_eq (x:Int) (r:Nat) (h:r<=64):x*2^r%18446744073709551616=x%2^(64 -r)*2^r:=by
 rw[<-Xd r h,Int.mul_comm x,Int.mul_emod_mul_of_pos _ _ (Zu r),Int.mul_comm]
theorem parts_bd (x y:Int) (r:Nat) (h:r<=63) (hx:W64 x) (hy:W64 y):
 0<=x*2^r/18446744073709551616/\x*2^r/18446744073709551616<2^r/\0<=y%2^(64 -r)/\y%2^(64 -r)*2^r+2^r<=18446744073709551616:=by
 obtain⟨x1,x2⟩:=hx
 have p:=Zu r
 have q:=Zu (64 -r)
 have s:=Xd r (by omega)
 refine⟨Int.ediv_nonneg (Int.mul_nonneg x1 (by omega)) (by omega),?_,Int.emod_nonneg _ (by omega),?_⟩
 ·refine Int.ediv_lt_of_lt_mul (by omega) ?_
  rw[Int.mul_comm]
  exact Int.mul_lt_mul_of_pos_left x2 p
 ·have h1:y%2^(64 -r)+1<=2^(64 -r):=Int.emod_lt_of_pos y q
  have h2:(y%2^(64 -r)+1)*2^r<=2^(64 -r)*2^r:=Int.mul_le_mul_of_nonneg_right h1 (by omega)
  rw[Int.add_mul,Int.mul_comm (2^(64 -r):Int),s] at h2
  omega
theorem or_apart (a b r:Nat) (ha:a<2^r):a ||| (b*2^r)=a+b*2^r:=by
 have:=Nat.shiftLeft_add_eq_or_of_lt ha b
 rw[Nat.shiftLeft_eq] at this
 rw[Nat.or_comm,<-this];omega
theorem or_int (a b:Int) (r:Nat) (ha:0<=a/\a<2^r) (hb:0<=b) (hs:a+b*2^r<18446744073709551616):bits .or .u64 a (b*2^r)=a+b*2^r:=by
 obtain⟨a,rfl⟩:=Int.eq_ofNat_of_zero_le ha.1
 obtain⟨b,rfl⟩:=Int.eq_ofNat_of_zero_le hb
 have e:((b:Int)*2^r)=((b*2^r:Nat):Int):=by simp
 have hlt:a<2^r:=by have:=ha.2;exact_mod_cast this
 rw[e] at hs⊢
 rw[bits_or_u64_nat a (b*2^r) (by omega) (by omega),or_apart a b r hlt]
 omega
theorem or_zeroL (a:Int) (h:W64 a):bits .or .u64 0 a=a:=by
 obtain⟨h1,h2⟩:=h
 obtain⟨a,rfl⟩:=Int.eq_ofNat_of_zero_le h1
 have:=bits_or_u64_nat 0 a (by omega) (by omega)
 simpa using this
theorem meet (x y:Int) (r:Nat) (h:r<=63) (hx:W64 x) (hy:W64 y):
 bits .or .u64 (bits .or .u64 0 (x/2^(64 -r))) (IntKind.u64.wrap (y*2^r))=x*2^r/18446744073709551616+y*2^r%18446744073709551616/\
 W64 (x*2^r/18446744073709551616+y*2^r%18446744073709551616):=by
 obtain⟨b1,b2,b3,b4⟩:=parts_bd x y r h hx hy
 have p:=Zu r
 have b5:0<=y%2^(64 -r)*2^r:=Int.mul_nonneg b3 (by omega)
 rw[IntKind.wrap_u64,shl_eq y r (by omega),shr_eq x r (by omega)]
 rw[or_zeroL _ ⟨b1,by omega⟩]
 exact⟨or_int _ _ r ⟨b1,b2⟩ b3 (by omega),by omega,by omega⟩
theorem meet_lo (y:Int) (r:Nat):bits .or .u64 0 (IntKind.u64.wrap (y*2^r))=y*2^r%18446744073709551616:=by
 rw[IntKind.wrap_u64];exact or_zeroL _ ⟨by omega,by omega⟩
theorem V2 (x:Int) (r:Nat) (h:r<=63) (hx:W64 x):bits .or .u64 0 (x/2^(64 -r))=x*2^r/18446744073709551616/\W64 (x*2^r/18446744073709551616):=by
 obtain⟨b1,b2,b3,b4⟩:=parts_bd x 0 r h hx ⟨by omega,by omega⟩
 have b5:0<=(0:Int)%2^(64 -r)*2^r:=Int.mul_nonneg b3 (by have:=Zu r;omega)
 have w:W64 (x*2^r/18446744073709551616):=⟨b1,by omega⟩
 rw[shr_eq x r (by omega)]
 exact⟨or_zeroL _ w,w⟩
end Go.Proofs.YtbbohmgjphpfeaaGreatDoor
