import Derived.Test.YtbbohmgjphpfeaaGreatDoorS1x
namespace Go.Proofs.YtbbohmgjphpfeaaGreatDoor
set_option linter.unusedVariables false
set_option linter.unusedSimpArgs false
set_option maxRecDepth 100000
set_option maxHeartbeats 4000000
open Go.RowKit
theorem lift_raw0(a b c d e f g h r:Int)(ha:W64 a)(hb:W64 b)(hc:W64 c)(hd:W64 d)(he:W64 e)(hf:W64 f)(hg:W64 g)(hh:W64 h)(r1:0<=r)(r2:r<=63):.agg #[.int .u64 (oA a r),.int .u64 (oB a b r),.int .u64 (oB b c r),.int .u64 (oB c d r),.int .u64 (oB d e r),.int .u64 (oB e f r),.int .u64 (oB f g r),.int .u64 (oB g h r),.int .u64 (oC h r),.int .u64 0,.int .u64 0,.int .u64 0]=LVL ((V a b c d+V e f g h*0x10000000000000000000000000000000000000000000000000000000000000000)*2^r.toNat*1):=by
 have hr':r.toNat<=63:=by omega
 unfold oA oB oC
 rw[<-lift_val0 a b c d e f g h r.toNat hr' ha hb hc hd he hf hg hh]
 rw[Wf r r1,meet_lo,(V7 h r.toNat hr' hh).1,(meet a b r.toNat hr' ha hb).1,(meet b c r.toNat hr' hb hc).1,(meet c d r.toNat hr' hc hd).1,(meet d e r.toNat hr' hd he).1,(meet e f r.toNat hr' he hf).1,(meet f g r.toNat hr' hf hg).1,(meet g h r.toNat hr' hg hh).1]
theorem lift_raw1(a b c d e f g h r:Int)(ha:W64 a)(hb:W64 b)(hc:W64 c)(hd:W64 d)(he:W64 e)(hf:W64 f)(hg:W64 g)(hh:W64 h)(r1:0<=r)(r2:r<=63):.agg #[.int .u64 0,.int .u64 (oA a r),.int .u64 (oB a b r),.int .u64 (oB b c r),.int .u64 (oB c d r),.int .u64 (oB d e r),.int .u64 (oB e f r),.int .u64 (oB f g r),.int .u64 (oB g h r),.int .u64 (oC h r),.int .u64 0,.int .u64 0]=LVL ((V a b c d+V e f g h*0x10000000000000000000000000000000000000000000000000000000000000000)*2^r.toNat*18446744073709551616):=by
 have hr':r.toNat<=63:=by omega
 unfold oA oB oC
 rw[<-lift_val1 a b c d e f g h r.toNat hr' ha hb hc hd he hf hg hh]
 rw[Wf r r1,meet_lo,(V7 h r.toNat hr' hh).1,(meet a b r.toNat hr' ha hb).1,(meet b c r.toNat hr' hb hc).1,(meet c d r.toNat hr' hc hd).1,(meet d e r.toNat hr' hd he).1,(meet e f r.toNat hr' he hf).1,(meet f g r.toNat hr' hf hg).1,(meet g h r.toNat hr' hg hh).1]
theorem lift_raw2(a b c d e f g h r:Int)(ha:W64 a)(hb:W64 b)(hc:W64 c)(hd:W64 d)(he:W64 e)(hf:W64 f)(hg:W64 g)(hh:W64 h)(r1:0<=r)(r2:r<=63):.agg #[.int .u64 0,.int .u64 0,.int .u64 (oA a r),.int .u64 (oB a b r),.int .u64 (oB b c r),.int .u64 (oB c d r),.int .u64 (oB d e r),.int .u64 (oB e f r),.int .u64 (oB f g r),.int .u64 (oB g h r),.int .u64 (oC h r),.int .u64 0]=LVL ((V a b c d+V e f g h*0x10000000000000000000000000000000000000000000000000000000000000000)*2^r.toNat*0x100000000000000000000000000000000):=by
 have hr':r.toNat<=63:=by omega
 unfold oA oB oC
 rw[<-lift_val2 a b c d e f g h r.toNat hr' ha hb hc hd he hf hg hh]
 rw[Wf r r1,meet_lo,(V7 h r.toNat hr' hh).1,(meet a b r.toNat hr' ha hb).1,(meet b c r.toNat hr' hb hc).1,(meet c d r.toNat hr' hc hd).1,(meet d e r.toNat hr' hd he).1,(meet e f r.toNat hr' he hf).1,(meet f g r.toNat hr' hf hg).1,(meet g h r.toNat hr' hg hh).1]
theorem lift_raw3(a b c d e f g h r:Int)(ha:W64 a)(hb:W64 b)(hc:W64 c)(hd:W64 d)(he:W64 e)(hf:W64 f)(hg:W64 g)(hh:W64 h)(r1:0<=r)(r2:r<=63):.agg #[.int .u64 0,.int .u64 0,.int .u64 0,.int .u64 (oA a r),.int .u64 (oB a b r),.int .u64 (oB b c r),.int .u64 (oB c d r),.int .u64 (oB d e r),.int .u64 (oB e f r),.int .u64 (oB f g r),.int .u64 (oB g h r),.int .u64 (oC h r)]=LVL ((V a b c d+V e f g h*0x10000000000000000000000000000000000000000000000000000000000000000)*2^r.toNat*0x1000000000000000000000000000000000000000000000000):=by
 have hr':r.toNat<=63:=by omega
 unfold oA oB oC
 rw[<-lift_val3 a b c d e f g h r.toNat hr' ha hb hc hd he hf hg hh]
 rw[Wf r r1,meet_lo,(V7 h r.toNat hr' hh).1,(meet a b r.toNat hr' ha hb).1,(meet b c r.toNat hr' hb hc).1,(meet c d r.toNat hr' hc hd).1,(meet d e r.toNat hr' hd he).1,(meet e f r.toNat hr' he hf).1,(meet f g r.toNat hr' hf hg).1,(meet g h r.toNat hr' hg hh).1]
theorem lift_any(a b c d e f g h n:Int)(w:World)(ha:W64 a)(hb:W64 b)(hc:W64 c)(hd:W64 d)(he:W64 e)(hf:W64 f)(hg:W64 g)(hh:W64 h)(h1:0<=n)(h2:n<=255):
 CC 131 #[A8 a b c d e f g h,.int .i64 n] w (LVL ((V a b c d+V e f g h*0x10000000000000000000000000000000000000000000000000000000000000000)*2^n.toNat)):=by
 have hp: ∀k:Nat,n/64=(k:Int)->(2:Int)^n.toNat=2^(n%64).toNat*2^(64*k):=fun k hk=>by
  rw[<-Int.pow_add];congr 1;omega
 have hc:n/64=0\/n/64=1\/n/64=2\/n/64=3:=by omega
 rcases hc with hk | hk | hk | hk
 ·have:=lift_0 a b c d e f g h n (n%64) w h1 h2 hk rfl (by omega) (by omega)
  rw[lift_raw0 a b c d e f g h (n%64) ha hb hc hd he hf hg hh (by omega) (by omega)] at this
  rw[hp 0 hk,<-Int.mul_assoc]
  exact this
 ·have:=lift_1 a b c d e f g h n (n%64) w h1 h2 hk rfl (by omega) (by omega)
  rw[lift_raw1 a b c d e f g h (n%64) ha hb hc hd he hf hg hh (by omega) (by omega)] at this
  rw[hp 1 hk,<-Int.mul_assoc]
  exact this
 ·have:=lift_2 a b c d e f g h n (n%64) w h1 h2 hk rfl (by omega) (by omega)
  rw[lift_raw2 a b c d e f g h (n%64) ha hb hc hd he hf hg hh (by omega) (by omega)] at this
  rw[hp 2 hk,<-Int.mul_assoc]
  exact this
 ·have:=lift_3 a b c d e f g h n (n%64) w h1 h2 hk rfl (by omega) (by omega)
  rw[lift_raw3 a b c d e f g h (n%64) ha hb hc hd he hf hg hh (by omega) (by omega)] at this
  rw[hp 3 hk,<-Int.mul_assoc]
  exact this
end Go.Proofs.YtbbohmgjphpfeaaGreatDoor
