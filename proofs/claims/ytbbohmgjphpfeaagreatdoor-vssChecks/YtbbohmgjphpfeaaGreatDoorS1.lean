import Derived.Test.YtbbohmgjphpfeaaGreatDoorM3
import Derived.Test.YtbbohmgjphpfeaaGreatDoorS0
namespace Go.Proofs.YtbbohmgjphpfeaaGreatDoor
set_option linter.unusedVariables false
set_option linter.unusedSimpArgs false
set_option maxRecDepth 100000
set_option maxHeartbeats 4000000
open Go.RowKit
abbrev LVL (m:Int):Value:= .agg #[.int .u64 (D0 m),.int .u64 (D1 m),.int .u64 (D2 m),.int .u64 (D3 m),.int .u64 (D0 (D4 m)),.int .u64 (D1 (D4 m)),.int .u64 (D2 (D4 m)),.int .u64 (D3 (D4 m)),.int .u64 (D0 (D4 (D4 m))),.int .u64 (D1 (D4 (D4 m))),.int .u64 (D2 (D4 (D4 m))),.int .u64 (D3 (D4 (D4 m)))]
theorem LV_of (m x0 x1 x2 x3 x4 x5 x6 x7 x8 x9 x10 x11:Int) (h0:W64 x0) (h1:W64 x1) (h2:W64 x2) (h3:W64 x3) (h4:W64 x4) (h5:W64 x5) (h6:W64 x6) (h7:W64 x7) (h8:W64 x8) (h9:W64 x9) (h10:W64 x10) (h11:W64 x11) (h:m=V x0 x1 x2 x3+V x4 x5 x6 x7*0x10000000000000000000000000000000000000000000000000000000000000000+V x8 x9 x10 x11*0x100000000000000000000000000000000000000000000000000000000000000000000000000000000000000000000000000000000000000000000000000000000):
 .agg #[.int .u64 x0,.int .u64 x1,.int .u64 x2,.int .u64 x3,.int .u64 x4,.int .u64 x5,.int .u64 x6,.int .u64 x7,.int .u64 x8,.int .u64 x9,.int .u64 x10,.int .u64 x11]=LVL m:=by
 have k:=V_bd x0 x1 x2 x3 h0 h1 h2 h3
 have l:=V_bd x4 x5 x6 x7 h4 h5 h6 h7
 obtain⟨e0,e1,e2,e3,e4⟩:=D_of m x0 x1 x2 x3 (V x4 x5 x6 x7+V x8 x9 x10 x11*0x10000000000000000000000000000000000000000000000000000000000000000) h0 h1 h2 h3 (by omega)
 obtain⟨f0,f1,f2,f3,f4⟩:=D_of (V x4 x5 x6 x7+V x8 x9 x10 x11*0x10000000000000000000000000000000000000000000000000000000000000000) x4 x5 x6 x7 (V x8 x9 x10 x11) h4 h5 h6 h7 (by omega)
 obtain⟨g0,g1,g2,g3,g4⟩:=D_of (V x8 x9 x10 x11) x8 x9 x10 x11 0 h8 h9 h10 h11 (by omega)
 rw[LVL,e4,f4,e0,e1,e2,e3,f0,f1,f2,f3,g0,g1,g2,g3]
theorem lift_val0 (a b c d e f g h:Int) (r:Nat) (h':r<=63) (ha:W64 a) (hb:W64 b) (hc:W64 c) (hd:W64 d) (he:W64 e) (hf:W64 f) (hg:W64 g) (hh:W64 h):.agg #[.int .u64 (a*2^r%18446744073709551616),.int .u64 (a*2^r/18446744073709551616+b*2^r%18446744073709551616),.int .u64 (b*2^r/18446744073709551616+c*2^r%18446744073709551616),.int .u64 (c*2^r/18446744073709551616+d*2^r%18446744073709551616),.int .u64 (d*2^r/18446744073709551616+e*2^r%18446744073709551616),.int .u64 (e*2^r/18446744073709551616+f*2^r%18446744073709551616),.int .u64 (f*2^r/18446744073709551616+g*2^r%18446744073709551616),.int .u64 (g*2^r/18446744073709551616+h*2^r%18446744073709551616),.int .u64 (h*2^r/18446744073709551616),.int .u64 0,.int .u64 0,.int .u64 0]=LVL ((V a b c d+V e f g h*0x10000000000000000000000000000000000000000000000000000000000000000)*2^r*1):=by
 refine LV_of _ (a*2^r%18446744073709551616) (a*2^r/18446744073709551616+b*2^r%18446744073709551616) (b*2^r/18446744073709551616+c*2^r%18446744073709551616) (c*2^r/18446744073709551616+d*2^r%18446744073709551616) (d*2^r/18446744073709551616+e*2^r%18446744073709551616) (e*2^r/18446744073709551616+f*2^r%18446744073709551616) (f*2^r/18446744073709551616+g*2^r%18446744073709551616) (g*2^r/18446744073709551616+h*2^r%18446744073709551616) (h*2^r/18446744073709551616) 0 0 0 (W_lo _) (meet a b r h' ha hb).2 (meet b c r h' hb hc).2 (meet c d r h' hc hd).2 (meet d e r h' hd he).2 (meet e f r h' he hf).2 (meet f g r h' hf hg).2 (meet g h r h' hg hh).2 (V2 h r h' hh).2 W_0 W_0 W_0 ?_
 have hE:(V a b c d+V e f g h*0x10000000000000000000000000000000000000000000000000000000000000000)*2^r=V (a*2^r) (b*2^r) (c*2^r) (d*2^r)+V (e*2^r) (f*2^r) (g*2^r) (h*2^r)*0x10000000000000000000000000000000000000000000000000000000000000000:=by
  rw[Int.add_mul,Int.mul_right_comm (V e f g h),Ue,Ue];unfold V;omega
 rw[hE]
 generalize a*2^r=qa
 generalize b*2^r=qb
 generalize c*2^r=qc
 generalize d*2^r=qd
 generalize e*2^r=qe
 generalize f*2^r=qf
 generalize g*2^r=qg
 generalize h*2^r=qh
 unfold V;omega
theorem lift_val1 (a b c d e f g h:Int) (r:Nat) (h':r<=63) (ha:W64 a) (hb:W64 b) (hc:W64 c) (hd:W64 d) (he:W64 e) (hf:W64 f) (hg:W64 g) (hh:W64 h):.agg #[.int .u64 0,.int .u64 (a*2^r%18446744073709551616),.int .u64 (a*2^r/18446744073709551616+b*2^r%18446744073709551616),.int .u64 (b*2^r/18446744073709551616+c*2^r%18446744073709551616),.int .u64 (c*2^r/18446744073709551616+d*2^r%18446744073709551616),.int .u64 (d*2^r/18446744073709551616+e*2^r%18446744073709551616),.int .u64 (e*2^r/18446744073709551616+f*2^r%18446744073709551616),.int .u64 (f*2^r/18446744073709551616+g*2^r%18446744073709551616),.int .u64 (g*2^r/18446744073709551616+h*2^r%18446744073709551616),.int .u64 (h*2^r/18446744073709551616),.int .u64 0,.int .u64 0]=LVL ((V a b c d+V e f g h*0x10000000000000000000000000000000000000000000000000000000000000000)*2^r*18446744073709551616):=by
 refine LV_of _ 0 (a*2^r%18446744073709551616) (a*2^r/18446744073709551616+b*2^r%18446744073709551616) (b*2^r/18446744073709551616+c*2^r%18446744073709551616) (c*2^r/18446744073709551616+d*2^r%18446744073709551616) (d*2^r/18446744073709551616+e*2^r%18446744073709551616) (e*2^r/18446744073709551616+f*2^r%18446744073709551616) (f*2^r/18446744073709551616+g*2^r%18446744073709551616) (g*2^r/18446744073709551616+h*2^r%18446744073709551616) (h*2^r/18446744073709551616) 0 0 W_0 (W_lo _) (meet a b r h' ha hb).2 (meet b c r h' hb hc).2 (meet c d r h' hc hd).2 (meet d e r h' hd he).2 (meet e f r h' he hf).2 (meet f g r h' hf hg).2 (meet g h r h' hg hh).2 (V2 h r h' hh).2 W_0 W_0 ?_
 have hE:(V a b c d+V e f g h*0x10000000000000000000000000000000000000000000000000000000000000000)*2^r=V (a*2^r) (b*2^r) (c*2^r) (d*2^r)+V (e*2^r) (f*2^r) (g*2^r) (h*2^r)*0x10000000000000000000000000000000000000000000000000000000000000000:=by
  rw[Int.add_mul,Int.mul_right_comm (V e f g h),Ue,Ue];unfold V;omega
 rw[hE]
 generalize a*2^r=qa
 generalize b*2^r=qb
 generalize c*2^r=qc
 generalize d*2^r=qd
 generalize e*2^r=qe
 generalize f*2^r=qf
 generalize g*2^r=qg
 generalize h*2^r=qh
 unfold V;omega
theorem lift_val2 (a b c d e f g h:Int) (r:Nat) (h':r<=63) (ha:W64 a) (hb:W64 b) (hc:W64 c) (hd:W64 d) (he:W64 e) (hf:W64 f) (hg:W64 g) (hh:W64 h):.agg #[.int .u64 0,.int .u64 0,.int .u64 (a*2^r%18446744073709551616),.int .u64 (a*2^r/18446744073709551616+b*2^r%18446744073709551616),.int .u64 (b*2^r/18446744073709551616+c*2^r%18446744073709551616),.int .u64 (c*2^r/18446744073709551616+d*2^r%18446744073709551616),.int .u64 (d*2^r/18446744073709551616+e*2^r%18446744073709551616),.int .u64 (e*2^r/18446744073709551616+f*2^r%18446744073709551616),.int .u64 (f*2^r/18446744073709551616+g*2^r%18446744073709551616),.int .u64 (g*2^r/18446744073709551616+h*2^r%18446744073709551616),.int .u64 (h*2^r/18446744073709551616),.int .u64 0]=LVL ((V a b c d+V e f g h*0x10000000000000000000000000000000000000000000000000000000000000000)*2^r*0x100000000000000000000000000000000):=by
 refine LV_of _ 0 0 (a*2^r%18446744073709551616) (a*2^r/18446744073709551616+b*2^r%18446744073709551616) (b*2^r/18446744073709551616+c*2^r%18446744073709551616) (c*2^r/18446744073709551616+d*2^r%18446744073709551616) (d*2^r/18446744073709551616+e*2^r%18446744073709551616) (e*2^r/18446744073709551616+f*2^r%18446744073709551616) (f*2^r/18446744073709551616+g*2^r%18446744073709551616) (g*2^r/18446744073709551616+h*2^r%18446744073709551616) (h*2^r/18446744073709551616) 0 W_0 W_0 (W_lo _) (meet a b r h' ha hb).2 (meet b c r h' hb hc).2 (meet c d r h' hc hd).2 (meet d e r h' hd he).2 (meet e f r h' he hf).2 (meet f g r h' hf hg).2 (meet g h r h' hg hh).2 (V2 h r h' hh).2 W_0 ?_
 have hE:(V a b c d+V e f g h*0x10000000000000000000000000000000000000000000000000000000000000000)*2^r=V (a*2^r) (b*2^r) (c*2^r) (d*2^r)+V (e*2^r) (f*2^r) (g*2^r) (h*2^r)*0x10000000000000000000000000000000000000000000000000000000000000000:=by
  rw[Int.add_mul,Int.mul_right_comm (V e f g h),Ue,Ue];unfold V;omega
 rw[hE]
 generalize a*2^r=qa
 generalize b*2^r=qb
 generalize c*2^r=qc
 generalize d*2^r=qd
 generalize e*2^r=qe
 generalize f*2^r=qf
 generalize g*2^r=qg
 generalize h*2^r=qh
 unfold V;omega
theorem lift_val3 (a b c d e f g h:Int) (r:Nat) (h':r<=63) (ha:W64 a) (hb:W64 b) (hc:W64 c) (hd:W64 d) (he:W64 e) (hf:W64 f) (hg:W64 g) (hh:W64 h):.agg #[.int .u64 0,.int .u64 0,.int .u64 0,.int .u64 (a*2^r%18446744073709551616),.int .u64 (a*2^r/18446744073709551616+b*2^r%18446744073709551616),.int .u64 (b*2^r/18446744073709551616+c*2^r%18446744073709551616),.int .u64 (c*2^r/18446744073709551616+d*2^r%18446744073709551616),.int .u64 (d*2^r/18446744073709551616+e*2^r%18446744073709551616),.int .u64 (e*2^r/18446744073709551616+f*2^r%18446744073709551616),.int .u64 (f*2^r/18446744073709551616+g*2^r%18446744073709551616),.int .u64 (g*2^r/18446744073709551616+h*2^r%18446744073709551616),.int .u64 (h*2^r/18446744073709551616)]=LVL ((V a b c d+V e f g h*0x10000000000000000000000000000000000000000000000000000000000000000)*2^r*0x1000000000000000000000000000000000000000000000000):=by
 refine LV_of _ 0 0 0 (a*2^r%18446744073709551616) (a*2^r/18446744073709551616+b*2^r%18446744073709551616) (b*2^r/18446744073709551616+c*2^r%18446744073709551616) (c*2^r/18446744073709551616+d*2^r%18446744073709551616) (d*2^r/18446744073709551616+e*2^r%18446744073709551616) (e*2^r/18446744073709551616+f*2^r%18446744073709551616) (f*2^r/18446744073709551616+g*2^r%18446744073709551616) (g*2^r/18446744073709551616+h*2^r%18446744073709551616) (h*2^r/18446744073709551616) W_0 W_0 W_0 (W_lo _) (meet a b r h' ha hb).2 (meet b c r h' hb hc).2 (meet c d r h' hc hd).2 (meet d e r h' hd he).2 (meet e f r h' he hf).2 (meet f g r h' hf hg).2 (meet g h r h' hg hh).2 (V2 h r h' hh).2 ?_
 have hE:(V a b c d+V e f g h*0x10000000000000000000000000000000000000000000000000000000000000000)*2^r=V (a*2^r) (b*2^r) (c*2^r) (d*2^r)+V (e*2^r) (f*2^r) (g*2^r) (h*2^r)*0x10000000000000000000000000000000000000000000000000000000000000000:=by
  rw[Int.add_mul,Int.mul_right_comm (V e f g h),Ue,Ue];unfold V;omega
 rw[hE]
 generalize a*2^r=qa
 generalize b*2^r=qb
 generalize c*2^r=qc
 generalize d*2^r=qd
 generalize e*2^r=qe
 generalize f*2^r=qf
 generalize g*2^r=qg
 generalize h*2^r=qh
 unfold V;omega
theorem Wd (r:Int) (h0:0<=r):(64 -r).toNat=64 -r.toNat:=by omega
end Go.Proofs.YtbbohmgjphpfeaaGreatDoor
