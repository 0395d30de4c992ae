import Derived.Test.YtbbohmgjphpfeaaGreatDoorW5
import Derived.Test.YtbbohmgjphpfeaaGreatDoorS0
namespace Go.Proofs.YtbbohmgjphpfeaaGreatDoor
set_option linter.unusedVariables false
set_option linter.unusedSimpArgs false
set_option maxRecDepth 100000
set_option maxHeartbeats 4000000
open Go.RowKit
theorem Yu (x y:Int) (r:Nat) (h:r<=63) (hx:W64 x) (hy:W64 y):
 bits .or .u64 (x/2^r) (IntKind.u64.wrap (y*2^(64 -r)))=x/2^r+y%2^r*2^(64 -r)/\W64 (x/2^r+y%2^r*2^(64 -r)):=by
 obtain⟨x1,x2⟩:=hx
 have p:=Zu r
 have q:=Zu (64 -r)
 have sp:=Xd r (by omega)
 have b1:0<=x/2^r:=Int.ediv_nonneg x1 (by omega)
 have b2:x/2^r<2^(64 -r):=Int.ediv_lt_of_lt_mul p (by rw[Int.mul_comm,sp];exact x2)
 have b3:0<=y%2^r:=Int.emod_nonneg _ (by omega)
 have b4:y%2^r+1<=2^r:=Int.emod_lt_of_pos y p
 have b5:(y%2^r+1)*2^(64 -r)<=2^r*2^(64 -r):=Int.mul_le_mul_of_nonneg_right b4 (by omega)
 rw[Int.add_mul,sp] at b5
 have b6:0<=y%2^r*2^(64 -r):=Int.mul_nonneg b3 (by omega)
 have e:=shl_eq y (64 -r) (by omega)
 rw[show 64 -(64 -r)=r by omega] at e
 rw[IntKind.wrap_u64,e]
 exact⟨or_int _ _ (64 -r) ⟨b1,b2⟩ b3 (by omega),by omega,by omega⟩
theorem low_top (x:Int) (r:Nat) (hx:W64 x):W64 (x/2^r):=by
 obtain⟨x1,x2⟩:=hx
 have p:=Zu r
 have h1:0<=x/2^r:=Int.ediv_nonneg x1 (by omega)
 have h2:x/2^r<=x:=Int.ediv_le_self _ x1
 exact⟨h1,by omega⟩
theorem toNat_s64 (r:Int) (h0:0<=r):(64 -r).toNat=64 -r.toNat:=by omega
theorem div_of (n p q l:Int) (hp:0<p) (h:n=q*p+l) (h0:0<=l) (h1:l<p):n/p=q:=by
 rw[h,Int.add_comm,Int.add_mul_ediv_right _ _ (by omega),Int.ediv_eq_zero_of_lt h0 h1];omega
theorem low_val0 (a b c d:Int) (r:Nat) (h:r<=63) (ha:W64 a) (hb:W64 b) (hc:W64 c) (hd:W64 d):V (a/2^r+b%2^r*2^(64 -r)) (b/2^r+c%2^r*2^(64 -r)) (c/2^r+d%2^r*2^(64 -r)) (d/2^r)=V a b c d/(2^r*1):=by
 have p:=Zu r
 have sp:=Xd r (by omega)
 have ma:=Int.mul_ediv_add_emod a (2^r)
 have na:=Int.emod_nonneg a (show (2:Int)^r≠0 by omega)
 have oa:=Int.emod_lt_of_pos a p
 have mb:=Int.mul_ediv_add_emod b (2^r)
 have nb:=Int.emod_nonneg b (show (2:Int)^r≠0 by omega)
 have ob:=Int.emod_lt_of_pos b p
 have mc:=Int.mul_ediv_add_emod c (2^r)
 have nc:=Int.emod_nonneg c (show (2:Int)^r≠0 by omega)
 have oc:=Int.emod_lt_of_pos c p
 have md:=Int.mul_ediv_add_emod d (2^r)
 have nd:=Int.emod_nonneg d (show (2:Int)^r≠0 by omega)
 have od:=Int.emod_lt_of_pos d p
 obtain⟨a1,a2⟩:=ha
 obtain⟨b1,b2⟩:=hb
 obtain⟨c1,c2⟩:=hc
 obtain⟨d1,d2⟩:=hd
 refine(div_of _ _ _ (a%2^r*1) (by omega) ?_ (by omega) (by omega)).symm
 have g: ∀u v:Int,(u+v*2^(64 -r))*2^r=2^r*u+v*18446744073709551616:=fun u v=>by
  rw[Int.add_mul,Int.mul_assoc,Int.mul_comm (2^(64 -r):Int),sp,Int.mul_comm u]
 have gd:(d/2^r)*2^r=2^r*(d/2^r):=Int.mul_comm _ _
 rw[<-Int.mul_assoc,Ue]
 simp only[g,gd,Int.zero_mul]
 generalize (2:Int)^r*(a/2^r)=qa at *
 generalize (2:Int)^r*(b/2^r)=qb at *
 generalize (2:Int)^r*(c/2^r)=qc at *
 generalize (2:Int)^r*(d/2^r)=qd at *
 generalize a%2^r=la at *
 generalize b%2^r=lb at *
 generalize c%2^r=lc at *
 generalize d%2^r=ld at *
 unfold V;omega
theorem low_val1 (a b c d:Int) (r:Nat) (h:r<=63) (ha:W64 a) (hb:W64 b) (hc:W64 c) (hd:W64 d):V (b/2^r+c%2^r*2^(64 -r)) (c/2^r+d%2^r*2^(64 -r)) (d/2^r) 0=V a b c d/(2^r*18446744073709551616):=by
 have p:=Zu r
 have sp:=Xd r (by omega)
 have ma:=Int.mul_ediv_add_emod a (2^r)
 have na:=Int.emod_nonneg a (show (2:Int)^r≠0 by omega)
 have oa:=Int.emod_lt_of_pos a p
 have mb:=Int.mul_ediv_add_emod b (2^r)
 have nb:=Int.emod_nonneg b (show (2:Int)^r≠0 by omega)
 have ob:=Int.emod_lt_of_pos b p
 have mc:=Int.mul_ediv_add_emod c (2^r)
 have nc:=Int.emod_nonneg c (show (2:Int)^r≠0 by omega)
 have oc:=Int.emod_lt_of_pos c p
 have md:=Int.mul_ediv_add_emod d (2^r)
 have nd:=Int.emod_nonneg d (show (2:Int)^r≠0 by omega)
 have od:=Int.emod_lt_of_pos d p
 obtain⟨a1,a2⟩:=ha
 obtain⟨b1,b2⟩:=hb
 obtain⟨c1,c2⟩:=hc
 obtain⟨d1,d2⟩:=hd
 refine(div_of _ _ _ (a*1+b%2^r*18446744073709551616) (by omega) ?_ (by omega) (by omega)).symm
 have g: ∀u v:Int,(u+v*2^(64 -r))*2^r=2^r*u+v*18446744073709551616:=fun u v=>by
  rw[Int.add_mul,Int.mul_assoc,Int.mul_comm (2^(64 -r):Int),sp,Int.mul_comm u]
 have gd:(d/2^r)*2^r=2^r*(d/2^r):=Int.mul_comm _ _
 rw[<-Int.mul_assoc,Ue]
 simp only[g,gd,Int.zero_mul]
 generalize (2:Int)^r*(a/2^r)=qa at *
 generalize (2:Int)^r*(b/2^r)=qb at *
 generalize (2:Int)^r*(c/2^r)=qc at *
 generalize (2:Int)^r*(d/2^r)=qd at *
 generalize a%2^r=la at *
 generalize b%2^r=lb at *
 generalize c%2^r=lc at *
 generalize d%2^r=ld at *
 unfold V;omega
theorem low_val2 (a b c d:Int) (r:Nat) (h:r<=63) (ha:W64 a) (hb:W64 b) (hc:W64 c) (hd:W64 d):V (c/2^r+d%2^r*2^(64 -r)) (d/2^r) 0 0=V a b c d/(2^r*0x100000000000000000000000000000000):=by
 have p:=Zu r
 have sp:=Xd r (by omega)
 have ma:=Int.mul_ediv_add_emod a (2^r)
 have na:=Int.emod_nonneg a (show (2:Int)^r≠0 by omega)
 have oa:=Int.emod_lt_of_pos a p
 have mb:=Int.mul_ediv_add_emod b (2^r)
 have nb:=Int.emod_nonneg b (show (2:Int)^r≠0 by omega)
 have ob:=Int.emod_lt_of_pos b p
 have mc:=Int.mul_ediv_add_emod c (2^r)
 have nc:=Int.emod_nonneg c (show (2:Int)^r≠0 by omega)
 have oc:=Int.emod_lt_of_pos c p
 have md:=Int.mul_ediv_add_emod d (2^r)
 have nd:=Int.emod_nonneg d (show (2:Int)^r≠0 by omega)
 have od:=Int.emod_lt_of_pos d p
 obtain⟨a1,a2⟩:=ha
 obtain⟨b1,b2⟩:=hb
 obtain⟨c1,c2⟩:=hc
 obtain⟨d1,d2⟩:=hd
 refine(div_of _ _ _ (a*1+b*18446744073709551616+c%2^r*0x100000000000000000000000000000000) (by omega) ?_ (by omega) (by omega)).symm
 have g: ∀u v:Int,(u+v*2^(64 -r))*2^r=2^r*u+v*18446744073709551616:=fun u v=>by
  rw[Int.add_mul,Int.mul_assoc,Int.mul_comm (2^(64 -r):Int),sp,Int.mul_comm u]
 have gd:(d/2^r)*2^r=2^r*(d/2^r):=Int.mul_comm _ _
 rw[<-Int.mul_assoc,Ue]
 simp only[g,gd,Int.zero_mul]
 generalize (2:Int)^r*(a/2^r)=qa at *
 generalize (2:Int)^r*(b/2^r)=qb at *
 generalize (2:Int)^r*(c/2^r)=qc at *
 generalize (2:Int)^r*(d/2^r)=qd at *
 generalize a%2^r=la at *
 generalize b%2^r=lb at *
 generalize c%2^r=lc at *
 generalize d%2^r=ld at *
 unfold V;omega
theorem low_val3 (a b c d:Int) (r:Nat) (h:r<=63) (ha:W64 a) (hb:W64 b) (hc:W64 c) (hd:W64 d):V (d/2^r) 0 0 0=V a b c d/(2^r*0x1000000000000000000000000000000000000000000000000):=by
 have p:=Zu r
 have sp:=Xd r (by omega)
 have ma:=Int.mul_ediv_add_emod a (2^r)
 have na:=Int.emod_nonneg a (show (2:Int)^r≠0 by omega)
 have oa:=Int.emod_lt_of_pos a p
 have mb:=Int.mul_ediv_add_emod b (2^r)
 have nb:=Int.emod_nonneg b (show (2:Int)^r≠0 by omega)
 have ob:=Int.emod_lt_of_pos b p
 have mc:=Int.mul_ediv_add_emod c (2^r)
 have nc:=Int.emod_nonneg c (show (2:Int)^r≠0 by omega)
 have oc:=Int.emod_lt_of_pos c p
 have md:=Int.mul_ediv_add_emod d (2^r)
 have nd:=Int.emod_nonneg d (show (2:Int)^r≠0 by omega)
 have od:=Int.emod_lt_of_pos d p
 obtain⟨a1,a2⟩:=ha
 obtain⟨b1,b2⟩:=hb
 obtain⟨c1,c2⟩:=hc
 obtain⟨d1,d2⟩:=hd
 refine(div_of _ _ _ (a*1+b*18446744073709551616+c*0x100000000000000000000000000000000+d%2^r*0x1000000000000000000000000000000000000000000000000) (by omega) ?_ (by omega) (by omega)).symm
 have g: ∀u v:Int,(u+v*2^(64 -r))*2^r=2^r*u+v*18446744073709551616:=fun u v=>by
  rw[Int.add_mul,Int.mul_assoc,Int.mul_comm (2^(64 -r):Int),sp,Int.mul_comm u]
 have gd:(d/2^r)*2^r=2^r*(d/2^r):=Int.mul_comm _ _
 rw[<-Int.mul_assoc,Ue]
 simp only[g,gd,Int.zero_mul]
 generalize (2:Int)^r*(a/2^r)=qa at *
 generalize (2:Int)^r*(b/2^r)=qb at *
 generalize (2:Int)^r*(c/2^r)=qc at *
 generalize (2:Int)^r*(d/2^r)=qd at *
 generalize a%2^r=la at *
 generalize b%2^r=lb at *
 generalize c%2^r=lc at *
 generalize d%2^r=ld at *
 unfold V;omega
theorem lower_0 (a b c d n r:Int) (w:World) (h1:0<=n) (h2:n<=255) (hk:n/64=0) (hr:n%64=r) (r1:0<=r) (r2:r<=63):
 CC 133 #[A4 a b c d,.int .i64 n] w (A4 (bits .or .u64 (a/2^r.toNat) (IntKind.u64.wrap (b*2^(64 -r).toNat))) (bits .or .u64 (b/2^r.toNat) (IntKind.u64.wrap (c*2^(64 -r).toNat))) (bits .or .u64 (c/2^r.toNat) (IntKind.u64.wrap (d*2^(64 -r).toNat))) (d/2^r.toNat)):=by
 go_enter Tryz.func133,Tryz.ntmps133
 go_wp2
 refine wp_loop_rounds 5 ?_
 rw[rounds_succ]
 go_wp2
 go_region
 go_wp2
 rw[rounds_succ]
 go_wp2
 go_region
 go_wp2
 rw[rounds_succ]
 go_wp2
 go_region
 go_wp2
 rw[rounds_succ]
 go_wp2
 rw[rounds_succ]
 go_wp2
 refine bodyPost_ret (v:=A4 (bits .or .u64 (a/2^r.toNat) (IntKind.u64.wrap (b*2^(64 -r).toNat))) (bits .or .u64 (b/2^r.toNat) (IntKind.u64.wrap (c*2^(64 -r).toNat))) (bits .or .u64 (c/2^r.toNat) (IntKind.u64.wrap (d*2^(64 -r).toNat))) (d/2^r.toNat)) (by simp[results,Tryz.results133,go_sem]) rfl ⟨rfl,?_⟩
 iterate 6 all_goals (go_grown<;>try with_reducible refine below_drewN ?_ _)
theorem lower_raw0 (a b c d n r:Int) (ha:W64 a) (hb:W64 b) (hc:W64 c) (hd:W64 d) (h1:0<=n) (hk:n/64=0) (hr:n%64=r) (r1:0<=r) (r2:r<=63):A4 (bits .or .u64 (a/2^r.toNat) (IntKind.u64.wrap (b*2^(64 -r).toNat))) (bits .or .u64 (b/2^r.toNat) (IntKind.u64.wrap (c*2^(64 -r).toNat))) (bits .or .u64 (c/2^r.toNat) (IntKind.u64.wrap (d*2^(64 -r).toNat))) (d/2^r.toNat)=NV (V a b c d/2^n.toNat):=by
 have hr':r.toNat<=63:=by omega
 have hp:(2:Int)^n.toNat=2^r.toNat*1:=by
  rw[show n.toNat=r.toNat+0 by omega,Int.pow_add];rfl
 rw[hp,<-low_val0 a b c d r.toNat hr' ha hb hc hd]
 obtain⟨e0,e1,e2,e3,_⟩:=D_of (V (a/2^r.toNat+b%2^r.toNat*2^(64 -r.toNat)) (b/2^r.toNat+c%2^r.toNat*2^(64 -r.toNat)) (c/2^r.toNat+d%2^r.toNat*2^(64 -r.toNat)) (d/2^r.toNat)) _ _ _ _ 0 (Yu a b r.toNat hr' ha hb).2 (Yu b c r.toNat hr' hb hc).2 (Yu c d r.toNat hr' hc hd).2 (low_top d r.toNat hd) (by omega)
 rw[NV,e0,e1,e2,e3,toNat_s64 r r1,(Yu a b r.toNat hr' ha hb).1,(Yu b c r.toNat hr' hb hc).1,(Yu c d r.toNat hr' hc hd).1]
theorem lower_1 (a b c d n r:Int) (w:World) (h1:0<=n) (h2:n<=255) (hk:n/64=1) (hr:n%64=r) (r1:0<=r) (r2:r<=63):
 CC 133 #[A4 a b c d,.int .i64 n] w (A4 (bits .or .u64 (b/2^r.toNat) (IntKind.u64.wrap (c*2^(64 -r).toNat))) (bits .or .u64 (c/2^r.toNat) (IntKind.u64.wrap (d*2^(64 -r).toNat))) (d/2^r.toNat) 0):=by
 go_enter Tryz.func133,Tryz.ntmps133
 go_wp2
 refine wp_loop_rounds 4 ?_
 rw[rounds_succ]
 go_wp2
 go_region
 go_wp2
 rw[rounds_succ]
 go_wp2
 go_region
 go_wp2
 rw[rounds_succ]
 go_wp2
 rw[rounds_succ]
 go_wp2
 refine bodyPost_ret (v:=A4 (bits .or .u64 (b/2^r.toNat) (IntKind.u64.wrap (c*2^(64 -r).toNat))) (bits .or .u64 (c/2^r.toNat) (IntKind.u64.wrap (d*2^(64 -r).toNat))) (d/2^r.toNat) 0) (by simp[results,Tryz.results133,go_sem]) rfl ⟨rfl,?_⟩
 iterate 6 all_goals (go_grown<;>try with_reducible refine below_drewN ?_ _)
theorem lower_raw1 (a b c d n r:Int) (ha:W64 a) (hb:W64 b) (hc:W64 c) (hd:W64 d) (h1:0<=n) (hk:n/64=1) (hr:n%64=r) (r1:0<=r) (r2:r<=63):A4 (bits .or .u64 (b/2^r.toNat) (IntKind.u64.wrap (c*2^(64 -r).toNat))) (bits .or .u64 (c/2^r.toNat) (IntKind.u64.wrap (d*2^(64 -r).toNat))) (d/2^r.toNat) 0=NV (V a b c d/2^n.toNat):=by
 have hr':r.toNat<=63:=by omega
 have hp:(2:Int)^n.toNat=2^r.toNat*18446744073709551616:=by
  rw[show n.toNat=r.toNat+64 by omega,Int.pow_add];rfl
 rw[hp,<-low_val1 a b c d r.toNat hr' ha hb hc hd]
 obtain⟨e0,e1,e2,e3,_⟩:=D_of (V (b/2^r.toNat+c%2^r.toNat*2^(64 -r.toNat)) (c/2^r.toNat+d%2^r.toNat*2^(64 -r.toNat)) (d/2^r.toNat) 0) _ _ _ _ 0 (Yu b c r.toNat hr' hb hc).2 (Yu c d r.toNat hr' hc hd).2 (low_top d r.toNat hd) W_0 (by omega)
 rw[NV,e0,e1,e2,e3,toNat_s64 r r1,(Yu b c r.toNat hr' hb hc).1,(Yu c d r.toNat hr' hc hd).1]
theorem lower_2 (a b c d n r:Int) (w:World) (h1:0<=n) (h2:n<=255) (hk:n/64=2) (hr:n%64=r) (r1:0<=r) (r2:r<=63):
 CC 133 #[A4 a b c d,.int .i64 n] w (A4 (bits .or .u64 (c/2^r.toNat) (IntKind.u64.wrap (d*2^(64 -r).toNat))) (d/2^r.toNat) 0 0):=by
 go_enter Tryz.func133,Tryz.ntmps133
 go_wp2
 refine wp_loop_rounds 3 ?_
 rw[rounds_succ]
 go_wp2
 go_region
 go_wp2
 rw[rounds_succ]
 go_wp2
 rw[rounds_succ]
 go_wp2
 refine bodyPost_ret (v:=A4 (bits .or .u64 (c/2^r.toNat) (IntKind.u64.wrap (d*2^(64 -r).toNat))) (d/2^r.toNat) 0 0) (by simp[results,Tryz.results133,go_sem]) rfl ⟨rfl,?_⟩
 iterate 6 all_goals (go_grown<;>try with_reducible refine below_drewN ?_ _)
theorem lower_raw2 (a b c d n r:Int) (ha:W64 a) (hb:W64 b) (hc:W64 c) (hd:W64 d) (h1:0<=n) (hk:n/64=2) (hr:n%64=r) (r1:0<=r) (r2:r<=63):A4 (bits .or .u64 (c/2^r.toNat) (IntKind.u64.wrap (d*2^(64 -r).toNat))) (d/2^r.toNat) 0 0=NV (V a b c d/2^n.toNat):=by
 have hr':r.toNat<=63:=by omega
 have hp:(2:Int)^n.toNat=2^r.toNat*0x100000000000000000000000000000000:=by
  rw[show n.toNat=r.toNat+128 by omega,Int.pow_add];rfl
 rw[hp,<-low_val2 a b c d r.toNat hr' ha hb hc hd]
 obtain⟨e0,e1,e2,e3,_⟩:=D_of (V (c/2^r.toNat+d%2^r.toNat*2^(64 -r.toNat)) (d/2^r.toNat) 0 0) _ _ _ _ 0 (Yu c d r.toNat hr' hc hd).2 (low_top d r.toNat hd) W_0 W_0 (by omega)
 rw[NV,e0,e1,e2,e3,toNat_s64 r r1,(Yu c d r.toNat hr' hc hd).1]
theorem lower_3 (a b c d n r:Int) (w:World) (h1:0<=n) (h2:n<=255) (hk:n/64=3) (hr:n%64=r) (r1:0<=r) (r2:r<=63):
 CC 133 #[A4 a b c d,.int .i64 n] w (A4 (d/2^r.toNat) 0 0 0):=by
 go_enter Tryz.func133,Tryz.ntmps133
 go_wp2
 refine wp_loop_rounds 2 ?_
 rw[rounds_succ]
 go_wp2
 rw[rounds_succ]
 go_wp2
 refine bodyPost_ret (v:=A4 (d/2^r.toNat) 0 0 0) (by simp[results,Tryz.results133,go_sem]) rfl ⟨rfl,?_⟩
 iterate 6 all_goals (go_grown<;>try with_reducible refine below_drewN ?_ _)
theorem lower_raw3 (a b c d n r:Int) (ha:W64 a) (hb:W64 b) (hc:W64 c) (hd:W64 d) (h1:0<=n) (hk:n/64=3) (hr:n%64=r) (r1:0<=r) (r2:r<=63):A4 (d/2^r.toNat) 0 0 0=NV (V a b c d/2^n.toNat):=by
 have hr':r.toNat<=63:=by omega
 have hp:(2:Int)^n.toNat=2^r.toNat*0x1000000000000000000000000000000000000000000000000:=by
  rw[show n.toNat=r.toNat+192 by omega,Int.pow_add];rfl
 rw[hp,<-low_val3 a b c d r.toNat hr' ha hb hc hd]
 obtain⟨e0,e1,e2,e3,_⟩:=D_of (V (d/2^r.toNat) 0 0 0) _ _ _ _ 0 (low_top d r.toNat hd) W_0 W_0 W_0 (by omega)
 rw[NV,e0,e1,e2,e3]
theorem lower_any (a b c d n:Int) (w:World) (ha:W64 a) (hb:W64 b) (hc:W64 c) (hd:W64 d) (h1:0<=n) (h2:n<=255):
 CC 133 #[A4 a b c d,.int .i64 n] w (NV (V a b c d/2^n.toNat)):=by
 have hcs:n/64=0\/n/64=1\/n/64=2\/n/64=3:=by omega
 rcases hcs with hk | hk | hk | hk
 ·rw[<-lower_raw0 a b c d n (n%64) ha hb hc hd h1 hk rfl (by omega) (by omega)]
  exact lower_0 a b c d n (n%64) w h1 h2 hk rfl (by omega) (by omega)
 ·rw[<-lower_raw1 a b c d n (n%64) ha hb hc hd h1 hk rfl (by omega) (by omega)]
  exact lower_1 a b c d n (n%64) w h1 h2 hk rfl (by omega) (by omega)
 ·rw[<-lower_raw2 a b c d n (n%64) ha hb hc hd h1 hk rfl (by omega) (by omega)]
  exact lower_2 a b c d n (n%64) w h1 h2 hk rfl (by omega) (by omega)
 ·rw[<-lower_raw3 a b c d n (n%64) ha hb hc hd h1 hk rfl (by omega) (by omega)]
  exact lower_3 a b c d n (n%64) w h1 h2 hk rfl (by omega) (by omega)
end Go.Proofs.YtbbohmgjphpfeaaGreatDoor
