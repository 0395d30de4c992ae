import Derived.Test.YtgieoghechekpaaDoorW2
import Derived.Shelf.Bits.Mul64
namespace Go.Proofs.YtgieoghechekpaaDoor
set_option linter.unusedVariables false
set_option linter.unusedSimpArgs false
set_option maxRecDepth 100000
set_option maxHeartbeats 4000000
section
open Go.RowKit
theorem Widen_any(a b c d:Int)(w:World):
 CC 44 #[A4 a b c d] w (A8 a b c d 0 0 0 0):=by
 have hcp:(Builtin.copy_ #[119,119] 3 #[.slice (some ⟨w.heap.size+1+1,0,none⟩) 8 8,.slice (some ⟨w.heap.size,0,none⟩) 4 4]).run Tryd.prog
  (((w.alloc (.cells #[.int .u64 a,.int .u64 b,.int .u64 c,.int .u64 d] 26)).alloc (.cells #[.int .u64 0,.int .u64 0,.int .u64 0,.int .u64 0,.int .u64 0,.int .u64 0,.int .u64 0,.int .u64 0] 91)).alloc (.cells #[.int .u64 0,.int .u64 0,.int .u64 0,.int .u64 0,.int .u64 0,.int .u64 0,.int .u64 0,.int .u64 0] 91)).drew=
  .ok (.int .i64 4) (((w.alloc (.cells #[.int .u64 a,.int .u64 b,.int .u64 c,.int .u64 d] 26)).alloc (.cells #[.int .u64 0,.int .u64 0,.int .u64 0,.int .u64 0,.int .u64 0,.int .u64 0,.int .u64 0,.int .u64 0] 91)).alloc (.cells #[.int .u64 a,.int .u64 b,.int .u64 c,.int .u64 d,.int .u64 0,.int .u64 0,.int .u64 0,.int .u64 0] 91)).drew:=by
  rw[run_copy_cells _ 119 119 3 24 _ 0 8 8 _ 4 4 [.int .u64 a,.int .u64 b,.int .u64 c,.int .u64 d] Tryd.underlying119 (by kernel_rfl) rfl ?h1 ?h2 ?h3 ?h4]
  case h1=>
   intro j v hj
   match j,hj with
   | 0,hj=>simp at hj;subst hj;simp[Addr.add,go_sem]
   | 1,hj=>simp at hj;subst hj;simp[Addr.add,go_sem]
   | 2,hj=>simp at hj;subst hj;simp[Addr.add,go_sem]
   | 3,hj=>simp at hj;subst hj;simp[Addr.add,go_sem]
  case h2=>
   intro j hj
   have hj':j=0\/j=1\/j=2\/j=3:=by simp at hj;omega
   rcases hj' with rfl | rfl | rfl | rfl<;>simp[go_sem]
  case h3=>
   intro j hj
   have hj':j=0\/j=1\/j=2\/j=3:=by simp at hj;omega
   rcases hj' with rfl | rfl | rfl | rfl<;>simp[go_sem]
  case h4=>intro v hv;simp at hv;rcases hv with rfl | rfl | rfl | rfl<;>rfl
  simp[World.setCells,go_sem,goInt]
 go_enter Tryd.func44,Tryd.ntmps44
 go_wp2
 go_region
 go_wp2
 refine bodyPost_ret (v:=A8 a b c d 0 0 0 0) (by simp[results,Tryd.results44,go_sem]) rfl ⟨rfl,?_⟩
 go_grown
end
section
open Go.RowKit Go.Shelf
def rMul:Ren:=⟨fun _=>70,fun n=>if n=46 then 136 else 24,fun n=>n⟩
theorem laysMul:Lays.n264 Tryd.prog rMul where
 mixed:=by kernel_rfl
 f264:=by kernel_rfl
 t46:=by kernel_rfl
 a46:=fun _=>by kernel_rfl
 z46:=fun _=>by kernel_rfl
 v46:=fun _=>by kernel_rfl
 t53:=by kernel_rfl
 a53:=fun _=>by kernel_rfl
 z53:=fun _=>by kernel_rfl
 v53:=fun _=>by kernel_rfl
theorem mul64_nat(x y:Nat)(hx:x<18446744073709551616)(hy:y<18446744073709551616)(w:World):
 Calls Tryd.prog 70 #[.int .u64 x,.int .u64 y] w fun e w'=>e= .returned (.tuple #[.int .u64 ((x*y/18446744073709551616:Nat):Int),.int .u64 ((x*y%18446744073709551616:Nat):Int)])/\w'=w:=
 Any.bits_Mul64 laysMul x y hx hy w
theorem Yp(x y:Int)(hx:W64 x)(hy:W64 y)(w:World):
 Calls Tryd.prog 70 #[.int .u64 x,.int .u64 y] w fun e w'=>e= .returned (.tuple #[.int .u64 (x*y/18446744073709551616),.int .u64 (x*y%18446744073709551616)])/\w'=w:=by
 obtain⟨x1,x2⟩:=hx;obtain⟨y1,y2⟩:=hy
 obtain⟨x,rfl⟩:=Int.eq_ofNat_of_zero_le x1
 obtain⟨y,rfl⟩:=Int.eq_ofNat_of_zero_le y1
 have h:=mul64_nat x y (by omega) (by omega) w
 have e1:((x*y/18446744073709551616:Nat):Int)=(x:Int)*(y:Int)/18446744073709551616:=by simp
 have e2:((x*y%18446744073709551616:Nat):Int)=(x:Int)*(y:Int)%18446744073709551616:=by simp
 rw[e1,e2] at h
 exact h
end
section
open Go.RowKit
theorem Yz(a b c d p:Int):V a b c d*p=a*p+b*p*18446744073709551616+c*p*340282366920938463463374607431768211456+d*p*6277101735386680763835789423207666416102355444464034512896:=by
 unfold V
 rw[Int.add_mul,Int.add_mul,Int.add_mul,Int.mul_right_comm b,Int.mul_right_comm c,Int.mul_right_comm d]
theorem W_hi(x p:Int)(hx:W64 x)(hp:W64 p):W64 (x*p/18446744073709551616):=by
 obtain⟨x1,x2⟩:=hx;obtain⟨p1,p2⟩:=hp
 have h0:0<=x*p:=Int.mul_nonneg x1 p1
 have h1:x*p<=18446744073709551615*18446744073709551615:=Int.mul_le_mul (by omega) (by omega) p1 (by omega)
 unfold W64;omega
theorem W_lo(x:Int):W64 (x%18446744073709551616):=by unfold W64;omega
theorem W_0:W64 0:=by unfold W64;omega
theorem scale_spec(a b c d p:Int)(ha:W64 a)(hb:W64 b)(hc:W64 c)(hd:W64 d)(hp:W64 p):
 D0 (V a b c d*p)=D0 (V (a*p%18446744073709551616) (b*p%18446744073709551616) (c*p%18446744073709551616) (d*p%18446744073709551616)+V 0 (a*p/18446744073709551616) (b*p/18446744073709551616) (c*p/18446744073709551616))/\D1 (V a b c d*p)=D1 (V (a*p%18446744073709551616) (b*p%18446744073709551616) (c*p%18446744073709551616) (d*p%18446744073709551616)+V 0 (a*p/18446744073709551616) (b*p/18446744073709551616) (c*p/18446744073709551616))/\D2 (V a b c d*p)=D2 (V (a*p%18446744073709551616) (b*p%18446744073709551616) (c*p%18446744073709551616) (d*p%18446744073709551616)+V 0 (a*p/18446744073709551616) (b*p/18446744073709551616) (c*p/18446744073709551616))/\D3 (V a b c d*p)=D3 (V (a*p%18446744073709551616) (b*p%18446744073709551616) (c*p%18446744073709551616) (d*p%18446744073709551616)+V 0 (a*p/18446744073709551616) (b*p/18446744073709551616) (c*p/18446744073709551616))/\D4 (V a b c d*p)=(d*p/18446744073709551616)+D4 (V (a*p%18446744073709551616) (b*p%18446744073709551616) (c*p%18446744073709551616) (d*p%18446744073709551616)+V 0 (a*p/18446744073709551616) (b*p/18446744073709551616) (c*p/18446744073709551616))/\0<=D4 (V (a*p%18446744073709551616) (b*p%18446744073709551616) (c*p%18446744073709551616) (d*p%18446744073709551616)+V 0 (a*p/18446744073709551616) (b*p/18446744073709551616) (c*p/18446744073709551616))/\(d*p/18446744073709551616)+D4 (V (a*p%18446744073709551616) (b*p%18446744073709551616) (c*p%18446744073709551616) (d*p%18446744073709551616)+V 0 (a*p/18446744073709551616) (b*p/18446744073709551616) (c*p/18446744073709551616))<18446744073709551616:=by
 have hd':=W_hi d p hd hp
 obtain⟨a1,a2⟩:=ha;obtain⟨b1,b2⟩:=hb;obtain⟨c1,c2⟩:=hc;obtain⟨d1,d2⟩:=hd;obtain⟨p1,p2⟩:=hp
 rw[Yz]
 have q0:0<=a*p:=Int.mul_nonneg a1 p1
 have q1:0<=b*p:=Int.mul_nonneg b1 p1
 have q2:0<=c*p:=Int.mul_nonneg c1 p1
 have q3:0<=d*p:=Int.mul_nonneg d1 p1
 have m: ∀x:Int,0<=x->x<18446744073709551616->x*p<=18446744073709551615*18446744073709551615:=fun x h1 h2=>Int.mul_le_mul (by omega) (by omega) p1 (by omega)
 have m0:=m a a1 a2;have m1:=m b b1 b2;have m2:=m c c1 c2;have m3:=m d d1 d2
 generalize a*p=A at *
 generalize b*p=B at *
 generalize c*p=C at *
 generalize d*p=D at *
 unfold D0 D1 D2 D3 D4 V
 refine⟨?_,?_,?_,?_,?_,?_,?_⟩<;>omega
theorem Ya(a b c d p:Int)(w:World)(ha:W64 a)(hb:W64 b)(hc:W64 c)(hd:W64 d)(hp:W64 p):
 CC 55 #[A4 a b c d,.int .u64 p] w (.tuple #[NV (V a b c d*p),.int .u64 (D4 (V a b c d*p))]):=by
 obtain⟨e0,e1,e2,e3,e4,e5,e6⟩:=scale_spec a b c d p ha hb hc hd hp
 have HE:Hid (Ending.returned (.tuple #[NV (V a b c d*p),.int .u64 (D4 (V a b c d*p))])=Ending.returned (.tuple #[NV (V (a*p%18446744073709551616) (b*p%18446744073709551616) (c*p%18446744073709551616) (d*p%18446744073709551616)+V 0 (a*p/18446744073709551616) (b*p/18446744073709551616) (c*p/18446744073709551616)),.int .u64 ((d*p/18446744073709551616)+D4 (V (a*p%18446744073709551616) (b*p%18446744073709551616) (c*p%18446744073709551616) (d*p%18446744073709551616)+V 0 (a*p/18446744073709551616) (b*p/18446744073709551616) (c*p/18446744073709551616)))])):=by
  unfold NV;rw[e0,e1,e2,e3,e4];rfl
 have hd0:=(W_hi d p hd hp).1
 clear e0 e1 e2 e3 e4
 go_enter Tryd.func55,Tryd.ntmps55
 go_wp2
 refine wp_loop_rounds 5 ?_
 rw[rounds_succ]
 go_wp2_with fail
 refine(Yp a p ha hp _).mono ?_
 rintro e w' ⟨rfl,rfl⟩
 go_wp2
 rw[rounds_succ]
 go_wp2_with fail
 refine(Yp b p hb hp _).mono ?_
 rintro e w' ⟨rfl,rfl⟩
 go_wp2
 rw[rounds_succ]
 go_wp2_with fail
 refine(Yp c p hc hp _).mono ?_
 rintro e w' ⟨rfl,rfl⟩
 go_wp2
 rw[rounds_succ]
 go_wp2_with fail
 refine(Yp d p hd hp _).mono ?_
 rintro e w' ⟨rfl,rfl⟩
 go_wp2
 rw[rounds_succ]
 go_wp2_with fail
 refine(Yn _ _ _ _ _ _ _ _ _ (W_lo _) (W_lo _) (W_lo _) (W_lo _) W_0 (W_hi a p ha hp) (W_hi b p hb hp) (W_hi c p hc hp)).mono ?_
 rintro e w1 ⟨rfl,hB⟩
 obtain⟨hcell,hfroz,hsize⟩:=bcell hB
 simp only[World.size_alloc] at hsize hcell hfroz
 have z0:w.heap.size<w1.heap.size:=by omega
 have z1:w.heap.size+1<w1.heap.size:=by omega
 have z2:w.heap.size+1+1<w1.heap.size:=by omega
 have z3:w.heap.size+1+1+1<w1.heap.size:=by omega
 have hB':Bw w w1:=Below.trans (by go_grown) (hB.mono (by simp;omega))
 clear hB
 have hw:IntKind.u64.wrap ((d*p/18446744073709551616)+D4 (V (a*p%18446744073709551616) (b*p%18446744073709551616) (c*p%18446744073709551616) (d*p%18446744073709551616)+V 0 (a*p/18446744073709551616) (b*p/18446744073709551616) (c*p/18446744073709551616)))=(d*p/18446744073709551616)+D4 (V (a*p%18446744073709551616) (b*p%18446744073709551616) (c*p%18446744073709551616) (d*p%18446744073709551616)+V 0 (a*p/18446744073709551616) (b*p/18446744073709551616) (c*p/18446744073709551616)):=by rw[IntKind.wrap_u64];omega
 have hs1:=hB'.size
 go_wp2
 go_region
 go_wp2
 refine bodyPost_ret (v:= .tuple #[NV (V (a*p%18446744073709551616) (b*p%18446744073709551616) (c*p%18446744073709551616) (d*p%18446744073709551616)+V 0 (a*p/18446744073709551616) (b*p/18446744073709551616) (c*p/18446744073709551616)),.int .u64 ((d*p/18446744073709551616)+D4 (V (a*p%18446744073709551616) (b*p%18446744073709551616) (c*p%18446744073709551616) (d*p%18446744073709551616)+V 0 (a*p/18446744073709551616) (b*p/18446744073709551616) (c*p/18446744073709551616)))]) (by simp[results,Tryd.results55,go_sem,hcell,z0,z1,z2,z3,hw]) rfl ⟨HE.out.symm,?_⟩
 iterate 6 all_goals (go_grown<;>try with_reducible refine below_drewN ?_ _)
end
end Go.Proofs.YtgieoghechekpaaDoor
