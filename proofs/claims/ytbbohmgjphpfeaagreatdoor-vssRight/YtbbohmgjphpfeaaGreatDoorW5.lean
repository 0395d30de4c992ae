import Derived.Test.YtbbohmgjphpfeaaGreatDoorW2
import Derived.Shelf.Bits.Mul64
namespace Go.Proofs.YtbbohmgjphpfeaaGreatDoor
set_option linter.unusedVariables false
set_option linter.unusedSimpArgs false
set_option maxRecDepth 100000
set_option maxHeartbeats 4000000
section
open Go.RowKit
theorem Tryz.info22:(Tryz.prog.info? 22).map (fun i=>(i.zero,i.size,i.bytes))=some (some (.int .u64 0),1,8):=by kernel_rfl
theorem Widen_any (a b c d:Int) (w:World):
 CC 91 #[A4 a b c d] w (A8 a b c d 0 0 0 0):=by
 have hcp:(Builtin.copy_ #[120,120] 3 #[.slice (some ⟨w.heap.size+1+1,0,none⟩) 8 8,.slice (some ⟨w.heap.size,0,none⟩) 4 4]).run Tryz.prog
  (((w.alloc (.cells #[.int .u64 a,.int .u64 b,.int .u64 c,.int .u64 d] 24)).alloc (.cells #[.int .u64 0,.int .u64 0,.int .u64 0,.int .u64 0,.int .u64 0,.int .u64 0,.int .u64 0,.int .u64 0] 86)).alloc (.cells #[.int .u64 0,.int .u64 0,.int .u64 0,.int .u64 0,.int .u64 0,.int .u64 0,.int .u64 0,.int .u64 0] 86)).drew=
  .ok (.int .i64 4) (((w.alloc (.cells #[.int .u64 a,.int .u64 b,.int .u64 c,.int .u64 d] 24)).alloc (.cells #[.int .u64 0,.int .u64 0,.int .u64 0,.int .u64 0,.int .u64 0,.int .u64 0,.int .u64 0,.int .u64 0] 86)).alloc (.cells #[.int .u64 a,.int .u64 b,.int .u64 c,.int .u64 d,.int .u64 0,.int .u64 0,.int .u64 0,.int .u64 0] 86)).drew:=by
  rw[run_copy_cells _ 120 120 3 22 _ 0 8 8 _ 4 4 [.int .u64 a,.int .u64 b,.int .u64 c,.int .u64 d] Tryz.underlying120 (by kernel_rfl) rfl ?h1 ?h2 ?h3 ?h4]
  case h1=>
   intro j v hj
   match j,hj with
   | 0,hj=>simp at hj;subst hj;simp[Addr.add,go_sem]
   | 1,hj=>simp at hj;subst hj;simp[Addr.add,go_sem]
   | 2,hj=>simp at hj;subst hj;simp[Addr.add,go_sem]
   | 3,hj=>simp at hj;subst hj;simp[Addr.add,go_sem]
  case h2=>
   intro j hj
   have hj':j=0\/j=1\/j=2\/j=3:=by simp at hj;omega
   rcases hj' with rfl | rfl | rfl | rfl<;>simp[go_sem]
  case h3=>
   intro j hj
   have hj':j=0\/j=1\/j=2\/j=3:=by simp at hj;omega
   rcases hj' with rfl | rfl | rfl | rfl<;>simp[go_sem]
  case h4=>intro v hv;simp at hv;rcases hv with rfl | rfl | rfl | rfl<;>rfl
  simp[World.setCells,go_sem,goInt]
 go_enter Tryz.func91,Tryz.ntmps91
 go_wp2
 go_region
 go_wp2
 refine bodyPost_ret (v:=A8 a b c d 0 0 0 0) (by simp[results,Tryz.results91,go_sem]) rfl ⟨rfl,?_⟩
 go_grown
theorem tm32 (x:Int) (h:0<=x):x.tmod 4294967296=x%4294967296:=Int.tmod_eq_emod_of_nonneg h
theorem td32 (x:Int) (h:0<=x) (h2:x<18446744073709551616):IntKind.u64.wrap (x.tdiv 4294967296)=x/4294967296:=by
 rw[Int.tdiv_eq_ediv_of_nonneg h,IntKind.wrap_u64];omega
def dgl (k:Nat) (p q r s:Int):List Value:=match k with
 | 0=>[]
 | 1=>[.int .u64 (p%4294967296),.int .u64 (p/4294967296)]
 | 2=>[.int .u64 (p%4294967296),.int .u64 (p/4294967296),.int .u64 (q%4294967296),.int .u64 (q/4294967296)]
 | 3=>[.int .u64 (p%4294967296),.int .u64 (p/4294967296),.int .u64 (q%4294967296),.int .u64 (q/4294967296),.int .u64 (r%4294967296),.int .u64 (r/4294967296)]
 | _=>[.int .u64 (p%4294967296),.int .u64 (p/4294967296),.int .u64 (q%4294967296),.int .u64 (q/4294967296),.int .u64 (r%4294967296),.int .u64 (r/4294967296),.int .u64 (s%4294967296),.int .u64 (s/4294967296)]
set_option maxHeartbeats 1600000 in
theorem Vh (g:Nat) (p q r s:Int) (w:World) (hC:C4 w g p q r s) (hp:W64 p) (hq:W64 q) (hr:W64 r) (hs:W64 s):
 Calls Tryz.prog 84 #[.slice (some ⟨g,0,none⟩) 4 4] w fun e w'=> ∃b cap,e= .returned (.slice (some ⟨b,0,none⟩) 8 cap)/\w'.ownsRow w.heap.size 22 1 (.slice (some ⟨b,0,none⟩) 8 cap) 8 (dgl 4 p q r s)/\Bw w w':=by
 obtain⟨p1,p2⟩:=hp
 obtain⟨q1,q2⟩:=hq
 obtain⟨r1,r2⟩:=hr
 obtain⟨s1,s2⟩:=hs
 obtain⟨i0,hi0,hz0,hz1,hz2⟩:=info_parts Tryz.info22
 have lg:=World.block_lt_of_cell? w _ hC.1.1
 have hbs: ∀w,(Instr.buildSlice 120 0 #[]).run Tryz.prog w= .ok (.slice (some ⟨w.heap.size,0,none⟩) 0 0) (w.alloc (.cells #[] 22)):=fun _=>by kernel_rfl
 go_enter Tryz.func84,Tryz.ntmps84
 go_wp2
 go_loopw [3,4] (fun v i wr=>Bw w wr/\ ∃(b cap:Nat),(i= .int .i64 0/\v= .slice (some ⟨b,0,none⟩) 0 cap/\wr.ownsRow w.heap.size 22 1 (.slice (some ⟨b,0,none⟩) 0 cap) 0 (dgl 0 p q r s))\/(i= .int .i64 1/\v= .slice (some ⟨b,0,none⟩) 2 cap/\wr.ownsRow w.heap.size 22 1 (.slice (some ⟨b,0,none⟩) 2 cap) 2 (dgl 1 p q r s))\/(i= .int .i64 2/\v= .slice (some ⟨b,0,none⟩) 4 cap/\wr.ownsRow w.heap.size 22 1 (.slice (some ⟨b,0,none⟩) 4 cap) 4 (dgl 2 p q r s))\/(i= .int .i64 3/\v= .slice (some ⟨b,0,none⟩) 6 cap/\wr.ownsRow w.heap.size 22 1 (.slice (some ⟨b,0,none⟩) 6 cap) 6 (dgl 3 p q r s))\/(i= .int .i64 4/\v= .slice (some ⟨b,0,none⟩) 8 cap/\wr.ownsRow w.heap.size 22 1 (.slice (some ⟨b,0,none⟩) 8 cap) 8 (dgl 4 p q r s)))
  (fun _ i _=>4 -(intOf i).toNat)
 case atStart=>
  refine⟨by go_grown,w.heap.size,0,.inl ⟨rfl,rfl,?_⟩⟩
  exact World.ownsRow_made w #[] 0 (Nat.le_refl _) (by simp[maxLen]) rfl
 case round=>
  obtain⟨hB,b,cap,hr⟩:=hrel
  have hC':=hC.below hB lg
  obtain⟨⟨pc0,pc1,pc2,pc3⟩,_⟩:=hC'
  have hsz:=hB.size
  clear hC
  rcases hr with⟨rfl,rfl,hown⟩ | ⟨rfl,rfl,hown⟩ | ⟨rfl,rfl,hown⟩ | ⟨rfl,rfl,hown⟩ | ⟨rfl,rfl,hown⟩
  ·have hlt:=hown.lt b rfl
   have hne:(Value.slice (some ⟨b,0,none⟩) 0 cap).ownBlock≠some g:=by simp[Value.ownBlock];omega
   go_wp2
   go_region_held3 (fun w'=>w'.cell? ⟨g,0,none⟩=some (.int .u64 p)) (first | go_keep | (rw[hgrow.cell_far _ (by simp;omega) (Ne.symm hne)];assumption))
    ((refine step_append_lies _ (by rfl) _ _ _ (by rfl) w.heap.size 22 i0 _ 1 8 Tryz.underlying120 hi0 hz0 hz1 hz2 rfl (by omega) (.slice (some ⟨b,0,none⟩) 0 cap) 0 (dgl 0 p q r s) (by rfl) ((hown.alloc _).drew) ⟨wr.heap.size,0,none⟩ 2 2 [.int .u64 (p.tmod 4294967296),.int .u64 (IntKind.u64.wrap (p.tdiv 4294967296))] (by rfl) (by rfl) (World.news_of_block (cs:=#[.int .u64 (p.tmod 4294967296),.int .u64 (IntKind.u64.wrap (p.tdiv 4294967296))]) (t:=22) (fr:=(0,0)) (heap_alloc_new wr _)) (by simp[Value.oneCell']) (by omega) (by simp[maxLen]) (by omega) (by simp;omega) (wr.heap.size+1) (by simp) ?_;intro gg cap1 w1 hown1 hgrow hat hlt1))
   go_wp2
   go_roundw
   case rel=>
    rw[tm32 p p1,td32 p p1 p2] at hown1
    refine⟨?_,gg,cap1,.inr (.inl ⟨rfl,rfl,hown1⟩)⟩
    exact Below.grown ((hB.alloc hsz _).drew) hgrow (by simp;omega) (by intro k hk;simp[Value.ownBlock] at hk;omega)
   case measure=>simp[intOf]
  ·have hlt:=hown.lt b rfl
   have hne:(Value.slice (some ⟨b,0,none⟩) 2 cap).ownBlock≠some g:=by simp[Value.ownBlock];omega
   go_wp2
   go_region_held3 (fun w'=>w'.cell? ⟨g,1,none⟩=some (.int .u64 q)) (first | go_keep | (rw[hgrow.cell_far _ (by simp;omega) (Ne.symm hne)];assumption))
    ((refine step_append_lies _ (by rfl) _ _ _ (by rfl) w.heap.size 22 i0 _ 1 8 Tryz.underlying120 hi0 hz0 hz1 hz2 rfl (by omega) (.slice (some ⟨b,0,none⟩) 2 cap) 2 (dgl 1 p q r s) (by rfl) ((hown.alloc _).drew) ⟨wr.heap.size,0,none⟩ 2 2 [.int .u64 (q.tmod 4294967296),.int .u64 (IntKind.u64.wrap (q.tdiv 4294967296))] (by rfl) (by rfl) (World.news_of_block (cs:=#[.int .u64 (q.tmod 4294967296),.int .u64 (IntKind.u64.wrap (q.tdiv 4294967296))]) (t:=22) (fr:=(0,0)) (heap_alloc_new wr _)) (by simp[Value.oneCell']) (by omega) (by simp[maxLen]) (by omega) (by simp;omega) (wr.heap.size+1) (by simp) ?_;intro gg cap1 w1 hown1 hgrow hat hlt1))
   go_wp2
   go_roundw
   case rel=>
    rw[tm32 q q1,td32 q q1 q2] at hown1
    refine⟨?_,gg,cap1,.inr (.inr (.inl ⟨rfl,rfl,hown1⟩))⟩
    exact Below.grown ((hB.alloc hsz _).drew) hgrow (by simp;omega) (by intro k hk;simp[Value.ownBlock] at hk;omega)
   case measure=>simp[intOf]
  ·have hlt:=hown.lt b rfl
   have hne:(Value.slice (some ⟨b,0,none⟩) 4 cap).ownBlock≠some g:=by simp[Value.ownBlock];omega
   go_wp2
   go_region_held3 (fun w'=>w'.cell? ⟨g,2,none⟩=some (.int .u64 r)) (first | go_keep | (rw[hgrow.cell_far _ (by simp;omega) (Ne.symm hne)];assumption))
    ((refine step_append_lies _ (by rfl) _ _ _ (by rfl) w.heap.size 22 i0 _ 1 8 Tryz.underlying120 hi0 hz0 hz1 hz2 rfl (by omega) (.slice (some ⟨b,0,none⟩) 4 cap) 4 (dgl 2 p q r s) (by rfl) ((hown.alloc _).drew) ⟨wr.heap.size,0,none⟩ 2 2 [.int .u64 (r.tmod 4294967296),.int .u64 (IntKind.u64.wrap (r.tdiv 4294967296))] (by rfl) (by rfl) (World.news_of_block (cs:=#[.int .u64 (r.tmod 4294967296),.int .u64 (IntKind.u64.wrap (r.tdiv 4294967296))]) (t:=22) (fr:=(0,0)) (heap_alloc_new wr _)) (by simp[Value.oneCell']) (by omega) (by simp[maxLen]) (by omega) (by simp;omega) (wr.heap.size+1) (by simp) ?_;intro gg cap1 w1 hown1 hgrow hat hlt1))
   go_wp2
   go_roundw
   case rel=>
    rw[tm32 r r1,td32 r r1 r2] at hown1
    refine⟨?_,gg,cap1,.inr (.inr (.inr (.inl ⟨rfl,rfl,hown1⟩)))⟩
    exact Below.grown ((hB.alloc hsz _).drew) hgrow (by simp;omega) (by intro k hk;simp[Value.ownBlock] at hk;omega)
   case measure=>simp[intOf]
  ·have hlt:=hown.lt b rfl
   have hne:(Value.slice (some ⟨b,0,none⟩) 6 cap).ownBlock≠some g:=by simp[Value.ownBlock];omega
   go_wp2
   go_region_held3 (fun w'=>w'.cell? ⟨g,3,none⟩=some (.int .u64 s)) (first | go_keep | (rw[hgrow.cell_far _ (by simp;omega) (Ne.symm hne)];assumption))
    ((refine step_append_lies _ (by rfl) _ _ _ (by rfl) w.heap.size 22 i0 _ 1 8 Tryz.underlying120 hi0 hz0 hz1 hz2 rfl (by omega) (.slice (some ⟨b,0,none⟩) 6 cap) 6 (dgl 3 p q r s) (by rfl) ((hown.alloc _).drew) ⟨wr.heap.size,0,none⟩ 2 2 [.int .u64 (s.tmod 4294967296),.int .u64 (IntKind.u64.wrap (s.tdiv 4294967296))] (by rfl) (by rfl) (World.news_of_block (cs:=#[.int .u64 (s.tmod 4294967296),.int .u64 (IntKind.u64.wrap (s.tdiv 4294967296))]) (t:=22) (fr:=(0,0)) (heap_alloc_new wr _)) (by simp[Value.oneCell']) (by omega) (by simp[maxLen]) (by omega) (by simp;omega) (wr.heap.size+1) (by simp) ?_;intro gg cap1 w1 hown1 hgrow hat hlt1))
   go_wp2
   go_roundw
   case rel=>
    rw[tm32 s s1,td32 s s1 s2] at hown1
    refine⟨?_,gg,cap1,.inr (.inr (.inr (.inr (⟨rfl,rfl,hown1⟩))))⟩
    exact Below.grown ((hB.alloc hsz _).drew) hgrow (by simp;omega) (by intro k hk;simp[Value.ownBlock] at hk;omega)
   case measure=>simp[intOf]
  ·go_wp2
   go_ret
   exact⟨b,cap,rfl,hown,hB⟩
end
section
open Go.RowKit Go.Shelf
def rMul:Ren:=⟨fun _=>161,fun n=>if n=46 then 223 else 22,fun n=>n⟩
theorem laysMul:Lays.n264 Tryz.prog rMul where
 mixed:=by kernel_rfl
 f264:=by kernel_rfl
 t46:=by kernel_rfl
 a46:=fun _=>by kernel_rfl
 z46:=fun _=>by kernel_rfl
 v46:=fun _=>by kernel_rfl
 t53:=by kernel_rfl
 a53:=fun _=>by kernel_rfl
 z53:=fun _=>by kernel_rfl
 v53:=fun _=>by kernel_rfl
theorem mul64_nat (x y:Nat) (hx:x<18446744073709551616) (hy:y<18446744073709551616) (w:World):
 Calls Tryz.prog 161 #[.int .u64 x,.int .u64 y] w fun e w'=>e= .returned (.tuple #[.int .u64 ((x*y/18446744073709551616:Nat):Int),.int .u64 ((x*y%18446744073709551616:Nat):Int)])/\w'=w:=
 Any.bits_Mul64 laysMul x y hx hy w
theorem Wz (x y:Int) (hx:W64 x) (hy:W64 y) (w:World):
 Calls Tryz.prog 161 #[.int .u64 x,.int .u64 y] w fun e w'=>e= .returned (.tuple #[.int .u64 (x*y/18446744073709551616),.int .u64 (x*y%18446744073709551616)])/\w'=w:=by
 obtain⟨x1,x2⟩:=hx;obtain⟨y1,y2⟩:=hy
 obtain⟨x,rfl⟩:=Int.eq_ofNat_of_zero_le x1
 obtain⟨y,rfl⟩:=Int.eq_ofNat_of_zero_le y1
 have h:=mul64_nat x y (by omega) (by omega) w
 have e1:((x*y/18446744073709551616:Nat):Int)=(x:Int)*(y:Int)/18446744073709551616:=by simp
 have e2:((x*y%18446744073709551616:Nat):Int)=(x:Int)*(y:Int)%18446744073709551616:=by simp
 rw[e1,e2] at h
 exact h
end
section
open Go.RowKit
theorem Ue (a b c d p:Int):V a b c d*p=a*p+b*p*18446744073709551616+c*p*0x100000000000000000000000000000000+d*p*0x1000000000000000000000000000000000000000000000000:=by
 unfold V
 rw[Int.add_mul,Int.add_mul,Int.add_mul,Int.mul_right_comm b,Int.mul_right_comm c,Int.mul_right_comm d]
theorem W_hi (x p:Int) (hx:W64 x) (hp:W64 p):W64 (x*p/18446744073709551616):=by
 obtain⟨x1,x2⟩:=hx;obtain⟨p1,p2⟩:=hp
 have h0:0<=x*p:=Int.mul_nonneg x1 p1
 have h1:x*p<=18446744073709551615*18446744073709551615:=Int.mul_le_mul (by omega) (by omega) p1 (by omega)
 unfold W64;omega
theorem W_lo (x:Int):W64 (x%18446744073709551616):=by unfold W64;omega
theorem W_0:W64 0:=by unfold W64;omega
theorem scale_spec (a b c d p:Int) (ha:W64 a) (hb:W64 b) (hc:W64 c) (hd:W64 d) (hp:W64 p):
 D0 (V a b c d*p)=D0 (V (a*p%18446744073709551616) (b*p%18446744073709551616) (c*p%18446744073709551616) (d*p%18446744073709551616)+V 0 (a*p/18446744073709551616) (b*p/18446744073709551616) (c*p/18446744073709551616))/\D1 (V a b c d*p)=D1 (V (a*p%18446744073709551616) (b*p%18446744073709551616) (c*p%18446744073709551616) (d*p%18446744073709551616)+V 0 (a*p/18446744073709551616) (b*p/18446744073709551616) (c*p/18446744073709551616))/\D2 (V a b c d*p)=D2 (V (a*p%18446744073709551616) (b*p%18446744073709551616) (c*p%18446744073709551616) (d*p%18446744073709551616)+V 0 (a*p/18446744073709551616) (b*p/18446744073709551616) (c*p/18446744073709551616))/\D3 (V a b c d*p)=D3 (V (a*p%18446744073709551616) (b*p%18446744073709551616) (c*p%18446744073709551616) (d*p%18446744073709551616)+V 0 (a*p/18446744073709551616) (b*p/18446744073709551616) (c*p/18446744073709551616))/\D4 (V a b c d*p)=(d*p/18446744073709551616)+D4 (V (a*p%18446744073709551616) (b*p%18446744073709551616) (c*p%18446744073709551616) (d*p%18446744073709551616)+V 0 (a*p/18446744073709551616) (b*p/18446744073709551616) (c*p/18446744073709551616))/\0<=D4 (V (a*p%18446744073709551616) (b*p%18446744073709551616) (c*p%18446744073709551616) (d*p%18446744073709551616)+V 0 (a*p/18446744073709551616) (b*p/18446744073709551616) (c*p/18446744073709551616))/\(d*p/18446744073709551616)+D4 (V (a*p%18446744073709551616) (b*p%18446744073709551616) (c*p%18446744073709551616) (d*p%18446744073709551616)+V 0 (a*p/18446744073709551616) (b*p/18446744073709551616) (c*p/18446744073709551616))<18446744073709551616:=by
 have hd':=W_hi d p hd hp
 obtain⟨a1,a2⟩:=ha;obtain⟨b1,b2⟩:=hb;obtain⟨c1,c2⟩:=hc;obtain⟨d1,d2⟩:=hd;obtain⟨p1,p2⟩:=hp
 rw[Ue]
 have q0:0<=a*p:=Int.mul_nonneg a1 p1
 have q1:0<=b*p:=Int.mul_nonneg b1 p1
 have q2:0<=c*p:=Int.mul_nonneg c1 p1
 have q3:0<=d*p:=Int.mul_nonneg d1 p1
 have m: ∀x:Int,0<=x->x<18446744073709551616->x*p<=18446744073709551615*18446744073709551615:=fun x h1 h2=>Int.mul_le_mul (by omega) (by omega) p1 (by omega)
 have m0:=m a a1 a2;have m1:=m b b1 b2;have m2:=m c c1 c2;have m3:=m d d1 d2
 generalize a*p=A at *
 generalize b*p=B at *
 generalize c*p=C at *
 generalize d*p=D at *
 unfold D0 D1 D2 D3 D4 V
 refine⟨?_,?_,?_,?_,?_,?_,?_⟩<;>omega
theorem Wv (a b c d p:Int) (w:World) (ha:W64 a) (hb:W64 b) (hc:W64 c) (hd:W64 d) (hp:W64 p):
 CC 148 #[A4 a b c d,.int .u64 p] w (.tuple #[NV (V a b c d*p),.int .u64 (D4 (V a b c d*p))]):=by
 obtain⟨e0,e1,e2,e3,e4,e5,e6⟩:=scale_spec a b c d p ha hb hc hd hp
 have HE:Hid (Ending.returned (.tuple #[NV (V a b c d*p),.int .u64 (D4 (V a b c d*p))])=Ending.returned (.tuple #[NV (V (a*p%18446744073709551616) (b*p%18446744073709551616) (c*p%18446744073709551616) (d*p%18446744073709551616)+V 0 (a*p/18446744073709551616) (b*p/18446744073709551616) (c*p/18446744073709551616)),.int .u64 ((d*p/18446744073709551616)+D4 (V (a*p%18446744073709551616) (b*p%18446744073709551616) (c*p%18446744073709551616) (d*p%18446744073709551616)+V 0 (a*p/18446744073709551616) (b*p/18446744073709551616) (c*p/18446744073709551616)))])):=by
  unfold NV;rw[e0,e1,e2,e3,e4];rfl
 have hd0:=(W_hi d p hd hp).1
 clear e0 e1 e2 e3 e4
 go_enter Tryz.func148,Tryz.ntmps148
 go_wp2
 refine wp_loop_rounds 5 ?_
 rw[rounds_succ]
 go_wp2_with fail
 refine(Wz a p ha hp _).mono ?_
 rintro e w' ⟨rfl,rfl⟩
 go_wp2
 rw[rounds_succ]
 go_wp2_with fail
 refine(Wz b p hb hp _).mono ?_
 rintro e w' ⟨rfl,rfl⟩
 go_wp2
 rw[rounds_succ]
 go_wp2_with fail
 refine(Wz c p hc hp _).mono ?_
 rintro e w' ⟨rfl,rfl⟩
 go_wp2
 rw[rounds_succ]
 go_wp2_with fail
 refine(Wz d p hd hp _).mono ?_
 rintro e w' ⟨rfl,rfl⟩
 go_wp2
 rw[rounds_succ]
 go_wp2_with fail
 refine(U0 _ _ _ _ _ _ _ _ _ (W_lo _) (W_lo _) (W_lo _) (W_lo _) W_0 (W_hi a p ha hp) (W_hi b p hb hp) (W_hi c p hc hp)).mono ?_
 rintro e w1 ⟨rfl,hB⟩
 obtain⟨hcell,hfroz,hsize⟩:=bcell hB
 simp only[World.size_alloc] at hsize hcell hfroz
 have z0:w.heap.size<w1.heap.size:=by omega
 have z1:w.heap.size+1<w1.heap.size:=by omega
 have z2:w.heap.size+1+1<w1.heap.size:=by omega
 have z3:w.heap.size+1+1+1<w1.heap.size:=by omega
 have hB':Bw w w1:=Below.trans (by go_grown) (hB.mono (by simp;omega))
 clear hB
 have hw:IntKind.u64.wrap ((d*p/18446744073709551616)+D4 (V (a*p%18446744073709551616) (b*p%18446744073709551616) (c*p%18446744073709551616) (d*p%18446744073709551616)+V 0 (a*p/18446744073709551616) (b*p/18446744073709551616) (c*p/18446744073709551616)))=(d*p/18446744073709551616)+D4 (V (a*p%18446744073709551616) (b*p%18446744073709551616) (c*p%18446744073709551616) (d*p%18446744073709551616)+V 0 (a*p/18446744073709551616) (b*p/18446744073709551616) (c*p/18446744073709551616)):=by rw[IntKind.wrap_u64];omega
 have hs1:=hB'.size
 go_wp2
 go_region
 go_wp2
 refine bodyPost_ret (v:= .tuple #[NV (V (a*p%18446744073709551616) (b*p%18446744073709551616) (c*p%18446744073709551616) (d*p%18446744073709551616)+V 0 (a*p/18446744073709551616) (b*p/18446744073709551616) (c*p/18446744073709551616)),.int .u64 ((d*p/18446744073709551616)+D4 (V (a*p%18446744073709551616) (b*p%18446744073709551616) (c*p%18446744073709551616) (d*p%18446744073709551616)+V 0 (a*p/18446744073709551616) (b*p/18446744073709551616) (c*p/18446744073709551616)))]) (by simp[results,Tryz.results148,go_sem,hcell,z0,z1,z2,z3,hw]) rfl ⟨HE.out.symm,?_⟩
 iterate 6 all_goals (go_grown<;>try with_reducible refine below_drewN ?_ _)
end
end Go.Proofs.YtbbohmgjphpfeaaGreatDoor
