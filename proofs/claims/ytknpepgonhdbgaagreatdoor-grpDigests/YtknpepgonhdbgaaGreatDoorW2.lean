import Derived.Test.YtknpepgonhdbgaaGreatDoorW1
import Derived.Shelf.Bits.Mul64
namespace Go.Proofs.YtknpepgonhdbgaaGreatDoor
set_option linter.unusedVariables false
set_option linter.unusedSimpArgs false
set_option maxRecDepth 100000
set_option maxHeartbeats 4000000
section
open Go.RowKit
abbrev NV (n:Int):Value:=A4 (D0 n) (D1 n) (D2 n) (D3 n)
theorem Ws {k:IntKind} {a b:Int} (h:a=b):Ending.returned (.int k a)= .returned (.int k b):=by rw[h]
def cmpI (n m:Int):Int:=if n<m then -1 else if m<n then 1 else 0
theorem of_any (n:Int) (w:World):
 CC 55 #[.int .u64 n] w (A4 n 0 0 0):=by
 go_enter Tryz.func55,Tryz.ntmps55
 go_wp2
 go_returns
 exact⟨rfl,by go_grown⟩
theorem Add_any (a b c d x y z t:Int) (w:World) (ha:W64 a) (hb:W64 b) (hc:W64 c) (hd:W64 d) (hx:W64 x) (hy:W64 y) (hz:W64 z) (ht:W64 t):
 CC 98 #[A4 a b c d,A4 x y z t] w (.tuple #[NV (V a b c d+V x y z t),.bool (D4 (V a b c d+V x y z t)==1)]):=by
 go_enter Tryz.func98,Tryz.ntmps98
 go_wp2_with fail
 refine(T8 a b c d x y z t _ ha hb hc hd hx hy hz ht).mono ?_
 rintro e w1 ⟨rfl,hB⟩
 obtain⟨hcell,hfroz,hsize⟩:=bcell hB
 simp only[World.size_alloc] at hsize hcell hfroz
 have z0:w.heap.size<w1.heap.size:=by omega
 have z1:w.heap.size+1<w1.heap.size:=by omega
 have z2:w.heap.size+1+1<w1.heap.size:=by omega
 go_wp2
 refine bodyPost_ret (v:= .tuple #[NV (V a b c d+V x y z t),.bool (D4 (V a b c d+V x y z t)==1)]) (by simp[results,Tryz.results98,go_sem,hcell,z0,z1,z2]) rfl ⟨rfl,?_⟩
 have hB':Bw w w1:=Below.trans (by go_grown) (hB.mono (by simp;omega))
 go_grown
theorem Sub_any (a b c d x y z t:Int) (w:World) (ha:W64 a) (hb:W64 b) (hc:W64 c) (hd:W64 d) (hx:W64 x) (hy:W64 y) (hz:W64 z) (ht:W64 t):
 CC 101 #[A4 a b c d,A4 x y z t] w (.tuple #[NV (V a b c d -V x y z t),.bool (-D4 (V a b c d -V x y z t)==1)]):=by
 go_enter Tryz.func101,Tryz.ntmps101
 go_wp2_with fail
 refine(sub_any a b c d x y z t _ ha hb hc hd hx hy hz ht).mono ?_
 rintro e w1 ⟨rfl,hB⟩
 obtain⟨hcell,hfroz,hsize⟩:=bcell hB
 simp only[World.size_alloc] at hsize hcell hfroz
 have z0:w.heap.size<w1.heap.size:=by omega
 have z1:w.heap.size+1<w1.heap.size:=by omega
 have z2:w.heap.size+1+1<w1.heap.size:=by omega
 go_wp2
 refine bodyPost_ret (v:= .tuple #[NV (V a b c d -V x y z t),.bool (-D4 (V a b c d -V x y z t)==1)]) (by simp[results,Tryz.results101,go_sem,hcell,z0,z1,z2]) rfl ⟨rfl,?_⟩
 have hB':Bw w w1:=Below.trans (by go_grown) (hB.mono (by simp;omega))
 go_grown
theorem Vu (a b c d x y z t:Int) (w:World) (ha:W64 a) (hb:W64 b) (hc:W64 c) (hd:W64 d) (hx:W64 x) (hy:W64 y) (hz:W64 z) (ht:W64 t):
 CC 34 #[A4 a b c d,A4 x y z t] w (.int .i64 (cmpI (V a b c d) (V x y z t))):=by
 obtain⟨a1,a2⟩:=ha
 obtain⟨b1,b2⟩:=hb
 obtain⟨c1,c2⟩:=hc
 obtain⟨d1,d2⟩:=hd
 obtain⟨x1,x2⟩:=hx
 obtain⟨y1,y2⟩:=hy
 obtain⟨z1,z2⟩:=hz
 obtain⟨t1,t2⟩:=ht
 go_enter Tryz.func34,Tryz.ntmps34
 go_wp2
 refine wp_loop_rounds 5 ?_
 repeat any_goals (rw[rounds_succ];go_wp2;all_goals (try (go_quiet (fail);go_wp2));all_goals (try (go_quiet (fail);go_wp2)))
 all_goals
  go_returns
  refine⟨?_,?_⟩
  ·refine Ws ?_;unfold cmpI V;split<;>(try split)<;>omega
  ·iterate 6 all_goals (go_grown<;>try with_reducible refine below_drewN ?_ _)
theorem cmp_lt {n m:Int} (h:n<m):cmpI n m= -1:=by unfold cmpI;simp[h]
theorem cmp_gt {n m:Int} (h:m<n):cmpI n m=1:=by unfold cmpI;rw[if_neg (by omega),if_pos h]
theorem cmp_eq (n:Int):cmpI n n=0:=by unfold cmpI;simp
theorem Compare_any (a b c d x y z t:Int) (w:World) (ha:W64 a) (hb:W64 b) (hc:W64 c) (hd:W64 d) (hx:W64 x) (hy:W64 y) (hz:W64 z) (ht:W64 t):
 CC 73 #[A4 a b c d,A4 x y z t] w (.int .i64 (cmpI (V a b c d) (V x y z t))):=by
 have k1:=V_bd a b c d ha hb hc hd
 have k2:=V_bd x y z t hx hy hz ht
 have hiff:=eq4_V a b c d x y z t ha hb hc hd hx hy hz ht
 by_cases hq:V a b c d=V x y z t
 ·have he:eq4 a b c d x y z t=true:=hiff.2 hq
  rw[hq,cmp_eq]
  clear hq hiff k1 k2
  go_enter Tryz.func73,Tryz.ntmps73
  go_wp2
  go_ret
  exact⟨rfl,by go_grown⟩
 ·have he:eq4 a b c d x y z t=false:=by rw[Bool.eq_false_iff];exact fun h=>hq (hiff.1 h)
  by_cases hl:V a b c d<V x y z t
  ·have hbo:(-D4 (V a b c d -V x y z t)==1)=true:=by unfold D4;simp;omega
   rw[cmp_lt hl]
   clear hq hiff k1 k2 hl
   go_enter Tryz.func73,Tryz.ntmps73
   go_wp2_with fail
   refine(sub_any a b c d x y z t _ ha hb hc hd hx hy hz ht).mono ?_
   rintro e w1 ⟨rfl,hB⟩
   have hB':Bw w w1:=Below.trans (by go_grown) (hB.mono (by simp;omega))
   have hs1:=hB'.size
   clear hB
   go_wp2
   go_ret
   exact⟨rfl,by go_grown⟩
  ·have hbo:(-D4 (V a b c d -V x y z t)==1)=false:=by unfold D4;simp;omega
   rw[cmp_gt (by omega)]
   clear hq hiff k1 k2 hl
   go_enter Tryz.func73,Tryz.ntmps73
   go_wp2_with fail
   refine(sub_any a b c d x y z t _ ha hb hc hd hx hy hz ht).mono ?_
   rintro e w1 ⟨rfl,hB⟩
   have hB':Bw w w1:=Below.trans (by go_grown) (hB.mono (by simp;omega))
   have hs1:=hB'.size
   clear hB
   go_wp2
   go_ret
   exact⟨rfl,by go_grown⟩
theorem Tryz.info22:(Tryz.prog.info? 22).map (fun i=>(i.zero,i.size,i.bytes))=some (some (.int .u64 0),1,8):=by kernel_rfl
theorem Widen_any (a b c d:Int) (w:World):
 CC 62 #[A4 a b c d] w (A8 a b c d 0 0 0 0):=by
 have hcp:(Builtin.copy_ #[93,93] 3 #[.slice (some ⟨w.heap.size+1+1,0,none⟩) 8 8,.slice (some ⟨w.heap.size,0,none⟩) 4 4]).run Tryz.prog
  (((w.alloc (.cells #[.int .u64 a,.int .u64 b,.int .u64 c,.int .u64 d] 24)).alloc (.cells #[.int .u64 0,.int .u64 0,.int .u64 0,.int .u64 0,.int .u64 0,.int .u64 0,.int .u64 0,.int .u64 0] 64)).alloc (.cells #[.int .u64 0,.int .u64 0,.int .u64 0,.int .u64 0,.int .u64 0,.int .u64 0,.int .u64 0,.int .u64 0] 64)).drew=
  .ok (.int .i64 4) (((w.alloc (.cells #[.int .u64 a,.int .u64 b,.int .u64 c,.int .u64 d] 24)).alloc (.cells #[.int .u64 0,.int .u64 0,.int .u64 0,.int .u64 0,.int .u64 0,.int .u64 0,.int .u64 0,.int .u64 0] 64)).alloc (.cells #[.int .u64 a,.int .u64 b,.int .u64 c,.int .u64 d,.int .u64 0,.int .u64 0,.int .u64 0,.int .u64 0] 64)).drew:=by
  rw[run_copy_cells _ 93 93 3 22 _ 0 8 8 _ 4 4 [.int .u64 a,.int .u64 b,.int .u64 c,.int .u64 d] Tryz.underlying93 (by kernel_rfl) rfl ?h1 ?h2 ?h3 ?h4]
  case h1=>
   intro j v hj
   match j,hj with
   | 0,hj=>simp at hj;subst hj;simp[Addr.add,go_sem]
   | 1,hj=>simp at hj;subst hj;simp[Addr.add,go_sem]
   | 2,hj=>simp at hj;subst hj;simp[Addr.add,go_sem]
   | 3,hj=>simp at hj;subst hj;simp[Addr.add,go_sem]
  case h2=>
   intro j hj
   have hj':j=0\/j=1\/j=2\/j=3:=by simp at hj;omega
   rcases hj' with rfl | rfl | rfl | rfl<;>simp[go_sem]
  case h3=>
   intro j hj
   have hj':j=0\/j=1\/j=2\/j=3:=by simp at hj;omega
   rcases hj' with rfl | rfl | rfl | rfl<;>simp[go_sem]
  case h4=>intro v hv;simp at hv;rcases hv with rfl | rfl | rfl | rfl<;>rfl
  simp[World.setCells,go_sem,goInt]
 go_enter Tryz.func62,Tryz.ntmps62
 go_wp2
 go_region
 go_wp2
 refine bodyPost_ret (v:=A8 a b c d 0 0 0 0) (by simp[results,Tryz.results62,go_sem]) rfl ⟨rfl,?_⟩
 go_grown
theorem tm32 (x:Int) (h:0<=x):x.tmod 4294967296=x%4294967296:=Int.tmod_eq_emod_of_nonneg h
theorem td32 (x:Int) (h:0<=x) (h2:x<18446744073709551616):IntKind.u64.wrap (x.tdiv 4294967296)=x/4294967296:=by
 rw[Int.tdiv_eq_ediv_of_nonneg h,IntKind.wrap_u64];omega
def dgl (k:Nat) (p q r s:Int):List Value:=match k with
 | 0=>[]
 | 1=>[.int .u64 (p%4294967296),.int .u64 (p/4294967296)]
 | 2=>[.int .u64 (p%4294967296),.int .u64 (p/4294967296),.int .u64 (q%4294967296),.int .u64 (q/4294967296)]
 | 3=>[.int .u64 (p%4294967296),.int .u64 (p/4294967296),.int .u64 (q%4294967296),.int .u64 (q/4294967296),.int .u64 (r%4294967296),.int .u64 (r/4294967296)]
 | _=>[.int .u64 (p%4294967296),.int .u64 (p/4294967296),.int .u64 (q%4294967296),.int .u64 (q/4294967296),.int .u64 (r%4294967296),.int .u64 (r/4294967296),.int .u64 (s%4294967296),.int .u64 (s/4294967296)]
set_option maxHeartbeats 1600000 in
theorem Ui (g:Nat) (p q r s:Int) (w:World) (hC:C4 w g p q r s) (hp:W64 p) (hq:W64 q) (hr:W64 r) (hs:W64 s):
 Calls Tryz.prog 66 #[.slice (some ⟨g,0,none⟩) 4 4] w fun e w'=> ∃b cap,e= .returned (.slice (some ⟨b,0,none⟩) 8 cap)/\w'.ownsRow w.heap.size 22 1 (.slice (some ⟨b,0,none⟩) 8 cap) 8 (dgl 4 p q r s)/\Bw w w':=by
 obtain⟨p1,p2⟩:=hp
 obtain⟨q1,q2⟩:=hq
 obtain⟨r1,r2⟩:=hr
 obtain⟨s1,s2⟩:=hs
 obtain⟨i0,hi0,hz0,hz1,hz2⟩:=info_parts Tryz.info22
 have lg:=World.block_lt_of_cell? w _ hC.1.1
 have hbs: ∀w,(Instr.buildSlice 93 0 #[]).run Tryz.prog w= .ok (.slice (some ⟨w.heap.size,0,none⟩) 0 0) (w.alloc (.cells #[] 22)):=fun _=>by kernel_rfl
 go_enter Tryz.func66,Tryz.ntmps66
 go_wp2
 go_loopw [3,4] (fun v i wr=>Bw w wr/\ ∃(b cap:Nat),(i= .int .i64 0/\v= .slice (some ⟨b,0,none⟩) 0 cap/\wr.ownsRow w.heap.size 22 1 (.slice (some ⟨b,0,none⟩) 0 cap) 0 (dgl 0 p q r s))\/(i= .int .i64 1/\v= .slice (some ⟨b,0,none⟩) 2 cap/\wr.ownsRow w.heap.size 22 1 (.slice (some ⟨b,0,none⟩) 2 cap) 2 (dgl 1 p q r s))\/(i= .int .i64 2/\v= .slice (some ⟨b,0,none⟩) 4 cap/\wr.ownsRow w.heap.size 22 1 (.slice (some ⟨b,0,none⟩) 4 cap) 4 (dgl 2 p q r s))\/(i= .int .i64 3/\v= .slice (some ⟨b,0,none⟩) 6 cap/\wr.ownsRow w.heap.size 22 1 (.slice (some ⟨b,0,none⟩) 6 cap) 6 (dgl 3 p q r s))\/(i= .int .i64 4/\v= .slice (some ⟨b,0,none⟩) 8 cap/\wr.ownsRow w.heap.size 22 1 (.slice (some ⟨b,0,none⟩) 8 cap) 8 (dgl 4 p q r s)))
  (fun _ i _=>4 -(intOf i).toNat)
 case atStart=>
  refine⟨by go_grown,w.heap.size,0,.inl ⟨rfl,rfl,?_⟩⟩
  exact World.ownsRow_made w #[] 0 (Nat.le_refl _) (by simp[maxLen]) rfl
 case round=>
  obtain⟨hB,b,cap,hr⟩:=hrel
  have hC':=hC.below hB lg
  obtain⟨⟨pc0,pc1,pc2,pc3⟩,_⟩:=hC'
  have hsz:=hB.size
  clear hC
  rcases hr with⟨rfl,rfl,hown⟩ | ⟨rfl,rfl,hown⟩ | ⟨rfl,rfl,hown⟩ | ⟨rfl,rfl,hown⟩ | ⟨rfl,rfl,hown⟩
  ·have hlt:=hown.lt b rfl
   have hne:(Value.slice (some ⟨b,0,none⟩) 0 cap).ownBlock≠some g:=by simp[Value.ownBlock];omega
   go_wp2
   go_region_held3 (fun w'=>w'.cell? ⟨g,0,none⟩=some (.int .u64 p)) (first | go_keep | (rw[hgrow.cell_far _ (by simp;omega) (Ne.symm hne)];assumption))
    ((refine step_append_lies _ (by rfl) _ _ _ (by rfl) w.heap.size 22 i0 _ 1 8 Tryz.underlying93 hi0 hz0 hz1 hz2 rfl (by omega) (.slice (some ⟨b,0,none⟩) 0 cap) 0 (dgl 0 p q r s) (by rfl) ((hown.alloc _).drew) ⟨wr.heap.size,0,none⟩ 2 2 [.int .u64 (p.tmod 4294967296),.int .u64 (IntKind.u64.wrap (p.tdiv 4294967296))] (by rfl) (by rfl) (World.news_of_block (cs:=#[.int .u64 (p.tmod 4294967296),.int .u64 (IntKind.u64.wrap (p.tdiv 4294967296))]) (t:=22) (fr:=(0,0)) (heap_alloc_new wr _)) (by simp[Value.oneCell']) (by omega) (by simp[maxLen]) (by omega) (by simp;omega) (wr.heap.size+1) (by simp) ?_;intro gg cap1 w1 hown1 hgrow hat hlt1))
   go_wp2
   go_roundw
   case rel=>
    rw[tm32 p p1,td32 p p1 p2] at hown1
    refine⟨?_,gg,cap1,.inr (.inl ⟨rfl,rfl,hown1⟩)⟩
    exact Below.grown ((hB.alloc hsz _).drew) hgrow (by simp;omega) (by intro k hk;simp[Value.ownBlock] at hk;omega)
   case measure=>simp[intOf]
  ·have hlt:=hown.lt b rfl
   have hne:(Value.slice (some ⟨b,0,none⟩) 2 cap).ownBlock≠some g:=by simp[Value.ownBlock];omega
   go_wp2
   go_region_held3 (fun w'=>w'.cell? ⟨g,1,none⟩=some (.int .u64 q)) (first | go_keep | (rw[hgrow.cell_far _ (by simp;omega) (Ne.symm hne)];assumption))
    ((refine step_append_lies _ (by rfl) _ _ _ (by rfl) w.heap.size 22 i0 _ 1 8 Tryz.underlying93 hi0 hz0 hz1 hz2 rfl (by omega) (.slice (some ⟨b,0,none⟩) 2 cap) 2 (dgl 1 p q r s) (by rfl) ((hown.alloc _).drew) ⟨wr.heap.size,0,none⟩ 2 2 [.int .u64 (q.tmod 4294967296),.int .u64 (IntKind.u64.wrap (q.tdiv 4294967296))] (by rfl) (by rfl) (World.news_of_block (cs:=#[.int .u64 (q.tmod 4294967296),.int .u64 (IntKind.u64.wrap (q.tdiv 4294967296))]) (t:=22) (fr:=(0,0)) (heap_alloc_new wr _)) (by simp[Value.oneCell']) (by omega) (by simp[maxLen]) (by omega) (by simp;omega) (wr.heap.size+1) (by simp) ?_;intro gg cap1 w1 hown1 hgrow hat hlt1))
   go_wp2
   go_roundw
   case rel=>
    rw[tm32 q q1,td32 q q1 q2] at hown1
    refine⟨?_,gg,cap1,.inr (.inr (.inl ⟨rfl,rfl,hown1⟩))⟩
    exact Below.grown ((hB.alloc hsz _).drew) hgrow (by simp;omega) (by intro k hk;simp[Value.ownBlock] at hk;omega)
   case measure=>simp[intOf]
  ·have hlt:=hown.lt b rfl
   have hne:(Value.slice (some ⟨b,0,none⟩) 4 cap).ownBlock≠some g:=by simp[Value.ownBlock];omega
   go_wp2
   go_region_held3 (fun w'=>w'.cell? ⟨g,2,none⟩=some (.int .u64 r)) (first | go_keep | (rw[hgrow.cell_far _ (by simp;omega) (Ne.symm hne)];assumption))
    ((refine step_append_lies _ (by rfl) _ _ _ (by rfl) w.heap.size 22 i0 _ 1 8 Tryz.underlying93 hi0 hz0 hz1 hz2 rfl (by omega) (.slice (some ⟨b,0,none⟩) 4 cap) 4 (dgl 2 p q r s) (by rfl) ((hown.alloc _).drew) ⟨wr.heap.size,0,none⟩ 2 2 [.int .u64 (r.tmod 4294967296),.int .u64 (IntKind.u64.wrap (r.tdiv 4294967296))] (by rfl) (by rfl) (World.news_of_block (cs:=#[.int .u64 (r.tmod 4294967296),.int .u64 (IntKind.u64.wrap (r.tdiv 4294967296))]) (t:=22) (fr:=(0,0)) (heap_alloc_new wr _)) (by simp[Value.oneCell']) (by omega) (by simp[maxLen]) (by omega) (by simp;omega) (wr.heap.size+1) (by simp) ?_;intro gg cap1 w1 hown1 hgrow hat hlt1))
   go_wp2
   go_roundw
   case rel=>
    rw[tm32 r r1,td32 r r1 r2] at hown1
    refine⟨?_,gg,cap1,.inr (.inr (.inr (.inl ⟨rfl,rfl,hown1⟩)))⟩
    exact Below.grown ((hB.alloc hsz _).drew) hgrow (by simp;omega) (by intro k hk;simp[Value.ownBlock] at hk;omega)
   case measure=>simp[intOf]
  ·have hlt:=hown.lt b rfl
   have hne:(Value.slice (some ⟨b,0,none⟩) 6 cap).ownBlock≠some g:=by simp[Value.ownBlock];omega
   go_wp2
   go_region_held3 (fun w'=>w'.cell? ⟨g,3,none⟩=some (.int .u64 s)) (first | go_keep | (rw[hgrow.cell_far _ (by simp;omega) (Ne.symm hne)];assumption))
    ((refine step_append_lies _ (by rfl) _ _ _ (by rfl) w.heap.size 22 i0 _ 1 8 Tryz.underlying93 hi0 hz0 hz1 hz2 rfl (by omega) (.slice (some ⟨b,0,none⟩) 6 cap) 6 (dgl 3 p q r s) (by rfl) ((hown.alloc _).drew) ⟨wr.heap.size,0,none⟩ 2 2 [.int .u64 (s.tmod 4294967296),.int .u64 (IntKind.u64.wrap (s.tdiv 4294967296))] (by rfl) (by rfl) (World.news_of_block (cs:=#[.int .u64 (s.tmod 4294967296),.int .u64 (IntKind.u64.wrap (s.tdiv 4294967296))]) (t:=22) (fr:=(0,0)) (heap_alloc_new wr _)) (by simp[Value.oneCell']) (by omega) (by simp[maxLen]) (by omega) (by simp;omega) (wr.heap.size+1) (by simp) ?_;intro gg cap1 w1 hown1 hgrow hat hlt1))
   go_wp2
   go_roundw
   case rel=>
    rw[tm32 s s1,td32 s s1 s2] at hown1
    refine⟨?_,gg,cap1,.inr (.inr (.inr (.inr (⟨rfl,rfl,hown1⟩))))⟩
    exact Below.grown ((hB.alloc hsz _).drew) hgrow (by simp;omega) (by intro k hk;simp[Value.ownBlock] at hk;omega)
   case measure=>simp[intOf]
  ·go_wp2
   go_ret
   exact⟨b,cap,rfl,hown,hB⟩
end
section
open Go.RowKit Go.Shelf
def rMul:Ren:=⟨fun _=>138,fun n=>if n=46 then 50 else 22,fun n=>n⟩
theorem laysMul:Lays.n264 Tryz.prog rMul where
 mixed:=by kernel_rfl
 f264:=by kernel_rfl
 t46:=by kernel_rfl
 a46:=fun _=>by kernel_rfl
 z46:=fun _=>by kernel_rfl
 v46:=fun _=>by kernel_rfl
 t53:=by kernel_rfl
 a53:=fun _=>by kernel_rfl
 z53:=fun _=>by kernel_rfl
 v53:=fun _=>by kernel_rfl
theorem mul64_nat (x y:Nat) (hx:x<18446744073709551616) (hy:y<18446744073709551616) (w:World):
 Calls Tryz.prog 138 #[.int .u64 x,.int .u64 y] w fun e w'=>e= .returned (.tuple #[.int .u64 ((x*y/18446744073709551616:Nat):Int),.int .u64 ((x*y%18446744073709551616:Nat):Int)])/\w'=w:=
 Any.bits_Mul64 laysMul x y hx hy w
theorem Vw (x y:Int) (hx:W64 x) (hy:W64 y) (w:World):
 Calls Tryz.prog 138 #[.int .u64 x,.int .u64 y] w fun e w'=>e= .returned (.tuple #[.int .u64 (x*y/18446744073709551616),.int .u64 (x*y%18446744073709551616)])/\w'=w:=by
 obtain⟨x1,x2⟩:=hx;obtain⟨y1,y2⟩:=hy
 obtain⟨x,rfl⟩:=Int.eq_ofNat_of_zero_le x1
 obtain⟨y,rfl⟩:=Int.eq_ofNat_of_zero_le y1
 have h:=mul64_nat x y (by omega) (by omega) w
 have e1:((x*y/18446744073709551616:Nat):Int)=(x:Int)*(y:Int)/18446744073709551616:=by simp
 have e2:((x*y%18446744073709551616:Nat):Int)=(x:Int)*(y:Int)%18446744073709551616:=by simp
 rw[e1,e2] at h
 exact h
end
section
open Go.RowKit
theorem To (a b c d p:Int):V a b c d*p=a*p+b*p*18446744073709551616+c*p*340282366920938463463374607431768211456+d*p*6277101735386680763835789423207666416102355444464034512896:=by
 unfold V
 rw[Int.add_mul,Int.add_mul,Int.add_mul,Int.mul_right_comm b,Int.mul_right_comm c,Int.mul_right_comm d]
theorem W_hi (x p:Int) (hx:W64 x) (hp:W64 p):W64 (x*p/18446744073709551616):=by
 obtain⟨x1,x2⟩:=hx;obtain⟨p1,p2⟩:=hp
 have h0:0<=x*p:=Int.mul_nonneg x1 p1
 have h1:x*p<=18446744073709551615*18446744073709551615:=Int.mul_le_mul (by omega) (by omega) p1 (by omega)
 unfold W64;omega
theorem W_lo (x:Int):W64 (x%18446744073709551616):=by unfold W64;omega
theorem W_0:W64 0:=by unfold W64;omega
theorem scale_spec (a b c d p:Int) (ha:W64 a) (hb:W64 b) (hc:W64 c) (hd:W64 d) (hp:W64 p):
 D0 (V a b c d*p)=D0 (V (a*p%18446744073709551616) (b*p%18446744073709551616) (c*p%18446744073709551616) (d*p%18446744073709551616)+V 0 (a*p/18446744073709551616) (b*p/18446744073709551616) (c*p/18446744073709551616))/\D1 (V a b c d*p)=D1 (V (a*p%18446744073709551616) (b*p%18446744073709551616) (c*p%18446744073709551616) (d*p%18446744073709551616)+V 0 (a*p/18446744073709551616) (b*p/18446744073709551616) (c*p/18446744073709551616))/\D2 (V a b c d*p)=D2 (V (a*p%18446744073709551616) (b*p%18446744073709551616) (c*p%18446744073709551616) (d*p%18446744073709551616)+V 0 (a*p/18446744073709551616) (b*p/18446744073709551616) (c*p/18446744073709551616))/\D3 (V a b c d*p)=D3 (V (a*p%18446744073709551616) (b*p%18446744073709551616) (c*p%18446744073709551616) (d*p%18446744073709551616)+V 0 (a*p/18446744073709551616) (b*p/18446744073709551616) (c*p/18446744073709551616))/\D4 (V a b c d*p)=(d*p/18446744073709551616)+D4 (V (a*p%18446744073709551616) (b*p%18446744073709551616) (c*p%18446744073709551616) (d*p%18446744073709551616)+V 0 (a*p/18446744073709551616) (b*p/18446744073709551616) (c*p/18446744073709551616))/\0<=D4 (V (a*p%18446744073709551616) (b*p%18446744073709551616) (c*p%18446744073709551616) (d*p%18446744073709551616)+V 0 (a*p/18446744073709551616) (b*p/18446744073709551616) (c*p/18446744073709551616))/\(d*p/18446744073709551616)+D4 (V (a*p%18446744073709551616) (b*p%18446744073709551616) (c*p%18446744073709551616) (d*p%18446744073709551616)+V 0 (a*p/18446744073709551616) (b*p/18446744073709551616) (c*p/18446744073709551616))<18446744073709551616:=by
 have hd':=W_hi d p hd hp
 obtain⟨a1,a2⟩:=ha;obtain⟨b1,b2⟩:=hb;obtain⟨c1,c2⟩:=hc;obtain⟨d1,d2⟩:=hd;obtain⟨p1,p2⟩:=hp
 rw[To]
 have q0:0<=a*p:=Int.mul_nonneg a1 p1
 have q1:0<=b*p:=Int.mul_nonneg b1 p1
 have q2:0<=c*p:=Int.mul_nonneg c1 p1
 have q3:0<=d*p:=Int.mul_nonneg d1 p1
 have m: ∀x:Int,0<=x->x<18446744073709551616->x*p<=18446744073709551615*18446744073709551615:=fun x h1 h2=>Int.mul_le_mul (by omega) (by omega) p1 (by omega)
 have m0:=m a a1 a2;have m1:=m b b1 b2;have m2:=m c c1 c2;have m3:=m d d1 d2
 generalize a*p=A at *
 generalize b*p=B at *
 generalize c*p=C at *
 generalize d*p=D at *
 unfold D0 D1 D2 D3 D4 V
 refine⟨?_,?_,?_,?_,?_,?_,?_⟩<;>omega
theorem Vs (a b c d p:Int) (w:World) (ha:W64 a) (hb:W64 b) (hc:W64 c) (hd:W64 d) (hp:W64 p):
 CC 121 #[A4 a b c d,.int .u64 p] w (.tuple #[NV (V a b c d*p),.int .u64 (D4 (V a b c d*p))]):=by
 obtain⟨e0,e1,e2,e3,e4,e5,e6⟩:=scale_spec a b c d p ha hb hc hd hp
 have HE:Hid (Ending.returned (.tuple #[NV (V a b c d*p),.int .u64 (D4 (V a b c d*p))])=Ending.returned (.tuple #[NV (V (a*p%18446744073709551616) (b*p%18446744073709551616) (c*p%18446744073709551616) (d*p%18446744073709551616)+V 0 (a*p/18446744073709551616) (b*p/18446744073709551616) (c*p/18446744073709551616)),.int .u64 ((d*p/18446744073709551616)+D4 (V (a*p%18446744073709551616) (b*p%18446744073709551616) (c*p%18446744073709551616) (d*p%18446744073709551616)+V 0 (a*p/18446744073709551616) (b*p/18446744073709551616) (c*p/18446744073709551616)))])):=by
  unfold NV;rw[e0,e1,e2,e3,e4];rfl
 have hd0:=(W_hi d p hd hp).1
 clear e0 e1 e2 e3 e4
 go_enter Tryz.func121,Tryz.ntmps121
 go_wp2
 refine wp_loop_rounds 5 ?_
 rw[rounds_succ]
 go_wp2_with fail
 refine(Vw a p ha hp _).mono ?_
 rintro e w' ⟨rfl,rfl⟩
 go_wp2
 rw[rounds_succ]
 go_wp2_with fail
 refine(Vw b p hb hp _).mono ?_
 rintro e w' ⟨rfl,rfl⟩
 go_wp2
 rw[rounds_succ]
 go_wp2_with fail
 refine(Vw c p hc hp _).mono ?_
 rintro e w' ⟨rfl,rfl⟩
 go_wp2
 rw[rounds_succ]
 go_wp2_with fail
 refine(Vw d p hd hp _).mono ?_
 rintro e w' ⟨rfl,rfl⟩
 go_wp2
 rw[rounds_succ]
 go_wp2_with fail
 refine(T8 _ _ _ _ _ _ _ _ _ (W_lo _) (W_lo _) (W_lo _) (W_lo _) W_0 (W_hi a p ha hp) (W_hi b p hb hp) (W_hi c p hc hp)).mono ?_
 rintro e w1 ⟨rfl,hB⟩
 obtain⟨hcell,hfroz,hsize⟩:=bcell hB
 simp only[World.size_alloc] at hsize hcell hfroz
 have z0:w.heap.size<w1.heap.size:=by omega
 have z1:w.heap.size+1<w1.heap.size:=by omega
 have z2:w.heap.size+1+1<w1.heap.size:=by omega
 have z3:w.heap.size+1+1+1<w1.heap.size:=by omega
 have hB':Bw w w1:=Below.trans (by go_grown) (hB.mono (by simp;omega))
 clear hB
 have hw:IntKind.u64.wrap ((d*p/18446744073709551616)+D4 (V (a*p%18446744073709551616) (b*p%18446744073709551616) (c*p%18446744073709551616) (d*p%18446744073709551616)+V 0 (a*p/18446744073709551616) (b*p/18446744073709551616) (c*p/18446744073709551616)))=(d*p/18446744073709551616)+D4 (V (a*p%18446744073709551616) (b*p%18446744073709551616) (c*p%18446744073709551616) (d*p%18446744073709551616)+V 0 (a*p/18446744073709551616) (b*p/18446744073709551616) (c*p/18446744073709551616)):=by rw[IntKind.wrap_u64];omega
 have hs1:=hB'.size
 go_wp2
 go_region
 go_wp2
 refine bodyPost_ret (v:= .tuple #[NV (V (a*p%18446744073709551616) (b*p%18446744073709551616) (c*p%18446744073709551616) (d*p%18446744073709551616)+V 0 (a*p/18446744073709551616) (b*p/18446744073709551616) (c*p/18446744073709551616)),.int .u64 ((d*p/18446744073709551616)+D4 (V (a*p%18446744073709551616) (b*p%18446744073709551616) (c*p%18446744073709551616) (d*p%18446744073709551616)+V 0 (a*p/18446744073709551616) (b*p/18446744073709551616) (c*p/18446744073709551616)))]) (by simp[results,Tryz.results121,go_sem,hcell,z0,z1,z2,z3,hw]) rfl ⟨HE.out.symm,?_⟩
 iterate 6 all_goals (go_grown<;>try with_reducible refine below_drewN ?_ _)
def U (k:Nat) (a b c d:Int):Int:=match k with
 | 0=>0
 | 1=>a
 | 2=>a+b*18446744073709551616
 | 3=>a+b*18446744073709551616+c*340282366920938463463374607431768211456
 | _=>V a b c d
def PB (k:Nat):Int:=match k with
 | 0=>1
 | 1=>18446744073709551616
 | 2=>340282366920938463463374607431768211456
 | 3=>6277101735386680763835789423207666416102355444464034512896
 | _=>115792089237316195423570985008687907853269984665640564039457584007913129639936
theorem ret5 {a b c d a' b' c' d':Int} {k k':Bool} (h1:a=a') (h2:b=b') (h3:c=c') (h4:d=d') (h5:k=k'):Ending.returned (.tuple #[A4 a b c d,.bool k])=Ending.returned (.tuple #[A4 a' b' c' d',.bool k']):=by
 rw[h1,h2,h3,h4,h5]
theorem rAdd_any (a b c d x y z t:Int) (w:World) (ha:W64 a) (hb:W64 b) (hc:W64 c) (hd:W64 d) (hx:W64 x) (hy:W64 y) (hz:W64 z) (ht:W64 t):
 CC 44 #[A4 a b c d,A4 x y z t] w (.tuple #[A4 (D0 (V a b c d+V x y z t)) (D1 (V a b c d+V x y z t)) (D2 (V a b c d+V x y z t)) (D3 (V a b c d+V x y z t)),.bool (D4 (V a b c d+V x y z t)==1)]):=by
 obtain⟨a1,a2⟩:=ha
 obtain⟨b1,b2⟩:=hb
 obtain⟨c1,c2⟩:=hc
 obtain⟨d1,d2⟩:=hd
 obtain⟨x1,x2⟩:=hx
 obtain⟨y1,y2⟩:=hy
 obtain⟨z1,z2⟩:=hz
 obtain⟨t1,t2⟩:=ht
 go_enter Tryz.func44,Tryz.ntmps44
 go_wp2
 go_loopw [7,8] (fun cr i wr=> ∃(k:Nat) (p q r s m:Int),k<=4/\i= .int .i64 k/\cr= .int .u64 m/\0<=m/\m<=1/\Bw w wr/\w.heap.size+4<=wr.heap.size/\
  C4 wr w.heap.size a b c d/\C4 wr (w.heap.size+1) x y z t/\C4 wr (w.heap.size+1+1) 0 0 0 0/\C4 wr (w.heap.size+1+1+1) p q r s/\W64 p/\W64 q/\W64 r/\W64 s/\
  U k p q r s+m*PB k=U k a b c d+U k x y z t) (fun _ i _=>4 -(intOf i).toNat)
 case atStart=>
  refine⟨0,0,0,0,0,0,by omega,rfl,rfl,by omega,by omega,?_,by simp,by unfold C4;simp[go_sem],by unfold C4;simp[go_sem],by unfold C4;simp[go_sem],by unfold C4;simp[go_sem],by unfold W64;omega,by unfold W64;omega,by unfold W64;omega,by unfold W64;omega,by simp[U,PB]⟩
  iterate 6 all_goals (go_grown<;>try with_reducible refine below_drewN ?_ _)
 case round=>
  obtain⟨k,p,q,r,s,m,hk,rfl,rfl,m0,m1,hB,hsz,hA,hX,hR,hO,hp,hq,hr,hs,hU⟩:=hrel
  obtain⟨p1,p2⟩:=hp;obtain⟨q1,q2⟩:=hq;obtain⟨r1,r2⟩:=hr;obtain⟨s1,s2⟩:=hs
  have hH:Hid (U k p q r s+m*PB k=U k a b c d+U k x y z t):=hU
  clear hU
  have hA':=hA;have hX':=hX;have hR':=hR;have hO':=hO
  obtain⟨⟨ac0,ac1,ac2,ac3⟩,af0,af1,af2,af3⟩:=hA'
  obtain⟨⟨xc0,xc1,xc2,xc3⟩,xf0,xf1,xf2,xf3⟩:=hX'
  obtain⟨⟨oc0,oc1,oc2,oc3⟩,of0,of1,of2,of3⟩:=hO'
  obtain⟨⟨rc0,rc1,rc2,rc3⟩,rf0,rf1,rf2,rf3⟩:=hR'
  have hk':k=0\/k=1\/k=2\/k=3\/k=4:=by omega
  rcases hk' with rfl | rfl | rfl | rfl | rfl
  ·go_wp2
   go_quiet (fail)
   go_wp2
   all_goals
    refine⟨⟨1,_,q,r,s,_,by omega,rfl,rfl,by omega,by omega,?_,by simpa using hsz,(hA.drewN _).other _ (by simp<;>omega) _,(hX.drewN _).other _ (by simp<;>omega) _,(hR.drewN _).other _ (by simp<;>omega) _,(hO.drewN _).set0 _,?_,?_,?_,?_,?_⟩,by simp[intOf]⟩
    ·exact(below_drewN hB _).setCell (by simp;omega) _
    ·unfold W64;go_arith
    ·unfold W64;go_arith
    ·unfold W64;go_arith
    ·unfold W64;go_arith
    ·have hh:=hH.out
     simp only[U,PB,V] at hh⊢
     go_arith
  ·go_wp2
   go_quiet (fail)
   go_wp2
   all_goals
    refine⟨⟨2,p,_,r,s,_,by omega,rfl,rfl,by omega,by omega,?_,by simpa using hsz,(hA.drewN _).other _ (by simp<;>omega) _,(hX.drewN _).other _ (by simp<;>omega) _,(hR.drewN _).other _ (by simp<;>omega) _,(hO.drewN _).set1 _,?_,?_,?_,?_,?_⟩,by simp[intOf]⟩
    ·exact(below_drewN hB _).setCell (by simp;omega) _
    ·unfold W64;go_arith
    ·unfold W64;go_arith
    ·unfold W64;go_arith
    ·unfold W64;go_arith
    ·have hh:=hH.out
     simp only[U,PB,V] at hh⊢
     go_arith
  ·go_wp2
   go_quiet (fail)
   go_wp2
   all_goals
    refine⟨⟨3,p,q,_,s,_,by omega,rfl,rfl,by omega,by omega,?_,by simpa using hsz,(hA.drewN _).other _ (by simp<;>omega) _,(hX.drewN _).other _ (by simp<;>omega) _,(hR.drewN _).other _ (by simp<;>omega) _,(hO.drewN _).set2 _,?_,?_,?_,?_,?_⟩,by simp[intOf]⟩
    ·exact(below_drewN hB _).setCell (by simp;omega) _
    ·unfold W64;go_arith
    ·unfold W64;go_arith
    ·unfold W64;go_arith
    ·unfold W64;go_arith
    ·have hh:=hH.out
     simp only[U,PB,V] at hh⊢
     go_arith
  ·go_wp2
   go_quiet (fail)
   go_wp2
   all_goals
    refine⟨⟨4,p,q,r,_,_,by omega,rfl,rfl,by omega,by omega,?_,by simpa using hsz,(hA.drewN _).other _ (by simp<;>omega) _,(hX.drewN _).other _ (by simp<;>omega) _,(hR.drewN _).other _ (by simp<;>omega) _,(hO.drewN _).set3 _,?_,?_,?_,?_,?_⟩,by simp[intOf]⟩
    ·exact(below_drewN hB _).setCell (by simp;omega) _
    ·unfold W64;go_arith
    ·unfold W64;go_arith
    ·unfold W64;go_arith
    ·unfold W64;go_arith
    ·have hh:=hH.out
     simp only[U,PB,V] at hh⊢
     go_arith
  ·go_wp2
   refine bodyPost_ret (v:= .tuple #[A4 p q r s,.bool (decide (0<m))]) (by simp[results,Tryz.results44,go_sem, *]) rfl ⟨?_,?_⟩
   ·have hh:=hH.out
    simp only[U,PB,V] at hh
    refine ret5 ?_ ?_ ?_ ?_ ?_
    ·unfold D0 V;omega
    ·unfold D1 V;omega
    ·unfold D2 V;omega
    ·unfold D3 V;omega
    ·rw[Bool.eq_iff_iff];unfold D4 V;simp;omega
   ·iterate 6 all_goals (go_grown<;>try with_reducible refine below_drewN ?_ _)
theorem rSub_any (a b c d x y z t:Int) (w:World) (ha:W64 a) (hb:W64 b) (hc:W64 c) (hd:W64 d) (hx:W64 x) (hy:W64 y) (hz:W64 z) (ht:W64 t):
 CC 45 #[A4 a b c d,A4 x y z t] w (.tuple #[A4 (D0 (V a b c d -V x y z t)) (D1 (V a b c d -V x y z t)) (D2 (V a b c d -V x y z t)) (D3 (V a b c d -V x y z t)),.bool (-D4 (V a b c d -V x y z t)==1)]):=by
 obtain⟨a1,a2⟩:=ha
 obtain⟨b1,b2⟩:=hb
 obtain⟨c1,c2⟩:=hc
 obtain⟨d1,d2⟩:=hd
 obtain⟨x1,x2⟩:=hx
 obtain⟨y1,y2⟩:=hy
 obtain⟨z1,z2⟩:=hz
 obtain⟨t1,t2⟩:=ht
 go_enter Tryz.func45,Tryz.ntmps45
 go_wp2
 go_loopw [7,8] (fun cr i wr=> ∃(k:Nat) (p q r s m:Int),k<=4/\i= .int .i64 k/\cr= .int .u64 m/\0<=m/\m<=1/\Bw w wr/\w.heap.size+4<=wr.heap.size/\
  C4 wr w.heap.size a b c d/\C4 wr (w.heap.size+1) x y z t/\C4 wr (w.heap.size+1+1) 0 0 0 0/\C4 wr (w.heap.size+1+1+1) p q r s/\W64 p/\W64 q/\W64 r/\W64 s/\
  U k p q r s -m*PB k=U k a b c d -U k x y z t) (fun _ i _=>4 -(intOf i).toNat)
 case atStart=>
  refine⟨0,0,0,0,0,0,by omega,rfl,rfl,by omega,by omega,?_,by simp,by unfold C4;simp[go_sem],by unfold C4;simp[go_sem],by unfold C4;simp[go_sem],by unfold C4;simp[go_sem],by unfold W64;omega,by unfold W64;omega,by unfold W64;omega,by unfold W64;omega,by simp[U,PB]⟩
  iterate 6 all_goals (go_grown<;>try with_reducible refine below_drewN ?_ _)
 case round=>
  obtain⟨k,p,q,r,s,m,hk,rfl,rfl,m0,m1,hB,hsz,hA,hX,hR,hO,hp,hq,hr,hs,hU⟩:=hrel
  obtain⟨p1,p2⟩:=hp;obtain⟨q1,q2⟩:=hq;obtain⟨r1,r2⟩:=hr;obtain⟨s1,s2⟩:=hs
  have hH:Hid (U k p q r s -m*PB k=U k a b c d -U k x y z t):=hU
  clear hU
  have hA':=hA;have hX':=hX;have hR':=hR;have hO':=hO
  obtain⟨⟨ac0,ac1,ac2,ac3⟩,af0,af1,af2,af3⟩:=hA'
  obtain⟨⟨xc0,xc1,xc2,xc3⟩,xf0,xf1,xf2,xf3⟩:=hX'
  obtain⟨⟨oc0,oc1,oc2,oc3⟩,of0,of1,of2,of3⟩:=hO'
  obtain⟨⟨rc0,rc1,rc2,rc3⟩,rf0,rf1,rf2,rf3⟩:=hR'
  have hk':k=0\/k=1\/k=2\/k=3\/k=4:=by omega
  rcases hk' with rfl | rfl | rfl | rfl | rfl
  ·rcases Bool.eq_false_or_eq_true (decide (a<x)) with gd | gd
   all_goals
    have g:=gd
    simp at g
    go_wp2
    go_quiet (fail)
    go_wp2
    go_quiet (fail)
    go_wp2
   all_goals
    refine⟨⟨1,_,q,r,s,_,by omega,rfl,rfl,by omega,by omega,?_,by simpa using hsz,(hA.drewN _).other _ (by simp<;>omega) _,(hX.drewN _).other _ (by simp<;>omega) _,(hR.drewN _).other _ (by simp<;>omega) _,(hO.drewN _).set0 _,?_,?_,?_,?_,?_⟩,by simp[intOf]⟩
    ·exact(below_drewN hB _).setCell (by simp;omega) _
    ·unfold W64;go_arith
    ·unfold W64;go_arith
    ·unfold W64;go_arith
    ·unfold W64;go_arith
    ·have hh:=hH.out
     simp only[U,PB,V] at hh⊢
     go_arith
  ·rcases Bool.eq_false_or_eq_true (decide (b<y)) with gd | gd
   all_goals
    have g:=gd
    simp at g
    go_wp2
    go_quiet (fail)
    go_wp2
    go_quiet (fail)
    go_wp2
   all_goals
    refine⟨⟨2,p,_,r,s,_,by omega,rfl,rfl,by omega,by omega,?_,by simpa using hsz,(hA.drewN _).other _ (by simp<;>omega) _,(hX.drewN _).other _ (by simp<;>omega) _,(hR.drewN _).other _ (by simp<;>omega) _,(hO.drewN _).set1 _,?_,?_,?_,?_,?_⟩,by simp[intOf]⟩
    ·exact(below_drewN hB _).setCell (by simp;omega) _
    ·unfold W64;go_arith
    ·unfold W64;go_arith
    ·unfold W64;go_arith
    ·unfold W64;go_arith
    ·have hh:=hH.out
     simp only[U,PB,V] at hh⊢
     go_arith
  ·rcases Bool.eq_false_or_eq_true (decide (c<z)) with gd | gd
   all_goals
    have g:=gd
    simp at g
    go_wp2
    go_quiet (fail)
    go_wp2
    go_quiet (fail)
    go_wp2
   all_goals
    refine⟨⟨3,p,q,_,s,_,by omega,rfl,rfl,by omega,by omega,?_,by simpa using hsz,(hA.drewN _).other _ (by simp<;>omega) _,(hX.drewN _).other _ (by simp<;>omega) _,(hR.drewN _).other _ (by simp<;>omega) _,(hO.drewN _).set2 _,?_,?_,?_,?_,?_⟩,by simp[intOf]⟩
    ·exact(below_drewN hB _).setCell (by simp;omega) _
    ·unfold W64;go_arith
    ·unfold W64;go_arith
    ·unfold W64;go_arith
    ·unfold W64;go_arith
    ·have hh:=hH.out
     simp only[U,PB,V] at hh⊢
     go_arith
  ·rcases Bool.eq_false_or_eq_true (decide (d<t)) with gd | gd
   all_goals
    have g:=gd
    simp at g
    go_wp2
    go_quiet (fail)
    go_wp2
    go_quiet (fail)
    go_wp2
   all_goals
    refine⟨⟨4,p,q,r,_,_,by omega,rfl,rfl,by omega,by omega,?_,by simpa using hsz,(hA.drewN _).other _ (by simp<;>omega) _,(hX.drewN _).other _ (by simp<;>omega) _,(hR.drewN _).other _ (by simp<;>omega) _,(hO.drewN _).set3 _,?_,?_,?_,?_,?_⟩,by simp[intOf]⟩
    ·exact(below_drewN hB _).setCell (by simp;omega) _
    ·unfold W64;go_arith
    ·unfold W64;go_arith
    ·unfold W64;go_arith
    ·unfold W64;go_arith
    ·have hh:=hH.out
     simp only[U,PB,V] at hh⊢
     go_arith
  ·go_wp2
   refine bodyPost_ret (v:= .tuple #[A4 p q r s,.bool (decide (0<m))]) (by simp[results,Tryz.results45,go_sem, *]) rfl ⟨?_,?_⟩
   ·have hh:=hH.out
    simp only[U,PB,V] at hh
    refine ret5 ?_ ?_ ?_ ?_ ?_
    ·unfold D0 V;omega
    ·unfold D1 V;omega
    ·unfold D2 V;omega
    ·unfold D3 V;omega
    ·rw[Bool.eq_iff_iff];unfold D4 V;simp;omega
   ·iterate 6 all_goals (go_grown<;>try with_reducible refine below_drewN ?_ _)
def C8 (w:World) (n:Nat) (a b c d e f g h:Int):Prop:=
 (w.cell? ⟨n,0,none⟩=some (.int .u64 a)/\w.cell? ⟨n,1,none⟩=some (.int .u64 b)/\w.cell? ⟨n,2,none⟩=some (.int .u64 c)/\w.cell? ⟨n,3,none⟩=some (.int .u64 d)/\
  w.cell? ⟨n,4,none⟩=some (.int .u64 e)/\w.cell? ⟨n,5,none⟩=some (.int .u64 f)/\w.cell? ⟨n,6,none⟩=some (.int .u64 g)/\w.cell? ⟨n,7,none⟩=some (.int .u64 h))/\
 ∀o,o<8->w.frozen? ⟨n,o,none⟩=false
theorem C8.below {w w':World} {m n:Nat} {a b c d e f g h:Int} (H:C8 w n a b c d e f g h) (hb:Below m w w') (hn:n<m):C8 w' n a b c d e f g h:=by
 obtain⟨⟨h0,h1,h2,h3,h4,h5,h6,h7⟩,hf⟩:=H
 have k: ∀o,w'.cell? ⟨n,o,none⟩=w.cell? ⟨n,o,none⟩:=fun o=>hb.cell (p:=⟨n,o,none⟩) hn
 have l: ∀o,w'.frozen? ⟨n,o,none⟩=w.frozen? ⟨n,o,none⟩:=fun o=>hb.frozen (p:=⟨n,o,none⟩) hn
 exact⟨⟨(k _).trans h0,(k _).trans h1,(k _).trans h2,(k _).trans h3,(k _).trans h4,(k _).trans h5,(k _).trans h6,(k _).trans h7⟩,fun o ho=>(l o).trans (hf o ho)⟩
theorem C8.drew {w:World} {n:Nat} {a b c d e f g h:Int} (H:C8 w n a b c d e f g h):C8 w.drew n a b c d e f g h:=H
theorem C8.drewN {w:World} {n:Nat} {a b c d e f g h:Int} (H:C8 w n a b c d e f g h) (k:Nat):C8 (w.drewN k) n a b c d e f g h:=H
theorem C8.alloc {w:World} {n:Nat} {a b c d e f g h:Int} (H:C8 w n a b c d e f g h) (hn:n<w.heap.size) (o:Obj):C8 (w.alloc o) n a b c d e f g h:=
 H.below (m:=w.heap.size) ((Below.refl _ _).alloc (Nat.le_refl _) o) hn
theorem C8.new (w:World) (a b c d e f g h:Int) (t:TypeId):C8 (w.alloc (.cells #[.int .u64 a,.int .u64 b,.int .u64 c,.int .u64 d,.int .u64 e,.int .u64 f,.int .u64 g,.int .u64 h] t)) w.heap.size a b c d e f g h:=by
 refine⟨?_,fun o _=>?_⟩<;>simp[go_sem]
theorem C8.other {w:World} {n:Nat} {a b c d e f g h:Int} (H:C8 w n a b c d e f g h) (x:Addr) (hx:n≠x.block) (v:Value):C8 (w.setCell x v) n a b c d e f g h:=by
 have hb:(w.setCell x v).heap[n]?=w.heap[n]?:=Below.heap_setCell w x v n hx
 have k: ∀o,(w.setCell x v).cell? ⟨n,o,none⟩=w.cell? ⟨n,o,none⟩:=fun o=>World.cell?_of_block (w:=w) hb
 have l: ∀o,(w.setCell x v).frozen? ⟨n,o,none⟩=w.frozen? ⟨n,o,none⟩:=fun o=>World.frozen?_of_block (w:=w) hb
 obtain⟨⟨h0,h1,h2,h3,h4,h5,h6,h7⟩,hf⟩:=H
 exact⟨⟨(k _).trans h0,(k _).trans h1,(k _).trans h2,(k _).trans h3,(k _).trans h4,(k _).trans h5,(k _).trans h6,(k _).trans h7⟩,fun o ho=>(l o).trans (hf o ho)⟩
theorem C8.set0 {w:World} {n:Nat} {a b c d e f g h:Int} (H:C8 w n a b c d e f g h) (v:Int):C8 (w.setCell ⟨n,0,none⟩ (.int .u64 v)) n v b c d e f g h:=by
 obtain⟨⟨h0,h1,h2,h3,h4,h5,h6,h7⟩,hf⟩:=H
 refine⟨?_,fun o ho=>?_⟩
 ·simp[go_sem, *]
 ·rw[World.frozen?_setCell];exact hf o ho
theorem C8.set1 {w:World} {n:Nat} {a b c d e f g h:Int} (H:C8 w n a b c d e f g h) (v:Int):C8 (w.setCell ⟨n,1,none⟩ (.int .u64 v)) n a v c d e f g h:=by
 obtain⟨⟨h0,h1,h2,h3,h4,h5,h6,h7⟩,hf⟩:=H
 refine⟨?_,fun o ho=>?_⟩
 ·simp[go_sem, *]
 ·rw[World.frozen?_setCell];exact hf o ho
theorem C8.set2 {w:World} {n:Nat} {a b c d e f g h:Int} (H:C8 w n a b c d e f g h) (v:Int):C8 (w.setCell ⟨n,2,none⟩ (.int .u64 v)) n a b v d e f g h:=by
 obtain⟨⟨h0,h1,h2,h3,h4,h5,h6,h7⟩,hf⟩:=H
 refine⟨?_,fun o ho=>?_⟩
 ·simp[go_sem, *]
 ·rw[World.frozen?_setCell];exact hf o ho
theorem C8.set3 {w:World} {n:Nat} {a b c d e f g h:Int} (H:C8 w n a b c d e f g h) (v:Int):C8 (w.setCell ⟨n,3,none⟩ (.int .u64 v)) n a b c v e f g h:=by
 obtain⟨⟨h0,h1,h2,h3,h4,h5,h6,h7⟩,hf⟩:=H
 refine⟨?_,fun o ho=>?_⟩
 ·simp[go_sem, *]
 ·rw[World.frozen?_setCell];exact hf o ho
theorem C8.set4 {w:World} {n:Nat} {a b c d e f g h:Int} (H:C8 w n a b c d e f g h) (v:Int):C8 (w.setCell ⟨n,4,none⟩ (.int .u64 v)) n a b c d v f g h:=by
 obtain⟨⟨h0,h1,h2,h3,h4,h5,h6,h7⟩,hf⟩:=H
 refine⟨?_,fun o ho=>?_⟩
 ·simp[go_sem, *]
 ·rw[World.frozen?_setCell];exact hf o ho
theorem C8.set5 {w:World} {n:Nat} {a b c d e f g h:Int} (H:C8 w n a b c d e f g h) (v:Int):C8 (w.setCell ⟨n,5,none⟩ (.int .u64 v)) n a b c d e v g h:=by
 obtain⟨⟨h0,h1,h2,h3,h4,h5,h6,h7⟩,hf⟩:=H
 refine⟨?_,fun o ho=>?_⟩
 ·simp[go_sem, *]
 ·rw[World.frozen?_setCell];exact hf o ho
theorem C8.set6 {w:World} {n:Nat} {a b c d e f g h:Int} (H:C8 w n a b c d e f g h) (v:Int):C8 (w.setCell ⟨n,6,none⟩ (.int .u64 v)) n a b c d e f v h:=by
 obtain⟨⟨h0,h1,h2,h3,h4,h5,h6,h7⟩,hf⟩:=H
 refine⟨?_,fun o ho=>?_⟩
 ·simp[go_sem, *]
 ·rw[World.frozen?_setCell];exact hf o ho
theorem C8.set7 {w:World} {n:Nat} {a b c d e f g h:Int} (H:C8 w n a b c d e f g h) (v:Int):C8 (w.setCell ⟨n,7,none⟩ (.int .u64 v)) n a b c d e f g v:=by
 obtain⟨⟨h0,h1,h2,h3,h4,h5,h6,h7⟩,hf⟩:=H
 refine⟨?_,fun o ho=>?_⟩
 ·simp[go_sem, *]
 ·rw[World.frozen?_setCell];exact hf o ho
abbrev WV (n:Int):Value:=A8 (D0 n) (D1 n) (D2 n) (D3 n) (D0 (D4 n)) (D1 (D4 n)) (D2 (D4 n)) (D3 (D4 n))
theorem mul_spec (a b c d x y z t:Int):V a b c d*V x y z t=V (V a b c d*x) (V a b c d*y) (V a b c d*z) (V a b c d*t):=by
 generalize V a b c d=A
 unfold V
 rw[Int.mul_add,Int.mul_add,Int.mul_add,Int.mul_assoc,Int.mul_assoc,Int.mul_assoc]
theorem prod_bd (A x:Int) (hA:0<=A/\A<115792089237316195423570985008687907853269984665640564039457584007913129639936) (hx:W64 x):0<=A*x/\A*x<=2135987035920910082279229616932235919179133537347964862093771623156579161741164519270975247745025:=by
 obtain⟨x1,x2⟩:=hx
 refine⟨Int.mul_nonneg hA.1 x1,?_⟩
 have h1:A*x<=115792089237316195423570985008687907853269984665640564039457584007913129639935*18446744073709551615:=Int.mul_le_mul (by omega) (by omega) x1 (by omega)
 omega
theorem row_spec (q u v m h:Int) (hq:0<=q/\q<=2135987035920910082279229616932235919179133537347964862093771623156579161741164519270975247745025) (hu:0<=u/\u<115792089237316195423570985008687907853269984665640564039457584007913129639936) (hs:v=V (D0 q) (D1 q) (D2 q) (D3 q)) (hm:m=D4 (u+v)) (hh:h=D4 q):
 D0 (u+v)=D0 (u+q)/\D1 (u+v)=D1 (u+q)/\D2 (u+v)=D2 (u+q)/\D3 (u+v)=D3 (u+q)/\h+m=D4 (u+q)/\0<=h/\0<=m/\h+m<18446744073709551616/\u+q=D0 (u+q)+V (D1 (u+q)) (D2 (u+q)) (D3 (u+q)) (D4 (u+q))*18446744073709551616:=by
 rw[V_D] at hs
 subst hs hm hh
 unfold D0 D1 D2 D3 D4 V
 refine⟨?_,?_,?_,?_,?_,?_,?_,?_,?_⟩<;>omega
end
end Go.Proofs.YtknpepgonhdbgaaGreatDoor
