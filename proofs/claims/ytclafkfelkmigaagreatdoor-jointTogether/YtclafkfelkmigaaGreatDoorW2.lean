import Derived.Test.YtclafkfelkmigaaGreatDoorW1
namespace Go.Proofs.YtclafkfelkmigaaGreatDoor
set_option linter.unusedVariables false
set_option linter.unusedSimpArgs false
set_option maxRecDepth 100000
set_option maxHeartbeats 4000000
open Go.RowKit
abbrev NV(n:Int):Value:=A4 (D0 n) (D1 n) (D2 n) (D3 n)
theorem ret_int{k:IntKind}{a b:Int}(h:a=b):Ending.returned (.int k a)= .returned (.int k b):=by rw[h]
def cmpI(n m:Int):Int:=if n<m then -1 else if m<n then 1 else 0
theorem of_any(n:Int)(w:World):
 CC 97 #[iU n] w (A4 n 0 0 0):=by
 go_enter Tryz.func97,Tryz.ntmps97
 go_wp2
 go_returns
 exact⟨rfl,by go_grown⟩
theorem Add_any(a b c d x y z t:Int)(w:World)(ha:W64 a)(hb:W64 b)(hc:W64 c)(hd:W64 d)(hx:W64 x)(hy:W64 y)(hz:W64 z)(ht:W64 t):
 CC 103 #[A4 a b c d,A4 x y z t] w (.tuple #[NV (V a b c d+V x y z t),.bool (D4 (V a b c d+V x y z t)==1)]):=by
 go_enter Tryz.func103,Tryz.ntmps103
 go_wp2_with fail
 refine(add_any a b c d x y z t _ ha hb hc hd hx hy hz ht).mono ?_
 rintro e w1 ⟨rfl,hB⟩
 obtain⟨hcell,hfroz,hsize⟩:=bcell hB
 simp only[World.size_alloc] at hsize hcell hfroz
 have z0:w.heap.size<w1.heap.size:=by omega
 have z1:w.heap.size+1<w1.heap.size:=by omega
 have z2:w.heap.size+1+1<w1.heap.size:=by omega
 go_wp2
 refine bodyPost_ret (v:= .tuple #[NV (V a b c d+V x y z t),.bool (D4 (V a b c d+V x y z t)==1)]) (by simp[results,Tryz.results103,go_sem,hcell,z0,z1,z2]) rfl ⟨rfl,?_⟩
 have hB':Bw w w1:=Below.trans (by go_grown) (hB.mono (by simp;omega))
 go_grown
theorem Sub_any(a b c d x y z t:Int)(w:World)(ha:W64 a)(hb:W64 b)(hc:W64 c)(hd:W64 d)(hx:W64 x)(hy:W64 y)(hz:W64 z)(ht:W64 t):
 CC 132 #[A4 a b c d,A4 x y z t] w (.tuple #[NV (V a b c d -V x y z t),.bool (-D4 (V a b c d -V x y z t)==1)]):=by
 go_enter Tryz.func132,Tryz.ntmps132
 go_wp2_with fail
 refine(sub_any a b c d x y z t _ ha hb hc hd hx hy hz ht).mono ?_
 rintro e w1 ⟨rfl,hB⟩
 obtain⟨hcell,hfroz,hsize⟩:=bcell hB
 simp only[World.size_alloc] at hsize hcell hfroz
 have z0:w.heap.size<w1.heap.size:=by omega
 have z1:w.heap.size+1<w1.heap.size:=by omega
 have z2:w.heap.size+1+1<w1.heap.size:=by omega
 go_wp2
 refine bodyPost_ret (v:= .tuple #[NV (V a b c d -V x y z t),.bool (-D4 (V a b c d -V x y z t)==1)]) (by simp[results,Tryz.results132,go_sem,hcell,z0,z1,z2]) rfl ⟨rfl,?_⟩
 have hB':Bw w w1:=Below.trans (by go_grown) (hB.mono (by simp;omega))
 go_grown
theorem V6(a b c d x y z t:Int)(w:World)(ha:W64 a)(hb:W64 b)(hc:W64 c)(hd:W64 d)(hx:W64 x)(hy:W64 y)(hz:W64 z)(ht:W64 t):
 CC 38 #[A4 a b c d,A4 x y z t] w (iI (cmpI (V a b c d) (V x y z t))):=by
 obtain⟨a1,a2⟩:=ha
 obtain⟨b1,b2⟩:=hb
 obtain⟨c1,c2⟩:=hc
 obtain⟨d1,d2⟩:=hd
 obtain⟨x1,x2⟩:=hx
 obtain⟨y1,y2⟩:=hy
 obtain⟨z1,z2⟩:=hz
 obtain⟨t1,t2⟩:=ht
 go_enter Tryz.func38,Tryz.ntmps38
 go_wp2
 refine wp_loop_rounds 5 ?_
 repeat any_goals (rw[rounds_succ];go_wp2;all_goals (try (go_quiet (fail);go_wp2));all_goals (try (go_quiet (fail);go_wp2)))
 all_goals
  go_returns
  refine⟨?_,?_⟩
  ·refine ret_int ?_;unfold cmpI V;split<;>(try split)<;>omega
  ·iterate 6 all_goals (go_grown<;>try with_reducible refine below_drewN ?_ _)
theorem cmp_lt{n m:Int}(h:n<m):cmpI n m= -1:=by unfold cmpI;simp[h]
theorem cmp_gt{n m:Int}(h:m<n):cmpI n m=1:=by unfold cmpI;rw[if_neg (by omega),if_pos h]
theorem cmp_eq(n:Int):cmpI n n=0:=by unfold cmpI;simp
theorem Compare_any(a b c d x y z t:Int)(w:World)(ha:W64 a)(hb:W64 b)(hc:W64 c)(hd:W64 d)(hx:W64 x)(hy:W64 y)(hz:W64 z)(ht:W64 t):
 CC 98 #[A4 a b c d,A4 x y z t] w (iI (cmpI (V a b c d) (V x y z t))):=by
 have k1:=V_bd a b c d ha hb hc hd
 have k2:=V_bd x y z t hx hy hz ht
 have hiff:=eq4_V a b c d x y z t ha hb hc hd hx hy hz ht
 by_cases hq:V a b c d=V x y z t
 ·have he:eq4 a b c d x y z t=true:=hiff.2 hq
  rw[hq,cmp_eq]
  clear hq hiff k1 k2
  go_enter Tryz.func98,Tryz.ntmps98
  go_wp2
  go_ret
  exact⟨rfl,by go_grown⟩
 ·have he:eq4 a b c d x y z t=false:=by rw[Bool.eq_false_iff];exact fun h=>hq (hiff.1 h)
  by_cases hl:V a b c d<V x y z t
  ·have hbo:(-D4 (V a b c d -V x y z t)==1)=true:=by unfold D4;simp;omega
   rw[cmp_lt hl]
   clear hq hiff k1 k2 hl
   go_enter Tryz.func98,Tryz.ntmps98
   go_wp2_with fail
   refine(sub_any a b c d x y z t _ ha hb hc hd hx hy hz ht).mono ?_
   rintro e w1 ⟨rfl,hB⟩
   have hB':Bw w w1:=Below.trans (by go_grown) (hB.mono (by simp;omega))
   have hs1:=hB'.size
   clear hB
   go_wp2
   go_ret
   exact⟨rfl,by go_grown⟩
  ·have hbo:(-D4 (V a b c d -V x y z t)==1)=false:=by unfold D4;simp;omega
   rw[cmp_gt (by omega)]
   clear hq hiff k1 k2 hl
   go_enter Tryz.func98,Tryz.ntmps98
   go_wp2_with fail
   refine(sub_any a b c d x y z t _ ha hb hc hd hx hy hz ht).mono ?_
   rintro e w1 ⟨rfl,hB⟩
   have hB':Bw w w1:=Below.trans (by go_grown) (hB.mono (by simp;omega))
   have hs1:=hB'.size
   clear hB
   go_wp2
   go_ret
   exact⟨rfl,by go_grown⟩
end Go.Proofs.YtclafkfelkmigaaGreatDoor
