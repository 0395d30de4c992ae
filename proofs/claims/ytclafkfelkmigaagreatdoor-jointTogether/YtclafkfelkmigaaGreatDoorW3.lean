import Derived.Test.YtclafkfelkmigaaGreatDoorW1
namespace Go.Proofs.YtclafkfelkmigaaGreatDoor
set_option linter.unusedVariables false
set_option linter.unusedSimpArgs false
set_option maxRecDepth 100000
set_option maxHeartbeats 4000000
open Go.RowKit
def U(k:Nat)(a b c d:Int):Int:=match k with
 | 0=>0
 | 1=>a
 | 2=>a+b*18446744073709551616
 | 3=>a+b*18446744073709551616+c*0x100000000000000000000000000000000
 | _=>V a b c d
def PB(k:Nat):Int:=match k with
 | 0=>1
 | 1=>18446744073709551616
 | 2=>0x100000000000000000000000000000000
 | 3=>0x1000000000000000000000000000000000000000000000000
 | _=>0x10000000000000000000000000000000000000000000000000000000000000000
theorem ret5{a b c d a' b' c' d':Int}{k k':Bool}(h1:a=a')(h2:b=b')(h3:c=c')(h4:d=d')(h5:k=k'):Ending.returned (.tuple #[A4 a b c d,.bool k])=Ending.returned (.tuple #[A4 a' b' c' d',.bool k']):=by
 rw[h1,h2,h3,h4,h5]
theorem rAdd_any(a b c d x y z t:Int)(w:World)(ha:W64 a)(hb:W64 b)(hc:W64 c)(hd:W64 d)(hx:W64 x)(hy:W64 y)(hz:W64 z)(ht:W64 t):
 CC 37 #[A4 a b c d,A4 x y z t] w (.tuple #[A4 (D0 (V a b c d+V x y z t)) (D1 (V a b c d+V x y z t)) (D2 (V a b c d+V x y z t)) (D3 (V a b c d+V x y z t)),.bool (D4 (V a b c d+V x y z t)==1)]):=by
 obtain⟨a1,a2⟩:=ha
 obtain⟨b1,b2⟩:=hb
 obtain⟨c1,c2⟩:=hc
 obtain⟨d1,d2⟩:=hd
 obtain⟨x1,x2⟩:=hx
 obtain⟨y1,y2⟩:=hy
 obtain⟨z1,z2⟩:=hz
 obtain⟨t1,t2⟩:=ht
 go_enter Tryz.func37,Tryz.ntmps37
 go_wp2
 go_loopw [7,8] (fun cr i wr=> ∃(k:Nat) (p q r s m:Int),k<=4/\i=iI k/\cr=iU m/\0<=m/\m<=1/\Bw w wr/\w.heap.size+4<=wr.heap.size/\
  C4 wr w.heap.size a b c d/\C4 wr (w.heap.size+1) x y z t/\C4 wr (w.heap.size+1+1) 0 0 0 0/\C4 wr (w.heap.size+1+1+1) p q r s/\W64 p/\W64 q/\W64 r/\W64 s/\
  U k p q r s+m*PB k=U k a b c d+U k x y z t) (fun _ i _=>4 -(intOf i).toNat)
 case atStart=>
  refine⟨0,0,0,0,0,0,by omega,rfl,rfl,by omega,by omega,?_,by simp,by unfold C4;simp[go_sem],by unfold C4;simp[go_sem],by unfold C4;simp[go_sem],by unfold C4;simp[go_sem],by unfold W64;omega,by unfold W64;omega,by unfold W64;omega,by unfold W64;omega,by simp[U,PB]⟩
  iterate 6 all_goals (go_grown<;>try with_reducible refine below_drewN ?_ _)
 case round=>
  obtain⟨k,p,q,r,s,m,hk,rfl,rfl,m0,m1,hB,hsz,hA,hX,hR,hO,hp,hq,hr,hs,hU⟩:=hrel
  obtain⟨p1,p2⟩:=hp;obtain⟨q1,q2⟩:=hq;obtain⟨r1,r2⟩:=hr;obtain⟨s1,s2⟩:=hs
  have hH:Hid (U k p q r s+m*PB k=U k a b c d+U k x y z t):=hU
  clear hU
  have hA':=hA;have hX':=hX;have hR':=hR;have hO':=hO
  obtain⟨⟨ac0,ac1,ac2,ac3⟩,af0,af1,af2,af3⟩:=hA'
  obtain⟨⟨xc0,xc1,xc2,xc3⟩,xf0,xf1,xf2,xf3⟩:=hX'
  obtain⟨⟨oc0,oc1,oc2,oc3⟩,of0,of1,of2,of3⟩:=hO'
  obtain⟨⟨rc0,rc1,rc2,rc3⟩,rf0,rf1,rf2,rf3⟩:=hR'
  have hk':k=0\/k=1\/k=2\/k=3\/k=4:=by omega
  rcases hk' with rfl | rfl | rfl | rfl | rfl
  ·go_wp2
   go_quiet (fail)
   go_wp2
   all_goals
    refine⟨⟨1,_,q,r,s,_,by omega,rfl,rfl,by omega,by omega,?_,by simpa using hsz,(hA.drewN _).other _ (by simp<;>omega) _,(hX.drewN _).other _ (by simp<;>omega) _,(hR.drewN _).other _ (by simp<;>omega) _,(hO.drewN _).set0 _,?_,?_,?_,?_,?_⟩,by simp[intOf]⟩
    ·exact(below_drewN hB _).setCell (by simp;omega) _
    ·unfold W64;go_arith
    ·unfold W64;go_arith
    ·unfold W64;go_arith
    ·unfold W64;go_arith
    ·have hh:=hH.out
     simp only[U,PB,V] at hh⊢
     go_arith
  ·go_wp2
   go_quiet (fail)
   go_wp2
   all_goals
    refine⟨⟨2,p,_,r,s,_,by omega,rfl,rfl,by omega,by omega,?_,by simpa using hsz,(hA.drewN _).other _ (by simp<;>omega) _,(hX.drewN _).other _ (by simp<;>omega) _,(hR.drewN _).other _ (by simp<;>omega) _,(hO.drewN _).set1 _,?_,?_,?_,?_,?_⟩,by simp[intOf]⟩
    ·exact(below_drewN hB _).setCell (by simp;omega) _
    ·unfold W64;go_arith
    ·unfold W64;go_arith
    ·unfold W64;go_arith
    ·unfold W64;go_arith
    ·have hh:=hH.out
     simp only[U,PB,V] at hh⊢
     go_arith
  ·go_wp2
   go_quiet (fail)
   go_wp2
   all_goals
    refine⟨⟨3,p,q,_,s,_,by omega,rfl,rfl,by omega,by omega,?_,by simpa using hsz,(hA.drewN _).other _ (by simp<;>omega) _,(hX.drewN _).other _ (by simp<;>omega) _,(hR.drewN _).other _ (by simp<;>omega) _,(hO.drewN _).set2 _,?_,?_,?_,?_,?_⟩,by simp[intOf]⟩
    ·exact(below_drewN hB _).setCell (by simp;omega) _
    ·unfold W64;go_arith
    ·unfold W64;go_arith
    ·unfold W64;go_arith
    ·unfold W64;go_arith
    ·have hh:=hH.out
     simp only[U,PB,V] at hh⊢
     go_arith
  ·go_wp2
   go_quiet (fail)
   go_wp2
   all_goals
    refine⟨⟨4,p,q,r,_,_,by omega,rfl,rfl,by omega,by omega,?_,by simpa using hsz,(hA.drewN _).other _ (by simp<;>omega) _,(hX.drewN _).other _ (by simp<;>omega) _,(hR.drewN _).other _ (by simp<;>omega) _,(hO.drewN _).set3 _,?_,?_,?_,?_,?_⟩,by simp[intOf]⟩
    ·exact(below_drewN hB _).setCell (by simp;omega) _
    ·unfold W64;go_arith
    ·unfold W64;go_arith
    ·unfold W64;go_arith
    ·unfold W64;go_arith
    ·have hh:=hH.out
     simp only[U,PB,V] at hh⊢
     go_arith
  ·go_wp2
   refine bodyPost_ret (v:= .tuple #[A4 p q r s,.bool (decide (0<m))]) (by simp[results,Tryz.results37,go_sem, *]) rfl ⟨?_,?_⟩
   ·have hh:=hH.out
    simp only[U,PB,V] at hh
    refine ret5 ?_ ?_ ?_ ?_ ?_
    ·unfold D0 V;omega
    ·unfold D1 V;omega
    ·unfold D2 V;omega
    ·unfold D3 V;omega
    ·rw[Bool.eq_iff_iff];unfold D4 V;simp;omega
   ·iterate 6 all_goals (go_grown<;>try with_reducible refine below_drewN ?_ _)
theorem rSub_any(a b c d x y z t:Int)(w:World)(ha:W64 a)(hb:W64 b)(hc:W64 c)(hd:W64 d)(hx:W64 x)(hy:W64 y)(hz:W64 z)(ht:W64 t):
 CC 114 #[A4 a b c d,A4 x y z t] w (.tuple #[A4 (D0 (V a b c d -V x y z t)) (D1 (V a b c d -V x y z t)) (D2 (V a b c d -V x y z t)) (D3 (V a b c d -V x y z t)),.bool (-D4 (V a b c d -V x y z t)==1)]):=by
 obtain⟨a1,a2⟩:=ha
 obtain⟨b1,b2⟩:=hb
 obtain⟨c1,c2⟩:=hc
 obtain⟨d1,d2⟩:=hd
 obtain⟨x1,x2⟩:=hx
 obtain⟨y1,y2⟩:=hy
 obtain⟨z1,z2⟩:=hz
 obtain⟨t1,t2⟩:=ht
 go_enter Tryz.func114,Tryz.ntmps114
 go_wp2
 go_loopw [7,8] (fun cr i wr=> ∃(k:Nat) (p q r s m:Int),k<=4/\i=iI k/\cr=iU m/\0<=m/\m<=1/\Bw w wr/\w.heap.size+4<=wr.heap.size/\
  C4 wr w.heap.size a b c d/\C4 wr (w.heap.size+1) x y z t/\C4 wr (w.heap.size+1+1) 0 0 0 0/\C4 wr (w.heap.size+1+1+1) p q r s/\W64 p/\W64 q/\W64 r/\W64 s/\
  U k p q r s -m*PB k=U k a b c d -U k x y z t) (fun _ i _=>4 -(intOf i).toNat)
 case atStart=>
  refine⟨0,0,0,0,0,0,by omega,rfl,rfl,by omega,by omega,?_,by simp,by unfold C4;simp[go_sem],by unfold C4;simp[go_sem],by unfold C4;simp[go_sem],by unfold C4;simp[go_sem],by unfold W64;omega,by unfold W64;omega,by unfold W64;omega,by unfold W64;omega,by simp[U,PB]⟩
  iterate 6 all_goals (go_grown<;>try with_reducible refine below_drewN ?_ _)
 case round=>
  obtain⟨k,p,q,r,s,m,hk,rfl,rfl,m0,m1,hB,hsz,hA,hX,hR,hO,hp,hq,hr,hs,hU⟩:=hrel
  obtain⟨p1,p2⟩:=hp;obtain⟨q1,q2⟩:=hq;obtain⟨r1,r2⟩:=hr;obtain⟨s1,s2⟩:=hs
  have hH:Hid (U k p q r s -m*PB k=U k a b c d -U k x y z t):=hU
  clear hU
  have hA':=hA;have hX':=hX;have hR':=hR;have hO':=hO
  obtain⟨⟨ac0,ac1,ac2,ac3⟩,af0,af1,af2,af3⟩:=hA'
  obtain⟨⟨xc0,xc1,xc2,xc3⟩,xf0,xf1,xf2,xf3⟩:=hX'
  obtain⟨⟨oc0,oc1,oc2,oc3⟩,of0,of1,of2,of3⟩:=hO'
  obtain⟨⟨rc0,rc1,rc2,rc3⟩,rf0,rf1,rf2,rf3⟩:=hR'
  have hk':k=0\/k=1\/k=2\/k=3\/k=4:=by omega
  rcases hk' with rfl | rfl | rfl | rfl | rfl
  ·rcases Bool.eq_false_or_eq_true (decide (a<x)) with gd | gd
   all_goals
    have g:=gd
    simp at g
    go_wp2
    go_quiet (fail)
    go_wp2
    go_quiet (fail)
    go_wp2
   all_goals
    refine⟨⟨1,_,q,r,s,_,by omega,rfl,rfl,by omega,by omega,?_,by simpa using hsz,(hA.drewN _).other _ (by simp<;>omega) _,(hX.drewN _).other _ (by simp<;>omega) _,(hR.drewN _).other _ (by simp<;>omega) _,(hO.drewN _).set0 _,?_,?_,?_,?_,?_⟩,by simp[intOf]⟩
    ·exact(below_drewN hB _).setCell (by simp;omega) _
    ·unfold W64;go_arith
    ·unfold W64;go_arith
    ·unfold W64;go_arith
    ·unfold W64;go_arith
    ·have hh:=hH.out
     simp only[U,PB,V] at hh⊢
     go_arith
  ·rcases Bool.eq_false_or_eq_true (decide (b<y)) with gd | gd
   all_goals
    have g:=gd
    simp at g
    go_wp2
    go_quiet (fail)
    go_wp2
    go_quiet (fail)
    go_wp2
   all_goals
    refine⟨⟨2,p,_,r,s,_,by omega,rfl,rfl,by omega,by omega,?_,by simpa using hsz,(hA.drewN _).other _ (by simp<;>omega) _,(hX.drewN _).other _ (by simp<;>omega) _,(hR.drewN _).other _ (by simp<;>omega) _,(hO.drewN _).set1 _,?_,?_,?_,?_,?_⟩,by simp[intOf]⟩
    ·exact(below_drewN hB _).setCell (by simp;omega) _
    ·unfold W64;go_arith
    ·unfold W64;go_arith
    ·unfold W64;go_arith
    ·unfold W64;go_arith
    ·have hh:=hH.out
     simp only[U,PB,V] at hh⊢
     go_arith
  ·rcases Bool.eq_false_or_eq_true (decide (c<z)) with gd | gd
   all_goals
    have g:=gd
    simp at g
    go_wp2
    go_quiet (fail)
    go_wp2
    go_quiet (fail)
    go_wp2
   all_goals
    refine⟨⟨3,p,q,_,s,_,by omega,rfl,rfl,by omega,by omega,?_,by simpa using hsz,(hA.drewN _).other _ (by simp<;>omega) _,(hX.drewN _).other _ (by simp<;>omega) _,(hR.drewN _).other _ (by simp<;>omega) _,(hO.drewN _).set2 _,?_,?_,?_,?_,?_⟩,by simp[intOf]⟩
    ·exact(below_drewN hB _).setCell (by simp;omega) _
    ·unfold W64;go_arith
    ·unfold W64;go_arith
    ·unfold W64;go_arith
    ·unfold W64;go_arith
    ·have hh:=hH.out
     simp only[U,PB,V] at hh⊢
     go_arith
  ·rcases Bool.eq_false_or_eq_true (decide (d<t)) with gd | gd
   all_goals
    have g:=gd
    simp at g
    go_wp2
    go_quiet (fail)
    go_wp2
    go_quiet (fail)
    go_wp2
   all_goals
    refine⟨⟨4,p,q,r,_,_,by omega,rfl,rfl,by omega,by omega,?_,by simpa using hsz,(hA.drewN _).other _ (by simp<;>omega) _,(hX.drewN _).other _ (by simp<;>omega) _,(hR.drewN _).other _ (by simp<;>omega) _,(hO.drewN _).set3 _,?_,?_,?_,?_,?_⟩,by simp[intOf]⟩
    ·exact(below_drewN hB _).setCell (by simp;omega) _
    ·unfold W64;go_arith
    ·unfold W64;go_arith
    ·unfold W64;go_arith
    ·unfold W64;go_arith
    ·have hh:=hH.out
     simp only[U,PB,V] at hh⊢
     go_arith
  ·go_wp2
   refine bodyPost_ret (v:= .tuple #[A4 p q r s,.bool (decide (0<m))]) (by simp[results,Tryz.results114,go_sem, *]) rfl ⟨?_,?_⟩
   ·have hh:=hH.out
    simp only[U,PB,V] at hh
    refine ret5 ?_ ?_ ?_ ?_ ?_
    ·unfold D0 V;omega
    ·unfold D1 V;omega
    ·unfold D2 V;omega
    ·unfold D3 V;omega
    ·rw[Bool.eq_iff_iff];unfold D4 V;simp;omega
   ·iterate 6 all_goals (go_grown<;>try with_reducible refine below_drewN ?_ _)
end Go.Proofs.YtclafkfelkmigaaGreatDoor
