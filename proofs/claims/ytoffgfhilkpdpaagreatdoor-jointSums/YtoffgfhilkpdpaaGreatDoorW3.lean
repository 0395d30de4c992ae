import Derived.Test.YtoffgfhilkpdpaaGreatDoorBB
import Derived.Test.YtoffgfhilkpdpaaGreatDoorSL
import Derived.Lib.AppendZerosOnto
import Derived.Laws.CopyOwn
namespace Go.Proofs.YtoffgfhilkpdpaaGreatDoor
set_option linter.unusedVariables false
set_option linter.unusedSimpArgs false
set_option maxRecDepth 100000
set_option maxHeartbeats 4000000
section
open Go.RowKit
def U(k:Nat)(a b c d:Int):Int:=match k with
 | 0=>0
 | 1=>a
 | 2=>a+b*18446744073709551616
 | 3=>a+b*18446744073709551616+c*0x100000000000000000000000000000000
 | _=>V a b c d
def PB(k:Nat):Int:=match k with
 | 0=>1
 | 1=>18446744073709551616
 | 2=>0x100000000000000000000000000000000
 | 3=>0x1000000000000000000000000000000000000000000000000
 | _=>0x10000000000000000000000000000000000000000000000000000000000000000
theorem ret5{a b c d a' b' c' d':Int}{k k':Bool}(h1:a=a')(h2:b=b')(h3:c=c')(h4:d=d')(h5:k=k'):Ending.returned (.tuple #[A4 a b c d,.bool k])=Ending.returned (.tuple #[A4 a' b' c' d',.bool k']):=by
 rw[h1,h2,h3,h4,h5]
theorem rAdd_any(a b c d x y z t:Int)(w:World)(ha:W64 a)(hb:W64 b)(hc:W64 c)(hd:W64 d)(hx:W64 x)(hy:W64 y)(hz:W64 z)(ht:W64 t):
 CC 42 #[A4 a b c d,A4 x y z t] w (.tuple #[A4 (D0 (V a b c d+V x y z t)) (D1 (V a b c d+V x y z t)) (D2 (V a b c d+V x y z t)) (D3 (V a b c d+V x y z t)),.bool (D4 (V a b c d+V x y z t)==1)]):=by
 obtain⟨a1,a2⟩:=ha
 obtain⟨b1,b2⟩:=hb
 obtain⟨c1,c2⟩:=hc
 obtain⟨d1,d2⟩:=hd
 obtain⟨x1,x2⟩:=hx
 obtain⟨y1,y2⟩:=hy
 obtain⟨z1,z2⟩:=hz
 obtain⟨t1,t2⟩:=ht
 go_enter Tryz.func42,Tryz.ntmps42
 go_wp2
 go_loopw [7,8] (fun cr i wr=> ∃(k:Nat) (p q r s m:Int),k<=4/\i=iI k/\cr=iU m/\0<=m/\m<=1/\Bw w wr/\w.heap.size+4<=wr.heap.size/\
  C4 wr w.heap.size a b c d/\C4 wr (w.heap.size+1) x y z t/\C4 wr (w.heap.size+1+1) 0 0 0 0/\C4 wr (w.heap.size+1+1+1) p q r s/\W64 p/\W64 q/\W64 r/\W64 s/\
  U k p q r s+m*PB k=U k a b c d+U k x y z t) (fun _ i _=>4 -(intOf i).toNat)
 case atStart=>
  refine⟨0,0,0,0,0,0,Z1,rfl,rfl,Z1,Z1,?_,by simp,by unfold C4;simp[go_sem],by unfold C4;simp[go_sem],by unfold C4;simp[go_sem],by unfold C4;simp[go_sem],by unfold W64;omega,by unfold W64;omega,by unfold W64;omega,by unfold W64;omega,by simp[U,PB]⟩
  iterate 6 all_goals (go_grown<;>try with_reducible refine below_drewN ?_ _)
 case round=>
  obtain⟨k,p,q,r,s,m,hk,rfl,rfl,m0,m1,hB,hsz,hA,hX,hR,hO,hp,hq,hr,hs,hU⟩:=hrel
  obtain⟨p1,p2⟩:=hp;obtain⟨q1,q2⟩:=hq;obtain⟨r1,r2⟩:=hr;obtain⟨s1,s2⟩:=hs
  have hH:Hid (U k p q r s+m*PB k=U k a b c d+U k x y z t):=hU
  clear hU
  have hA':=hA;have hX':=hX;have hR':=hR;have hO':=hO
  obtain⟨⟨ac0,ac1,ac2,ac3⟩,af0,af1,af2,af3⟩:=hA'
  obtain⟨⟨xc0,xc1,xc2,xc3⟩,xf0,xf1,xf2,xf3⟩:=hX'
  obtain⟨⟨oc0,oc1,oc2,oc3⟩,of0,of1,of2,of3⟩:=hO'
  obtain⟨⟨rc0,rc1,rc2,rc3⟩,rf0,rf1,rf2,rf3⟩:=hR'
  have hk':k=0\/k=1\/k=2\/k=3\/k=4:=Z1
  rcases hk' with rfl | rfl | rfl | rfl | rfl
  ·go_wp2
   go_quiet (fail)
   go_wp2
   all_goals
    refine⟨⟨1,_,q,r,s,_,Z1,rfl,rfl,Z1,Z1,?_,by simpa using hsz,(hA.drewN _).other _ (by simp<;>omega) _,(hX.drewN _).other _ (by simp<;>omega) _,(hR.drewN _).other _ (by simp<;>omega) _,(hO.drewN _).set0 _,?_,?_,?_,?_,?_⟩,by simp[intOf]⟩
    ·exact(below_drewN hB _).setCell (by simp;omega) _
    ·unfold W64;go_arith
    ·unfold W64;go_arith
    ·unfold W64;go_arith
    ·unfold W64;go_arith
    ·have hh:=hH.out
     simp only[U,PB,V] at hh⊢
     go_arith
  ·go_wp2
   go_quiet (fail)
   go_wp2
   all_goals
    refine⟨⟨2,p,_,r,s,_,Z1,rfl,rfl,Z1,Z1,?_,by simpa using hsz,(hA.drewN _).other _ (by simp<;>omega) _,(hX.drewN _).other _ (by simp<;>omega) _,(hR.drewN _).other _ (by simp<;>omega) _,(hO.drewN _).set1 _,?_,?_,?_,?_,?_⟩,by simp[intOf]⟩
    ·exact(below_drewN hB _).setCell (by simp;omega) _
    ·unfold W64;go_arith
    ·unfold W64;go_arith
    ·unfold W64;go_arith
    ·unfold W64;go_arith
    ·have hh:=hH.out
     simp only[U,PB,V] at hh⊢
     go_arith
  ·go_wp2
   go_quiet (fail)
   go_wp2
   all_goals
    refine⟨⟨3,p,q,_,s,_,Z1,rfl,rfl,Z1,Z1,?_,by simpa using hsz,(hA.drewN _).other _ (by simp<;>omega) _,(hX.drewN _).other _ (by simp<;>omega) _,(hR.drewN _).other _ (by simp<;>omega) _,(hO.drewN _).set2 _,?_,?_,?_,?_,?_⟩,by simp[intOf]⟩
    ·exact(below_drewN hB _).setCell (by simp;omega) _
    ·unfold W64;go_arith
    ·unfold W64;go_arith
    ·unfold W64;go_arith
    ·unfold W64;go_arith
    ·have hh:=hH.out
     simp only[U,PB,V] at hh⊢
     go_arith
  ·go_wp2
   go_quiet (fail)
   go_wp2
   all_goals
    refine⟨⟨4,p,q,r,_,_,Z1,rfl,rfl,Z1,Z1,?_,by simpa using hsz,(hA.drewN _).other _ (by simp<;>omega) _,(hX.drewN _).other _ (by simp<;>omega) _,(hR.drewN _).other _ (by simp<;>omega) _,(hO.drewN _).set3 _,?_,?_,?_,?_,?_⟩,by simp[intOf]⟩
    ·exact(below_drewN hB _).setCell (by simp;omega) _
    ·unfold W64;go_arith
    ·unfold W64;go_arith
    ·unfold W64;go_arith
    ·unfold W64;go_arith
    ·have hh:=hH.out
     simp only[U,PB,V] at hh⊢
     go_arith
  ·go_wp2
   refine bodyPost_ret (v:= .tuple #[A4 p q r s,.bool (decide (0<m))]) (by simp[results,Tryz.results42,go_sem, *]) rfl ⟨?_,?_⟩
   ·have hh:=hH.out
    simp only[U,PB,V] at hh
    refine ret5 ?_ ?_ ?_ ?_ ?_
    ·unfold D0 V;omega
    ·unfold D1 V;omega
    ·unfold D2 V;omega
    ·unfold D3 V;omega
    ·rw[Bool.eq_iff_iff];unfold D4 V;simp;omega
   ·iterate 6 all_goals (go_grown<;>try with_reducible refine below_drewN ?_ _)
theorem rSub_any(a b c d x y z t:Int)(w:World)(ha:W64 a)(hb:W64 b)(hc:W64 c)(hd:W64 d)(hx:W64 x)(hy:W64 y)(hz:W64 z)(ht:W64 t):
 CC 93 #[A4 a b c d,A4 x y z t] w (.tuple #[A4 (D0 (V a b c d -V x y z t)) (D1 (V a b c d -V x y z t)) (D2 (V a b c d -V x y z t)) (D3 (V a b c d -V x y z t)),.bool (-D4 (V a b c d -V x y z t)==1)]):=by
 obtain⟨a1,a2⟩:=ha
 obtain⟨b1,b2⟩:=hb
 obtain⟨c1,c2⟩:=hc
 obtain⟨d1,d2⟩:=hd
 obtain⟨x1,x2⟩:=hx
 obtain⟨y1,y2⟩:=hy
 obtain⟨z1,z2⟩:=hz
 obtain⟨t1,t2⟩:=ht
 go_enter Tryz.func93,Tryz.ntmps93
 go_wp2
 go_loopw [7,8] (fun cr i wr=> ∃(k:Nat) (p q r s m:Int),k<=4/\i=iI k/\cr=iU m/\0<=m/\m<=1/\Bw w wr/\w.heap.size+4<=wr.heap.size/\
  C4 wr w.heap.size a b c d/\C4 wr (w.heap.size+1) x y z t/\C4 wr (w.heap.size+1+1) 0 0 0 0/\C4 wr (w.heap.size+1+1+1) p q r s/\W64 p/\W64 q/\W64 r/\W64 s/\
  U k p q r s -m*PB k=U k a b c d -U k x y z t) (fun _ i _=>4 -(intOf i).toNat)
 case atStart=>
  refine⟨0,0,0,0,0,0,Z1,rfl,rfl,Z1,Z1,?_,by simp,by unfold C4;simp[go_sem],by unfold C4;simp[go_sem],by unfold C4;simp[go_sem],by unfold C4;simp[go_sem],by unfold W64;omega,by unfold W64;omega,by unfold W64;omega,by unfold W64;omega,by simp[U,PB]⟩
  iterate 6 all_goals (go_grown<;>try with_reducible refine below_drewN ?_ _)
 case round=>
  obtain⟨k,p,q,r,s,m,hk,rfl,rfl,m0,m1,hB,hsz,hA,hX,hR,hO,hp,hq,hr,hs,hU⟩:=hrel
  obtain⟨p1,p2⟩:=hp;obtain⟨q1,q2⟩:=hq;obtain⟨r1,r2⟩:=hr;obtain⟨s1,s2⟩:=hs
  have hH:Hid (U k p q r s -m*PB k=U k a b c d -U k x y z t):=hU
  clear hU
  have hA':=hA;have hX':=hX;have hR':=hR;have hO':=hO
  obtain⟨⟨ac0,ac1,ac2,ac3⟩,af0,af1,af2,af3⟩:=hA'
  obtain⟨⟨xc0,xc1,xc2,xc3⟩,xf0,xf1,xf2,xf3⟩:=hX'
  obtain⟨⟨oc0,oc1,oc2,oc3⟩,of0,of1,of2,of3⟩:=hO'
  obtain⟨⟨rc0,rc1,rc2,rc3⟩,rf0,rf1,rf2,rf3⟩:=hR'
  have hk':k=0\/k=1\/k=2\/k=3\/k=4:=Z1
  rcases hk' with rfl | rfl | rfl | rfl | rfl
  ·rcases Bool.eq_false_or_eq_true (decide (a<x)) with gd | gd
   all_goals
    have g:=gd
    simp at g
    go_wp2
    go_quiet (fail)
    go_wp2
    go_quiet (fail)
    go_wp2
   all_goals
    refine⟨⟨1,_,q,r,s,_,Z1,rfl,rfl,Z1,Z1,?_,by simpa using hsz,(hA.drewN _).other _ (by simp<;>omega) _,(hX.drewN _).other _ (by simp<;>omega) _,(hR.drewN _).other _ (by simp<;>omega) _,(hO.drewN _).set0 _,?_,?_,?_,?_,?_⟩,by simp[intOf]⟩
    ·exact(below_drewN hB _).setCell (by simp;omega) _
    ·unfold W64;go_arith
    ·unfold W64;go_arith
    ·unfold W64;go_arith
    ·unfold W64;go_arith
    ·have hh:=hH.out
     simp only[U,PB,V] at hh⊢
     go_arith
  ·rcases Bool.eq_false_or_eq_true (decide (b<y)) with gd | gd
   all_goals
    have g:=gd
    simp at g
    go_wp2
    go_quiet (fail)
    go_wp2
    go_quiet (fail)
    go_wp2
   all_goals
    refine⟨⟨2,p,_,r,s,_,Z1,rfl,rfl,Z1,Z1,?_,by simpa using hsz,(hA.drewN _).other _ (by simp<;>omega) _,(hX.drewN _).other _ (by simp<;>omega) _,(hR.drewN _).other _ (by simp<;>omega) _,(hO.drewN _).set1 _,?_,?_,?_,?_,?_⟩,by simp[intOf]⟩
    ·exact(below_drewN hB _).setCell (by simp;omega) _
    ·unfold W64;go_arith
    ·unfold W64;go_arith
    ·unfold W64;go_arith
    ·unfold W64;go_arith
    ·have hh:=hH.out
     simp only[U,PB,V] at hh⊢
     go_arith
  ·rcases Bool.eq_false_or_eq_true (decide (c<z)) with gd | gd
   all_goals
    have g:=gd
    simp at g
    go_wp2
    go_quiet (fail)
    go_wp2
    go_quiet (fail)
    go_wp2
   all_goals
    refine⟨⟨3,p,q,_,s,_,Z1,rfl,rfl,Z1,Z1,?_,by simpa using hsz,(hA.drewN _).other _ (by simp<;>omega) _,(hX.drewN _).other _ (by simp<;>omega) _,(hR.drewN _).other _ (by simp<;>omega) _,(hO.drewN _).set2 _,?_,?_,?_,?_,?_⟩,by simp[intOf]⟩
    ·exact(below_drewN hB _).setCell (by simp;omega) _
    ·unfold W64;go_arith
    ·unfold W64;go_arith
    ·unfold W64;go_arith
    ·unfold W64;go_arith
    ·have hh:=hH.out
     simp only[U,PB,V] at hh⊢
     go_arith
  ·rcases Bool.eq_false_or_eq_true (decide (d<t)) with gd | gd
   all_goals
    have g:=gd
    simp at g
    go_wp2
    go_quiet (fail)
    go_wp2
    go_quiet (fail)
    go_wp2
   all_goals
    refine⟨⟨4,p,q,r,_,_,Z1,rfl,rfl,Z1,Z1,?_,by simpa using hsz,(hA.drewN _).other _ (by simp<;>omega) _,(hX.drewN _).other _ (by simp<;>omega) _,(hR.drewN _).other _ (by simp<;>omega) _,(hO.drewN _).set3 _,?_,?_,?_,?_,?_⟩,by simp[intOf]⟩
    ·exact(below_drewN hB _).setCell (by simp;omega) _
    ·unfold W64;go_arith
    ·unfold W64;go_arith
    ·unfold W64;go_arith
    ·unfold W64;go_arith
    ·have hh:=hH.out
     simp only[U,PB,V] at hh⊢
     go_arith
  ·go_wp2
   refine bodyPost_ret (v:= .tuple #[A4 p q r s,.bool (decide (0<m))]) (by simp[results,Tryz.results93,go_sem, *]) rfl ⟨?_,?_⟩
   ·have hh:=hH.out
    simp only[U,PB,V] at hh
    refine ret5 ?_ ?_ ?_ ?_ ?_
    ·unfold D0 V;omega
    ·unfold D1 V;omega
    ·unfold D2 V;omega
    ·unfold D3 V;omega
    ·rw[Bool.eq_iff_iff];unfold D4 V;simp;omega
   ·iterate 6 all_goals (go_grown<;>try with_reducible refine below_drewN ?_ _)
def C8(w:World)(n:Nat)(a b c d e f g h:Int):Prop:=
 (w.cell? ⟨n,0,none⟩=some (iU a)/\w.cell? ⟨n,1,none⟩=some (iU b)/\w.cell? ⟨n,2,none⟩=some (iU c)/\w.cell? ⟨n,3,none⟩=some (iU d)/\
  w.cell? ⟨n,4,none⟩=some (iU e)/\w.cell? ⟨n,5,none⟩=some (iU f)/\w.cell? ⟨n,6,none⟩=some (iU g)/\w.cell? ⟨n,7,none⟩=some (iU h))/\
 ∀o,o<8->w.frozen? ⟨n,o,none⟩=false
theorem C8.below{w w':World}{m n:Nat}{a b c d e f g h:Int}(H:C8 w n a b c d e f g h)(hb:Below m w w')(hn:n<m):C8 w' n a b c d e f g h:=by
 obtain⟨⟨h0,h1,h2,h3,h4,h5,h6,h7⟩,hf⟩:=H
 have k: ∀o,w'.cell? ⟨n,o,none⟩=w.cell? ⟨n,o,none⟩:=fun o=>hb.cell (p:=⟨n,o,none⟩) hn
 have l: ∀o,w'.frozen? ⟨n,o,none⟩=w.frozen? ⟨n,o,none⟩:=fun o=>hb.frozen (p:=⟨n,o,none⟩) hn
 exact⟨⟨(k _).trans h0,(k _).trans h1,(k _).trans h2,(k _).trans h3,(k _).trans h4,(k _).trans h5,(k _).trans h6,(k _).trans h7⟩,fun o ho=>(l o).trans (hf o ho)⟩
theorem C8.drew{w:World}{n:Nat}{a b c d e f g h:Int}(H:C8 w n a b c d e f g h):C8 w.drew n a b c d e f g h:=H
theorem C8.drewN{w:World}{n:Nat}{a b c d e f g h:Int}(H:C8 w n a b c d e f g h)(k:Nat):C8 (w.drewN k) n a b c d e f g h:=H
theorem C8.alloc{w:World}{n:Nat}{a b c d e f g h:Int}(H:C8 w n a b c d e f g h)(hn:n<w.heap.size)(o:Obj):C8 (w.alloc o) n a b c d e f g h:=
 H.below (m:=w.heap.size) ((Below.refl _ _).alloc (Nat.le_refl _) o) hn
theorem C8.new(w:World)(a b c d e f g h:Int)(t:TypeId):C8 (w.alloc (.cells #[iU a,iU b,iU c,iU d,iU e,iU f,iU g,iU h] t)) w.heap.size a b c d e f g h:=by
 refine⟨?_,fun o _=>?_⟩<;>simp[go_sem]
theorem C8.other{w:World}{n:Nat}{a b c d e f g h:Int}(H:C8 w n a b c d e f g h)(x:Addr)(hx:n≠x.block)(v:Value):C8 (w.setCell x v) n a b c d e f g h:=by
 have hb:(w.setCell x v).heap[n]?=w.heap[n]?:=Below.heap_setCell w x v n hx
 have k: ∀o,(w.setCell x v).cell? ⟨n,o,none⟩=w.cell? ⟨n,o,none⟩:=fun o=>World.cell?_of_block (w:=w) hb
 have l: ∀o,(w.setCell x v).frozen? ⟨n,o,none⟩=w.frozen? ⟨n,o,none⟩:=fun o=>World.frozen?_of_block (w:=w) hb
 obtain⟨⟨h0,h1,h2,h3,h4,h5,h6,h7⟩,hf⟩:=H
 exact⟨⟨(k _).trans h0,(k _).trans h1,(k _).trans h2,(k _).trans h3,(k _).trans h4,(k _).trans h5,(k _).trans h6,(k _).trans h7⟩,fun o ho=>(l o).trans (hf o ho)⟩
theorem C8.set0{w:World}{n:Nat}{a b c d e f g h:Int}(H:C8 w n a b c d e f g h)(v:Int):C8 (w.setCell ⟨n,0,none⟩ (iU v)) n v b c d e f g h:=by
 obtain⟨⟨h0,h1,h2,h3,h4,h5,h6,h7⟩,hf⟩:=H
 refine⟨?_,fun o ho=>?_⟩
 ·simp[go_sem, *]
 ·rw[World.frozen?_setCell];exact hf o ho
theorem C8.set1{w:World}{n:Nat}{a b c d e f g h:Int}(H:C8 w n a b c d e f g h)(v:Int):C8 (w.setCell ⟨n,1,none⟩ (iU v)) n a v c d e f g h:=by
 obtain⟨⟨h0,h1,h2,h3,h4,h5,h6,h7⟩,hf⟩:=H
 refine⟨?_,fun o ho=>?_⟩
 ·simp[go_sem, *]
 ·rw[World.frozen?_setCell];exact hf o ho
theorem C8.set2{w:World}{n:Nat}{a b c d e f g h:Int}(H:C8 w n a b c d e f g h)(v:Int):C8 (w.setCell ⟨n,2,none⟩ (iU v)) n a b v d e f g h:=by
 obtain⟨⟨h0,h1,h2,h3,h4,h5,h6,h7⟩,hf⟩:=H
 refine⟨?_,fun o ho=>?_⟩
 ·simp[go_sem, *]
 ·rw[World.frozen?_setCell];exact hf o ho
theorem C8.set3{w:World}{n:Nat}{a b c d e f g h:Int}(H:C8 w n a b c d e f g h)(v:Int):C8 (w.setCell ⟨n,3,none⟩ (iU v)) n a b c v e f g h:=by
 obtain⟨⟨h0,h1,h2,h3,h4,h5,h6,h7⟩,hf⟩:=H
 refine⟨?_,fun o ho=>?_⟩
 ·simp[go_sem, *]
 ·rw[World.frozen?_setCell];exact hf o ho
abbrev WV(n:Int):Value:=A8 (D0 n) (D1 n) (D2 n) (D3 n) (D0 (D4 n)) (D1 (D4 n)) (D2 (D4 n)) (D3 (D4 n))
abbrev Lqw:List Value:=[iU 0,iU 0,iU 0,iU 0,iU 0,iU 0,iU 0,iU 0]
theorem uQw:Tryz.prog.underlying 91=some (.array 8 22):=Tryz.underlying91
theorem iQw:(Tryz.prog.info? 91).map (·.size)=some 8:=by kernel_rfl
theorem aQw(w:World):(Instr.alloc 91 true (.tuple #[])).run Tryz.prog w= .ok (.pointer (some ⟨w.heap.size,0,none⟩)) (w.alloc (.cells Lqw.toArray 91)):=by kernel_rfl
theorem zQ(w:World):(Instr.build 24 [].toArray).run Tryz.prog w= .ok (A4 0 0 0 0) w:=by kernel_rfl
theorem jQ:(Tryz.prog.info? 22).map (·.size)=some 1:=by kernel_rfl
theorem slQ(b:Nat)(w:World):(Instr.sliceAt 24 (.pointer (some ⟨b,0,none⟩)) none none none).run Tryz.prog w= .ok (.slice (some ⟨b,0,none⟩) 4 4) w:=by
 simp[Instr.sliceAt,Instr.slice,go_sem,Tryz.underlying24]
theorem slQ4(b:Nat)(w:World):(Instr.sliceAt 172 (.pointer (some ⟨b,0,none⟩)) none (some (iI 4)) none).run Tryz.prog w= .ok (.slice (some ⟨b,0,none⟩) 4 12) w:=by
 simp[Instr.sliceAt,Instr.slice,go_sem,Tryz.underlying172]
theorem slQ8(b:Nat)(w:World):(Instr.sliceAt 172 (.pointer (some ⟨b,0,none⟩)) (some (iI 8)) none none).run Tryz.prog w= .ok (.slice (some ⟨b,8,none⟩) 4 4) w:=by
 simp[Instr.sliceAt,Instr.slice,go_sem,Tryz.underlying172,Addr.add]
theorem adK(b o j:Nat):(⟨b,o,none⟩:Addr).add j=⟨b,o+j,none⟩:=by simp[Addr.add]
theorem one_Q(n:Int): ∀v∈LN n,v.oneCell'=true:=fun v hv=>by simp at hv;rcases hv with h | h | h | h<;>(subst h;rfl)
theorem eDv0(vs:Array Value)(w:World):(callFunc 118 vs).run Tryz.prog w= .ok (.enter 118 vs) w:=by kernel_rfl
theorem eDv1(vs:Array Value)(w:World):(callFunc 119 vs).run Tryz.prog w= .ok (.enter 119 vs) w:=by kernel_rfl
theorem eDv2(vs:Array Value)(w:World):(callFunc 95 vs).run Tryz.prog w= .ok (.enter 95 vs) w:=by kernel_rfl
theorem eDv3(vs:Array Value)(w:World):(callFunc 120 vs).run Tryz.prog w= .ok (.enter 120 vs) w:=by kernel_rfl
theorem eDv4(vs:Array Value)(w:World):(callFunc 121 vs).run Tryz.prog w= .ok (.enter 121 vs) w:=by kernel_rfl
theorem divide_core(n m ln dv Q rr:Int)(up:Nat)(ds es:List Nat)(rF:Nat->Int)(qd:Nat->Nat)(qF:Nat->List Nat)(w:World)(hds:ds.length=12)(hes:es.length=12)(hup:(up:Int)=256 -ln)(hu2:up<=255)(heq:Hid (∀p q u,(do eqGuard .eql 24 p q (NV m) (A4 0 0 0 0);binOp .eql 24 (NV m) (A4 0 0 0 0):Sem Value).run Tryz.prog u= .ok (.bool false) u))(hL:Hid (∀u,CC 118 #[NV m] u (iI ln)))(hA:Hid (∀u,CC 119 #[WV n,iI (up:Int)] u (.agg (U64 ds).toArray)))(hWd:Hid (∀u,CC 95 #[NV m] u (WV m)))(hD:Hid (∀u,CC 119 #[WV m,iI (up:Int)] u (.agg (U64 es).toArray)))(hes4:Hid (∀(j:Nat) v,(LN dv)[j]?=some v->(U64 es)[j]?=some v))(hds4:Hid (∀(j:Nat) v,(LN (rF 0))[j]?=some v->(U64 ds)[8+j]?=some v))(hS:Hid (∀i,i<8-> ∀u,CC 120 #[NV (rF i),iU ((ds.getD (7 -i) 0:Nat):Int),NV dv] u (.tuple #[iU ((qd i:Nat):Int),NV (rF (i+1))])))(hlo:Hid (∀u,CC 121 #[NV (rF 8),iI (up:Int)] u (NV rr)))(hQ0:Hid (qF 0=List.replicate 8 0))(hQl:Hid (∀i,(qF i).length=8))(hQs:Hid (∀i,i<8->qF (i+1)=(qF i).set (7 -i) (qd i)))(hQ8:Hid (U64 (qF 8)=LW Q)):
 CC 94 #[WV n,NV m] w (.tuple #[WV Q,NV rr,iI 0]):=by
 go_enter Tryz.func94,Tryz.ntmps94
 go_upto_region 1 with fail
 obtain⟨v0,hC,HB0,K0⟩:=bx4 w (LW n) 91 (LN m) 24 Lqw 91 Lq 24
 rw[hC]
 clear hC
 go_upto_region 1 with fail
 refine Rn K0 HB0 (cG 0 15 [_,_,_] []) (Oc3 (g_ld 1 uQ iQ) (g_bd zQ) (g_bn (heq.out _ _))) fun u1 HB1 _ K1=>?_
 simp only[sQ] at K1⊢
 clear K0 HB0
 go_upto_region 3 with fail
 refine Rn K1 HB1 (cG 0 20 [_,_,_] [(3,7,_)]) (Oc4 (g_ld 1 uQ iQ) (g_cl eDv0 hL.out) (g_bn (fun uZ=>Xi _ _ 256 ln (up:Int) uZ Z1 Z1 Z1)) g_as) fun u2 HB2 _ K2=>?_
 simp only[sQ] at K2⊢
 clear K1 HB1
 go_upto_region 4 with fail
 refine Rd K2 HB2 [] [(7,8,U64 z12,some (9,U64 ds)),(8,9,U64 z12,some (10,U64 es))] (cG 0 23 [_,_,_,_,_,_,_] []) [(9,7),(10,8)] [] [] (Od8 (g_ld 0 uQw iQw) g_mv (g_cl eDv1 hA.out) (g_ld 1 uQ iQ) (g_cl eDv2 hWd.out) g_mv (g_cl eDv1 hD.out) (g_al 0 Wp)<|Oc3 (g_al 1 Wp) (g_sn 0 Yh (h1:=U64_a1 _) (hm:=by rw[Y8,hds]) (hl:=by first | rw[Y8,Y8,hds,show z12.length=12 from rfl] | rfl)) (g_sn 1 Yh (h1:=U64_a1 _) (hm:=by rw[Y8,hes]) (hl:=by first | rw[Y8,Y8,hes,show z12.length=12 from rfl] | rfl))) fun u3 b3_7 b3_8 HB3 _ K3=>?_
 simp only[sQ] at K3⊢
 clear K2 HB2
 go_upto_region 5 with fail
 refine Rp K3 HB3 [] [(0,10,Lq,none),(1,11,Lq,none)] [] [] [] [] (Oc2 (g_al 0 aQ) (g_al 1 aQ)) fun u4 b4_0 b4_1 HB4 _ K4=>?_
 simp only[sQ] at K4⊢
 clear K3 HB3
 go_upto_region 6 with fail
 refine Rd K4 HB4 [.no,.no,.no,.no,.no,.no,.all 2 (LN dv)] [] (cG 0 30 [_,_,_] []) [] [] [] (Oc3 (g_sl (slQ b4_0)) (g_sl (slQ4 b3_8)) (g_cp 6 (sl:=4) (dl:=4) [] Lq [] (LN dv) Tryz.underlying121 jQ rfl (fun f u kZ bZ j v hj=>by rw[Addr.add0];exact((KC.cv kZ 5) j v (hes4.out j v hj)).1) (one_Q dv) rfl rfl)) fun u5 HB5 _ K5=>?_
 simp only[sQ] at K5⊢
 clear K4 HB4
 go_upto_region 7 with fail
 refine Rd K5 HB5 [.no,.no,.no,.no,.no,.no,.no,.all 2 (LN (rF 0))] [] (cG 0 33 [_,_,_] []) [] [] [] (Oc3 (g_sl (slQ b4_1)) (g_sl (slQ8 b3_7)) (g_cp 7 (sl:=4) (dl:=4) [] Lq [] (LN (rF 0)) Tryz.underlying121 jQ rfl (fun f u kZ bZ j v hj=>by rw[adK];exact((KC.cv kZ 4) (8+j) v (hds4.out j v hj)).1) (one_Q (rF 0)) rfl rfl)) fun u6 HB6 _ K6=>?_
 simp only[sQ] at K6⊢
 clear K5 HB5
 go_upto_region 8 with fail
 refine Rp K6 HB6 [] [(0,12,Lqw,none)] [] [] [] [] (Oc1 (g_al 0 aQw)) fun u7 b7_0 HB7 _ K7=>?_
 simp only[sQ] at K7⊢
 clear K6 HB6
 go_upto_region 9 with fail
 refine Rn K7 HB7 [(0,36,_)] (Oc1 g_mv) fun u8 HB8 _ K8=>?_
 simp only[sQ] at K8⊢
 clear K7 HB7
 go_wp2_with fail
 go_loopw [36] (fun s36 wr=> ∃(i:Nat),i<=8/\s36=iI (i:Int)/\Bw w wr/\CV wr (w.heap.size+1+1) (Lqw)/\w.heap.size+1+1<wr.heap.size/\CV wr (w.heap.size+1+1+1) (Lq)/\w.heap.size+1+1+1<wr.heap.size/\CV wr b3_7 (U64 ds)/\b3_7<wr.heap.size/\CV wr b4_0 (LN dv)/\b4_0<wr.heap.size/\CV wr b4_1 (LN (rF i))/\b4_1<wr.heap.size/\CV wr b7_0 (U64 (qF i))/\b7_0<wr.heap.size) (fun s36 _=>8 -(intOf s36).toNat)
 case atStart=>exact⟨0,Z1,rfl,HB8,(K8.cv 2),(K8.lt 2),(K8.cv 3),(K8.lt 3),(K8.cv 4),(K8.lt 4),(K8.cv 6),(K8.lt 6),(K8.cv 7),(K8.lt 7),by rw[hQ0.out];exact(K8.cv 8),(K8.lt 8)⟩
 case round=>
  obtain⟨i,hk,rfl,HBr,C0,lC0,C1,lC1,C2,lC2,C3,lC3,C4,lC4,C5,lC5⟩:=hrel
  clear HB8
  have hnK:=K8.n
  simp at hnK
  have hoK4:=K8.lo 4
  have hoK5:=K8.lo 5
  have hoK6:=K8.lo 6
  have hoK7:=K8.lo 7
  have hoK8:=K8.lo 8
  by_cases hj:i<8
  ·have hl:decide ((i:Int)<8)=true:=by simp;omega
   have hst:=hS.out i hj
   have hgd:=Y0 ds (7 -i) Z1
   have hql:=hQl.out i
   have hgq:=Y0 (qF i) (7 -i) Z1
   have hqs:=hQs.out i hj
   obtain⟨qs,eq⟩:=Z3 (qF i)
   rw[eq] at hgq hqs C5
   obtain⟨x,ex⟩:=Z3 (ds.getD (7 -i) 0)
   rw[ex] at hgd hst
   obtain⟨r,er⟩:=Z3 (rF i)
   rw[er] at hst C4
   obtain⟨s,es'⟩:=Z3 (rF (i+1))
   rw[es'] at hst
   obtain⟨d,ed⟩:=Z3 (qd i)
   rw[ed] at hst hqs
   have hqs:Hid _:=hqs
   have es2:Hid _:=es'
   have hst:Hid _:=hst
   clear eq ex er ed es'
   have K8_1:Bk w.heap.size wr [(true,w.heap.size+1+1,Lqw),(true,w.heap.size+1+1+1,Lq),(true,b3_7,U64 ds),(true,b4_0,LN dv),(true,b4_1,LN r),(true,b7_0,U64 qs)]:=⟨.o lC0 (K8.lo 2) C0<| .o lC1 (K8.lo 3) C1<| .o lC2 (K8.lo 4) C2<| .o lC3 (K8.lo 6) C3<| .o lC4 (K8.lo 7) C4<| .o lC5 (K8.lo 8) C5<|trivial,by simp<;>omega⟩
   go_upto_region 10 with fail
   refine Rn K8_1 HBr [(0,37,_)] (Oc1 (g_bn (fun uZ=>Za _ _ (i:Int) 8 _ uZ hl))) fun u9 HB9 sz9 K9=>?_
   simp only[sQ] at K9⊢
   go_upto_region 11 with fail
   refine Rn K9 HB9 [(0,38,_),(1,13,_)] (Oc2 g_mv g_as) fun u10 HB10 sz10 K10=>?_
   simp only[sQ] at K10⊢
   clear K9 HB9
   go_upto_region 12 with fail
   refine Rn K10 HB10 [(0,39,_),(1,40,_),(2,14,_)] (Oc3 g_mv (g_bn (fun uZ=>Xi _ _ 7 (i:Int) ((7 -i:Nat):Int) uZ Z1 Z1 Z1)) g_as) fun u11 HB11 _ K11=>?_
   simp only[sQ] at K11⊢
   clear K10 HB10
   go_upto_region 13 with fail
   refine Rd K11 HB11 [.no,.no,.no,.no,.all 12 (LN s),.all 11 (U64 (qs.set (7 -i) d))] [] (cG 0 42 [_,_,_,_,_,_,_] [(7,41,_),(8,49,_),(9,50,_),(10,51,_)]) [(12,1)] [] [] (Od8 g_mv (g_ld 4 uQ iQ) g_mv (g_ix (fun uZ=>xb12 b3_7 (7 -i) uZ Z1)) (g_lw 2 (7 -i) l64 hgd) (g_ld 3 uQ iQ) (g_cl eDv3 hst.out) g_mv<|Oc5 g_ex g_ex (g_ix (fun uZ=>xbW b7_0 (7 -i) uZ Z1)) (g_sw 5 (7 -i) s64 hgq (Ul _ _ _)) (g_st 4 iQ)) fun u12 HB12 _ K12=>?_
   simp only[sQ] at K12⊢
   clear K11 HB11
   go_upto_region 14 with fail
   refine Rp K12 HB12 [] [] [(0,52,_),(1,36,_)] [(1,0)] [(1,36)] [] (Oc2 (g_bn (fun uZ=>Zu _ _ (i:Int) 1 ((i+1:Nat):Int) uZ Z1 Z1 Z1)) g_mv) fun u13 HB13 _ K13=>?_
   simp only[sQ] at K13⊢
   clear K12 HB12
   go_wp2
   refine⟨⟨i+1,Z1,rfl,HB13,(K13.cv 0),(K13.lt 0),(K13.cv 1),(K13.lt 1),(K13.cv 2),(K13.lt 2),(K13.cv 3),(K13.lt 3),by rw[es2.out];exact(K13.cv 4),(K13.lt 4),by rw[hqs.out];exact(K13.cv 5),(K13.lt 5)⟩,?_⟩
   simp[intOf]<;>omega
  ·have hl:decide ((i:Int)<8)=false:=by simp;omega
   have hi8:i=8:=Z1
   subst hi8
   have e8:=hQ8.out
   rw[e8] at C5
   obtain⟨r,er⟩:=Z3 (rF 8)
   rw[er] at C4 hlo
   clear e8 er
   have K8_1:Bk w.heap.size wr [(true,w.heap.size+1+1,Lqw),(true,w.heap.size+1+1+1,Lq),(true,b3_7,U64 ds),(true,b4_0,LN dv),(true,b4_1,LN r),(true,b7_0,LW Q)]:=⟨.o lC0 (K8.lo 2) C0<| .o lC1 (K8.lo 3) C1<| .o lC2 (K8.lo 4) C2<| .o lC3 (K8.lo 6) C3<| .o lC4 (K8.lo 7) C4<| .o lC5 (K8.lo 8) C5<|trivial,by simp<;>omega⟩
   go_upto_region 10 with fail
   refine Rn K8_1 HBr [(0,37,_)] (Oc1 (g_bn (fun uZ=>Za _ _ ((8:Nat):Int) 8 _ uZ hl))) fun u9 HB9 sz9 K9=>?_
   simp only[sQ] at K9⊢
   go_upto_region 15 with fail
   refine Rd K9 HB9 [.all 4 (LW Q),.all 5 (LN rr)] [] (cG 0 53 [_,_,_,_] [(6,6,_)]) [] [] [] (Oc7 (g_ld 5 uQw iQw) (g_ld 4 uQ iQ) g_mv (g_cl eDv4 hlo.out) (g_st 0 iQw) (g_st 1 iQ) g_as) fun u10 HB10 sz10 K10=>?_
   simp only[sQ] at K10⊢
   clear K9 HB9
   have c4_0:=((K10.cv 0) 0 _ rfl).1
   have c4_1:=((K10.cv 0) 1 _ rfl).1
   have c4_2:=((K10.cv 0) 2 _ rfl).1
   have c4_3:=((K10.cv 0) 3 _ rfl).1
   have c4_4:=((K10.cv 0) 4 _ rfl).1
   have c4_5:=((K10.cv 0) 5 _ rfl).1
   have c4_6:=((K10.cv 0) 6 _ rfl).1
   have c4_7:=((K10.cv 0) 7 _ rfl).1
   have c5:=(K10.cv 1).n4
   go_wp2
   refine bodyPost_ret (v:= .tuple #[WV Q,NV rr,iI 0]) (by simp[results,Tryz.results94,go_sem,c4_0,c4_1,c4_2,c4_3,c4_4,c4_5,c4_6,c4_7,c5]) rfl ⟨rfl,HB10⟩
theorem slQw(b:Nat)(w:World):(Instr.sliceAt 91 (.pointer (some ⟨b,0,none⟩)) (some (iI 4)) none none).run Tryz.prog w= .ok (.slice (some ⟨b,4,none⟩) 4 4) w:=by
 simp[Instr.sliceAt,Instr.slice,go_sem,Tryz.underlying91,Addr.add]
theorem lQ{b c:Nat}{v:Int}(w:World)(h:w.cell? ⟨b,c,none⟩=some (iU v)):(Instr.loadAt 22 (.pointer (some ⟨b,c,none⟩))).run Tryz.prog w= .ok (iU v) w:=by go_simp
theorem eMv0(vs:Array Value)(w:World):(callFunc 142 vs).run Tryz.prog w= .ok (.enter 142 vs) w:=by kernel_rfl
theorem eMv1(vs:Array Value)(w:World):(callFunc 127 vs).run Tryz.prog w= .ok (.enter 127 vs) w:=by kernel_rfl
theorem mul_core(a P:Int)(bs:List Nat)(uF sF rw_ tpF cyF tcF:Nat->Int)(pd:Nat->Nat)(pF:Nat->List Nat)(w:World)(hbl:bs.length=4)(hp0:Hid (pF 0=List.replicate 8 0))(hu0:Hid (uF 0=0))(hS:Hid (∀i,i<4-> ∀u,CC 142 #[NV a,iU ((bs.getD i 0:Nat):Int)] u (.tuple #[NV (rw_ i),iU (tpF i)])))(hA:Hid (∀i,i<4-> ∀u,CC 127 #[NV (uF i),NV (rw_ i)] u (.tuple #[NV (sF i),iU (cyF i)])))(hC:Hid (∀i,i<4-> ∀p q u,(do eqGuard .add 22 p q (iU (tpF i)) (iU (cyF i));binOp .add 22 (iU (tpF i)) (iU (cyF i)):Sem Value).run Tryz.prog u= .ok (iU (tcF i)) u))(hB:Hid (∀i,i<4-> ∀u,(Instr.build 24 ([0,1,2,3].zip [iU (D1 (sF i)),iU (D2 (sF i)),iU (D3 (sF i)),iU (tcF i)]).toArray).run Tryz.prog u= .ok (NV (uF (i+1))) u))(hPl:Hid (∀i,(pF i).length=8))(hP:Hid (∀i,i<4->pF (i+1)=(pF i).set i (pd i)))(hD:Hid (∀i,i<4->D0 (sF i)=((pd i:Nat):Int)))(hP4:Hid (U64 (pF 4)=LN P++Lq))(hU4:Hid (uF 4=D4 P)):
 CC 140 #[NV a,.agg (U64 bs).toArray] w (WV P):=by
 go_enter Tryz.func140,Tryz.ntmps140
 go_upto_region 1 with fail
 obtain⟨v0,hC,HB0,K0⟩:=bx3 w (LN a) 24 (U64 bs) 24 Lqw 91
 rw[hC]
 clear hC
 go_upto_region 1 with fail
 refine Rp K0 HB0 [] [(0,5,Lqw,none)] [] [] [] [] (Oc1 (g_al 0 aQw)) fun u1 b1_0 HB1 _ K1=>?_
 simp only[sQ] at K1⊢
 clear K0 HB0
 go_upto_region 2 with fail
 refine Rp K1 HB1 [] [(0,6,Lq,none)] [] [] [] [] (Oc1 (g_al 0 aQ)) fun u2 b2_0 HB2 _ K2=>?_
 simp only[sQ] at K2⊢
 clear K1 HB1
 go_upto_region 3 with fail
 refine Rn K2 HB2 [(0,12,_)] (Oc1 g_mv) fun u3 HB3 _ K3=>?_
 simp only[sQ] at K3⊢
 clear K2 HB2
 go_wp2_with fail
 go_loopw [12] (fun s12 wr=> ∃(i:Nat),i<=4/\s12=iI (i:Int)/\Bw w wr/\CV wr (w.heap.size) (LN a)/\w.heap.size<wr.heap.size/\CV wr (w.heap.size+1) (U64 bs)/\w.heap.size+1<wr.heap.size/\CV wr (w.heap.size+1+1) (Lqw)/\w.heap.size+1+1<wr.heap.size/\CV wr b1_0 (U64 (pF i))/\b1_0<wr.heap.size/\CV wr b2_0 (LN (uF i))/\b2_0<wr.heap.size) (fun s12 _=>4 -(intOf s12).toNat)
 case atStart=>exact⟨0,Z1,rfl,HB3,(K3.cv 0),(K3.lt 0),(K3.cv 1),(K3.lt 1),(K3.cv 2),(K3.lt 2),by rw[hp0.out];exact(K3.cv 3),(K3.lt 3),by rw[hu0.out];exact(K3.cv 4),(K3.lt 4)⟩
 case round=>
  obtain⟨i,hk,rfl,HBr,C0,lC0,C1,lC1,C2,lC2,C3,lC3,C4,lC4⟩:=hrel
  clear HB3
  have hnK:=K3.n
  simp at hnK
  have hoK3:=K3.lo 3
  have hoK4:=K3.lo 4
  by_cases hj:i<4
  ·have hl:decide ((i:Int)<4)=true:=by simp;omega
   have hsc:=hS.out i hj
   have had:=hA.out i hj
   have hac:=hC.out i hj
   have hbd:=hB.out i hj
   have hpl:=hPl.out i
   have hgb:=Y0 bs i Z1
   have hgp:=Y0 (pF i) i Z1
   have hps:=hP.out i hj
   have hd0:=hD.out i hj
   obtain⟨ps,eq⟩:=Z3 (pF i)
   rw[eq] at hgp hps C3
   obtain⟨x,ex⟩:=Z3 (bs.getD i 0)
   rw[ex] at hgb hsc
   obtain⟨u,eu⟩:=Z3 (uF i)
   rw[eu] at had C4
   obtain⟨v,ev⟩:=Z3 (uF (i+1))
   rw[ev] at hbd
   obtain⟨s,es⟩:=Z3 (sF i)
   rw[es] at had hbd hd0
   obtain⟨r,er⟩:=Z3 (rw_ i)
   rw[er] at had hsc
   obtain⟨tp,et⟩:=Z3 (tpF i)
   rw[et] at hsc hac
   obtain⟨cy,ec⟩:=Z3 (cyF i)
   rw[ec] at had hac
   obtain⟨tc,etc⟩:=Z3 (tcF i)
   rw[etc] at hbd hac
   obtain⟨d,ed⟩:=Z3 (pd i)
   rw[ed] at hd0 hps
   have hps:Hid _:=hps
   have hac:Hid _:=hac
   have hbd:Hid _:=hbd
   have hsc:Hid _:=hsc
   have had:Hid _:=had
   have ev:Hid _:=ev
   clear eq ex eu es er et ec etc ed
   have K3_1:Bk w.heap.size wr [(false,w.heap.size,LN a),(false,w.heap.size+1,U64 bs),(true,w.heap.size+1+1,Lqw),(true,b1_0,U64 ps),(true,b2_0,LN u)]:=⟨.c lC0 C0<| .c lC1 C1<| .o lC2 (K3.lo 2) C2<| .o lC3 (K3.lo 3) C3<| .o lC4 (K3.lo 4) C4<|trivial,by simp<;>omega⟩
   go_upto_region 4 with fail
   refine Rn K3_1 HBr [(0,13,_)] (Oc1 (g_bn (fun uZ=>Za _ _ (i:Int) 4 _ uZ hl))) fun u4 HB4 sz4 K4=>?_
   simp only[sQ] at K4⊢
   go_upto_region 5 with fail
   refine Rn K4 HB4 [(0,14,_),(1,7,_)] (Oc2 g_mv g_as) fun u5 HB5 sz5 K5=>?_
   simp only[sQ] at K5⊢
   clear K4 HB4
   go_upto_region 6 with fail
   refine Rd K5 HB5 [] [(8,8,Lq,some (9,LN r))] (cG 0 16 [_,_,_,_,_] [(5,15,_),(6,21,_),(7,22,_),(10,9,_)]) [(9,8)] [] [] (Od8 (g_ld 0 uQ iQ) g_mv (g_ix (fun uZ=>xbN (w.heap.size+1) i uZ hj)) (g_lw 1 i l64 hgb) (g_cl eMv0 hsc.out) g_mv g_ex g_ex<|Oc3 (g_al 0 aQ) (g_sn 0 iQ) g_as) fun u6 b6_8 HB6 sz6 K6=>?_
   simp only[sQ] at K6⊢
   clear K5 HB5
   go_upto_region 7 with fail
   refine Rp K6 HB6 [] [(6,10,Lq,some (7,LN s))] (cG 0 24 [_,_,_] [(3,23,_),(4,27,_),(5,28,_),(8,11,_)]) [(7,6)] [] [] (Oc9 (g_ld 4 uQ iQ) (g_ld 5 uQ iQ) (g_cl eMv1 had.out) g_mv g_ex g_ex (g_al 0 aQ) (g_sn 0 iQ) g_as) fun u7 b7_6 HB7 _ K7=>?_
   simp only[sQ] at K7⊢
   clear K6 HB6
   go_upto_region 8 with fail
   refine Rp K7 HB7 [.no,.no,.no,.all 4 ((U64 ps).set i (iU (D0 s)))] [] (cG 0 29 [_,_,_,_] []) [] [] [] (Oc5 g_mv (g_ix (fun uZ=>xbN b7_6 0 uZ Z2)) (g_lc 6 0 lQ) (g_ix (fun uZ=>xbW b1_0 i uZ Z1)) (g_sw 3 i s64 hgp rfl)) fun u8 HB8 _ K8=>?_
   simp only[sQ] at K8⊢
   clear K7 HB7
   go_upto_region 9 with fail
   refine Rp K8 HB8 [.no,.no,.no,.no,.all 10 (LN v)] [] (cG 0 33 [_,_,_,_,_,_,_,_,_,_] []) [] [] [] (Od8 (g_ix (fun uZ=>xbN b7_6 1 uZ Z2)) (g_lc 6 1 lQ) (g_ix (fun uZ=>xbN b7_6 2 uZ Z2)) (g_lc 6 2 lQ) (g_ix (fun uZ=>xbN b7_6 3 uZ Z2)) (g_lc 6 3 lQ) g_mv g_mv<|Oc3 (g_bn (hac.out _ _)) (g_bd hbd.out) (g_st 4 iQ)) fun u9 HB9 _ K9=>?_
   simp only[sQ] at K9⊢
   clear K8 HB8
   go_upto_region 10 with fail
   refine Rp K9 HB9 [] [] [(0,43,_),(1,12,_)] [(1,0)] [(1,12)] [] (Oc2 (g_bn (fun uZ=>Zu _ _ (i:Int) 1 ((i+1:Nat):Int) uZ Z1 Z1 Z1)) g_mv) fun u10 HB10 _ K10=>?_
   simp only[sQ] at K10⊢
   clear K9 HB9
   go_wp2
   refine⟨⟨i+1,Z1,rfl,HB10,(K10.cv 0),(K10.lt 0),(K10.cv 1),(K10.lt 1),(K10.cv 2),(K10.lt 2),by rw[hps.out,Ul,<-hd0];exact(K10.cv 3),(K10.lt 3),by rw[ev.out];exact(K10.cv 4),(K10.lt 4)⟩,?_⟩
   simp[intOf]<;>omega
  ·have hl:decide ((i:Int)<4)=false:=by simp;omega
   have hi8:i=4:=Z1
   subst hi8
   have e8:=hP4.out
   rw[e8] at C3
   have e9:=hU4.out
   rw[e9] at C4
   clear e8 e9
   have K3_1:Bk w.heap.size wr [(false,w.heap.size,LN a),(false,w.heap.size+1,U64 bs),(true,w.heap.size+1+1,Lqw),(true,b1_0,LN P++Lq),(true,b2_0,LN (D4 P))]:=⟨.c lC0 C0<| .c lC1 C1<| .o lC2 (K3.lo 2) C2<| .o lC3 (K3.lo 3) C3<| .o lC4 (K3.lo 4) C4<|trivial,by simp<;>omega⟩
   go_upto_region 4 with fail
   refine Rn K3_1 HBr [(0,13,_)] (Oc1 (g_bn (fun uZ=>Za _ _ ((4:Nat):Int) 4 _ uZ hl))) fun u4 HB4 sz4 K4=>?_
   simp only[sQ] at K4⊢
   go_upto_region 11 with fail
   refine Rd K4 HB4 [.no,.no,.no,.all 2 (LW P)] [] (cG 0 44 [_,_,_] []) [] [] [] (Oc3 (g_sl (slQw b1_0)) (g_sl (slQ b2_0)) (g_cp 3 (sl:=4) (dl:=4) (LN P) Lq [] (LN (D4 P)) Tryz.underlying121 jQ rfl (fun f u kZ bZ j v hj=>by rw[Addr.add0];exact((KC.cv kZ 4) j v hj).1) (one_Q (D4 P)) rfl rfl)) fun u5 HB5 sz5 K5=>?_
   simp only[sQ] at K5⊢
   clear K4 HB4
   go_upto_region 12 with fail
   refine Rp K5 HB5 [.no,.no,.all 1 (LW P)] [] [(0,47,_)] [] [] [] (Oc2 (g_ld 3 uQw iQw) (g_st 2 iQw)) fun u6 HB6 sz6 K6=>?_
   simp only[sQ] at K6⊢
   clear K5 HB5
   have c4_0:=((K6.cv 2) 0 _ rfl).1
   have c4_1:=((K6.cv 2) 1 _ rfl).1
   have c4_2:=((K6.cv 2) 2 _ rfl).1
   have c4_3:=((K6.cv 2) 3 _ rfl).1
   have c4_4:=((K6.cv 2) 4 _ rfl).1
   have c4_5:=((K6.cv 2) 5 _ rfl).1
   have c4_6:=((K6.cv 2) 6 _ rfl).1
   have c4_7:=((K6.cv 2) 7 _ rfl).1
   go_wp2
   refine bodyPost_ret (v:=WV P) (by simp[results,Tryz.results140,go_sem,c4_0,c4_1,c4_2,c4_3,c4_4,c4_5,c4_6,c4_7]) rfl ⟨rfl,HB6⟩
end
section
theorem div_dg{N D:Nat}(p:Nat)(hD:0<D):(N/18446744073709551616^(p+1)%D*18446744073709551616+dgq N p)/D=dgq (N/D) p/\(N/18446744073709551616^(p+1)%D*18446744073709551616+dgq N p)%D=N/18446744073709551616^p%D:=by
 obtain⟨A,eA⟩:=Z3 (N/18446744073709551616^p)
 have e1:N/18446744073709551616^(p+1)=A/18446744073709551616:=by rw[Nat.pow_succ,<-Nat.div_div_eq_div_mul,eA]
 have e2:dgq (N/D) p=A/D%18446744073709551616:=by unfold dgq;rw[Nat.div_div_eq_div_mul,Nat.mul_comm,<-Nat.div_div_eq_div_mul,eA]
 have e3:dgq N p=A%18446744073709551616:=by unfold dgq;rw[eA]
 rw[e1,e2,e3,eA]
 have h1:=Nat.div_add_mod A 18446744073709551616
 have h2:=Nat.div_add_mod (A/18446744073709551616) D
 have h3:A=(A/18446744073709551616%D*18446744073709551616+A%18446744073709551616)+D*(A/18446744073709551616/D*18446744073709551616):=by
  rw[show D*(A/18446744073709551616/D*18446744073709551616)=D*(A/18446744073709551616/D)*18446744073709551616 by grind]
  omega
 obtain⟨Z,eZ⟩:=Z3 (A/18446744073709551616%D*18446744073709551616+A%18446744073709551616)
 rw[eZ] at h3⊢
 have hZ:Z<D*18446744073709551616:=by
  have:=Nat.mod_lt (A/18446744073709551616) hD
  have:=Nat.mod_lt A (show 0<18446744073709551616 by decide)
  have h5:(A/18446744073709551616%D+1)*18446744073709551616<=D*18446744073709551616:=Nat.mul_le_mul_right _ Z1
  omega
 have h6:A/D=Z/D+A/18446744073709551616/D*18446744073709551616:=by
  conv=>lhs;rw[h3]
  rw[Nat.add_mul_div_left _ _ hD]
 refine⟨?_,?_⟩
 ·rw[h6,Nat.add_mul_mod_self_right,Nat.mod_eq_of_lt (Nat.div_lt_of_lt_mul hZ)]
 ·conv=>rhs;rw[h3]
  rw[Nat.add_mul_mod_self_left]
def dnD(m n:Nat):Nat->List Nat
 | 0=>List.replicate m 0
 | i+1=>(dnD m n i).set (m -1 -i) (dgq n (m -1 -i))
theorem Uv(m n:Nat): ∀i,(dnD m n i).length=m
 | 0=>List.length_replicate ..
 | i+1=>by rw[dnD,List.length_set];exact Uv m n i
theorem dnD_get(m n:Nat): ∀i,i<=m-> ∀j,j<m->m<=i+j->(dnD m n i).getD j 0=dgq n j
 | 0,_,j,h1,h2=>Z1
 | i+1,h,j,h1,h2=>by
  rw[dnD,Wh _ _ _ _ (by rw[Uv];omega)]
  by_cases e:j=m -1 -i
  ·rw[if_pos e,e]
  ·rw[if_neg e];exact dnD_get m n i Z1 j h1 Z1
theorem dnD_all(m n:Nat):dnD m n m=dgs m n:=list_ext (n:=m) (Uv _ _ _) (Yz _ _) fun j hj=>by rw[dnD_get m n m (Nat.le_refl _) j hj Z1,Ym hj]
theorem dgs_pre{k m n j x:Nat}(h:k<=m)(hj:(dgs k n)[j]?=some x):(dgs m n)[j]?=some x:=by
 unfold dgs at *
 rw[List.getElem?_map] at *
 by_cases hk:j<k
 ·rw[List.getElem?_range hk] at hj;rw[List.getElem?_range Z1];exact hj
 ·rw[List.getElem?_eq_none (by simp;omega)] at hj;cases hj
theorem dgt_div(n a j:Nat):dgq (n/18446744073709551616^a) j=dgq n (a+j):=by unfold dgq;rw[Nat.div_div_eq_div_mul,<-Nat.pow_add]
theorem dgs_suf{k a m n j x:Nat}(h:a+k<=m)(hj:(dgs k (n/18446744073709551616^a))[j]?=some x):(dgs m n)[a+j]?=some x:=by
 unfold dgs at *
 rw[List.getElem?_map] at *
 by_cases hk:j<k
 ·rw[List.getElem?_range hk] at hj;rw[List.getElem?_range Z1]
  rw[Option.map_some,dgt_div] at hj;exact hj
 ·rw[List.getElem?_eq_none (by simp;omega)] at hj;cases hj
end
section
open Go.RowKit
def In(n:Int):Prop:=0<=n/\n<0x10000000000000000000000000000000000000000000000000000000000000000
def InW(n:Int):Prop:=0<=n/\n<0x10000000000000000000000000000000000000000000000000000000000000000*0x10000000000000000000000000000000000000000000000000000000000000000
def ovB(a b:Int):Bool:=decide (0x10000000000000000000000000000000000000000000000000000000000000000<=a+b)
def ltB(a b:Int):Bool:=decide (a<b)
theorem V_In{n:Int}(h:In n):V (D0 n) (D1 n) (D2 n) (D3 n)=n:=by rw[V_D];unfold In at h;omega
theorem In_V{a b c d:Int}(ha:W64 a)(hb:W64 b)(hc:W64 c)(hd:W64 d):In (V a b c d):=V_bd a b c d ha hb hc hd
theorem NV_V{a b c d:Int}(ha:W64 a)(hb:W64 b)(hc:W64 c)(hd:W64 d):NV (V a b c d)=A4 a b c d:=by
 obtain⟨h0,h1,h2,h3,_⟩:=D_of (V a b c d) a b c d 0 ha hb hc hd Z1
 rw[NV,h0,h1,h2,h3]
theorem In.wide{n:Int}(h:In n):InW n:=by unfold In at h;unfold InW;omega
theorem In_mul{a b:Int}(ha:In a)(hb:In b):InW (a*b):=by
 refine⟨Int.mul_nonneg ha.1 hb.1,?_⟩
 have k1:=Int.mul_le_mul_of_nonneg_right (a:=a) (b:=0x10000000000000000000000000000000000000000000000000000000000000000 -1) (by have:=ha.2;omega) hb.1
 have:=hb.2;omega
theorem Zt{n m:Int}(hm:In m)(h:m≠0):In (n%m):=by
 have h0:=hm.1
 exact⟨Int.emod_nonneg _ h,by have:=Int.emod_lt_of_pos n (show 0<m by omega);have:=hm.2;omega⟩
theorem WV_In{n:Int}(h:In n):WV n=A8 (D0 n) (D1 n) (D2 n) (D3 n) 0 0 0 0:=by
 have e:D4 n=0:=by unfold D4;unfold In at h;omega
 rw[WV,e];rfl
theorem nAdd(a b:Int)(w:World)(ha:In a)(hb:In b):CC 102 #[NV a,NV b] w (.tuple #[NV (a+b),.bool (ovB a b)]):=by
 have k:=Add_any _ _ _ _ _ _ _ _ w (W_D0 a) (W_D1 a) (W_D2 a) (W_D3 a) (W_D0 b) (W_D1 b) (W_D2 b) (W_D3 b)
 simp only[V_In ha,V_In hb] at k
 have e:(D4 (a+b)==1)=ovB a b:=by
  unfold In at ha hb;unfold ovB D4;rw[Bool.eq_iff_iff];simp;omega
 rw[e] at k
 exact k
theorem nSub(a b:Int)(w:World)(ha:In a)(hb:In b):CC 152 #[NV a,NV b] w (.tuple #[NV (a -b),.bool (ltB a b)]):=by
 have k:=Sub_any _ _ _ _ _ _ _ _ w (W_D0 a) (W_D1 a) (W_D2 a) (W_D3 a) (W_D0 b) (W_D1 b) (W_D2 b) (W_D3 b)
 simp only[V_In ha,V_In hb] at k
 have e:(-D4 (a -b)==1)=ltB a b:=by
  unfold In at ha hb;unfold ltB D4;rw[Bool.eq_iff_iff];simp;omega
 rw[e] at k
 exact k
theorem W6(n:Int)(w:World)(hn:In n):CC 95 #[NV n] w (WV n):=by
 rw[WV_In hn];exact Widen_any _ _ _ _ w
theorem ln_u(n:Nat):LN (n:Int)=U64 (dgs 4 n):=by
 unfold LN D0 D1 D2 D3
 simp only[dgs,dgq,U64,List.range,List.range.loop,List.map_cons,List.map_nil]
 simp
theorem wv_u(n:Nat):LW (n:Int)=U64 (dgs 8 n):=by
 unfold LW D0 D1 D2 D3 D4
 simp only[dgs,dgq,U64,List.range,List.range.loop,List.map_cons,List.map_nil]
 simp
 omega
theorem U64_mono{l m:List Nat}{i j:Nat}(h: ∀x,l[i]?=some x->m[j]?=some x){v:Value}(hv:(U64 l)[i]?=some v):(U64 m)[j]?=some v:=by
 unfold U64 at *
 rw[List.getElem?_map] at *
 obtain⟨x,hx,rfl⟩:=Option.map_eq_some_iff.1 hv
 rw[h x hx];rfl
theorem bdQ(d0 d1 d2 d3:Int)(u:World):(Instr.build 24 ([0,1,2,3].zip [iU d0,iU d1,iU d2,iU d3]).toArray).run Tryz.prog u= .ok (A4 d0 d1 d2 d3) u:=by kernel_rfl
theorem mul_dg(a b i:Nat):a*(b%18446744073709551616^(i+1))/18446744073709551616^i=a*(b%18446744073709551616^i)/18446744073709551616^i+a*dgq b i:=by
 have e:b%18446744073709551616^(i+1)=b%18446744073709551616^i+18446744073709551616^i*dgq b i:=Nat.mod_pow_succ
 rw[e,Nat.mul_add,show a*(18446744073709551616^i*dgq b i)=18446744073709551616^i*(a*dgq b i) by grind,Nat.add_mul_div_left _ _ (Nat.pow_pos Z2)]
theorem mul_pd(a b i:Nat):dgq (a*b) i=(a*(b%18446744073709551616^i)/18446744073709551616^i+a*dgq b i)%18446744073709551616:=by
 rw[<-mul_dg]
 unfold dgq
 have h:=Nat.div_add_mod b (18446744073709551616^(i+1))
 conv=>lhs;rw[<-h]
 rw[Nat.mul_add,show a*(18446744073709551616^(i+1)*(b/18446744073709551616^(i+1)))=18446744073709551616^i*(18446744073709551616*(a*(b/18446744073709551616^(i+1)))) by rw[Nat.pow_succ];grind,Nat.mul_add_div (Nat.pow_pos Z2),Nat.mul_add_mod]
theorem nMul(a b:Int)(w:World)(ha:In a)(hb:In b):CC 140 #[NV a,NV b] w (WV (a*b)):=by
 obtain⟨a,rfl⟩:=Int.eq_ofNat_of_zero_le ha.1
 obtain⟨b,rfl⟩:=Int.eq_ofNat_of_zero_le hb.1
 have h1:=ha.2
 have h2:=hb.2
 have hU: ∀i,a*(b%18446744073709551616^i)/18446744073709551616^i<=a:=fun i=>Nat.div_le_of_le_mul (by
  rw[Nat.mul_comm];exact Nat.mul_le_mul_right _ (Nat.le_of_lt (Nat.mod_lt _ (Nat.pow_pos Z2))))
 have key: ∀i:Nat,∃U x:Nat,a*(b%18446744073709551616^i)/18446744073709551616^i=U/\dgq b i=x/\U<=a/\x<18446744073709551616/\a*x<=a*18446744073709551615:=fun i=>⟨_,_,rfl,rfl,hU i,Vy b i,Nat.mul_le_mul_left _ (by have:=Vy b i;omega)⟩
 rw[show NV (b:Int)= .agg (LN (b:Int)).toArray from rfl,ln_u]
 refine mul_core (a:Int) ((a:Int)*b) (dgs 4 b) (fun i=>((a*(b%18446744073709551616^i)/18446744073709551616^i:Nat):Int)) (fun i=>((a*(b%18446744073709551616^i)/18446744073709551616^i:Nat):Int)+((a*dgq b i:Nat):Int)%0x10000000000000000000000000000000000000000000000000000000000000000) (fun i=>((a*dgq b i:Nat):Int)) (fun i=>D4 ((a*dgq b i:Nat):Int)) (fun i=>D4 (((a*(b%18446744073709551616^i)/18446744073709551616^i:Nat):Int)+((a*dgq b i:Nat):Int)%0x10000000000000000000000000000000000000000000000000000000000000000)) (fun i=>(((a*(b%18446744073709551616^i)/18446744073709551616^i+a*dgq b i)/0x10000000000000000000000000000000000000000000000000000000000000000:Nat):Int)) (dgq (a*b)) (upD 8 (a*b)) w (Yz _ _) rfl ?_ (fun i hi u=>?_) (fun i hi u=>?_) (fun i hi p q u=>?_) (fun i hi u=>?_) (upD_len 8 _) (fun i hi=>rfl) (fun i hi=>?_) ?_ ?_
 ·show ((a*(b%18446744073709551616^0)/18446744073709551616^0:Nat):Int)=0
  rw[Nat.pow_zero,Nat.mod_one,Nat.mul_zero,Nat.zero_div];rfl
 ·rw[Ym hi]
  have k:=scale_any _ _ _ _ ((dgq b i:Nat):Int) u (W_D0 a) (W_D1 a) (W_D2 a) (W_D3 a) ⟨Z1,by have:=Vy b i;omega⟩
  rw[V_In ha,<-Int.natCast_mul] at k
  exact k
 ·obtain⟨U,x,e1,e2,h3,h4,h5⟩:=key i
  rw[e1,e2]
  have k:=add_any _ _ _ _ _ _ _ _ u (W_D0 (U:Int)) (W_D1 (U:Int)) (W_D2 (U:Int)) (W_D3 (U:Int)) (W_D0 ((a*x:Nat):Int)) (W_D1 ((a*x:Nat):Int)) (W_D2 ((a*x:Nat):Int)) (W_D3 ((a*x:Nat):Int))
  rw[V_D ((a*x:Nat):Int),V_In (n:=(U:Int)) ⟨Z1,Z1⟩] at k
  exact k
 ·obtain⟨U,x,e1,e2,h3,h4,h5⟩:=key i
  rw[e1,e2]
  have e:IntKind.u64.wrap (D4 ((a*x:Nat):Int)+D4 ((U:Int)+((a*x:Nat):Int)%0x10000000000000000000000000000000000000000000000000000000000000000))=(((U+a*x)/0x10000000000000000000000000000000000000000000000000000000000000000:Nat):Int):=by
   rw[IntKind.wrap_u64];unfold D4
   obtain⟨y,ey⟩:=Z3 (a*x)
   rw[ey] at h5⊢
   omega
  go_simp
  exact e
 ·obtain⟨U,x,e1,e2,h3,h4,h5⟩:=key i
  have e3:a*(b%18446744073709551616^(i+1))/18446744073709551616^(i+1)=(U+a*x)/18446744073709551616:=by rw[Nat.pow_succ,<-Nat.div_div_eq_div_mul,<-Nat.pow_succ,mul_dg,e1,e2]
  rw[e1,e2,e3]
  obtain⟨y,ey⟩:=Z3 (a*x)
  rw[ey] at h5⊢
  have q1:D1 ((U:Int)+(y:Int)%0x10000000000000000000000000000000000000000000000000000000000000000)=D0 (((U+y)/18446744073709551616:Nat):Int):=by unfold D0 D1;omega
  have q2:D2 ((U:Int)+(y:Int)%0x10000000000000000000000000000000000000000000000000000000000000000)=D1 (((U+y)/18446744073709551616:Nat):Int):=by unfold D1 D2;omega
  have q3:D3 ((U:Int)+(y:Int)%0x10000000000000000000000000000000000000000000000000000000000000000)=D2 (((U+y)/18446744073709551616:Nat):Int):=by unfold D2 D3;omega
  have q4:(((U+y)/0x10000000000000000000000000000000000000000000000000000000000000000:Nat):Int)=D3 (((U+y)/18446744073709551616:Nat):Int):=by unfold D3;omega
  rw[q1,q2,q3,q4]
  exact bdQ _ _ _ _ u
 ·obtain⟨U,x,e1,e2,h3,h4,h5⟩:=key i
  rw[mul_pd,e1,e2]
  obtain⟨y,ey⟩:=Z3 (a*x)
  rw[ey]
  unfold D0;omega
 ·show U64 (upD 8 (a*b) 4)=LN ((a:Int)*b)++Lq
  rw[<-Int.natCast_mul,ln_u]
  obtain⟨y,ey⟩:=Z3 (a*b)
  rw[ey]
  rfl
 ·show ((a*(b%18446744073709551616^4)/18446744073709551616^4:Nat):Int)=D4 ((a:Int)*b)
  rw[<-Int.natCast_mul,Nat.mod_eq_of_lt (show b<18446744073709551616^4 by omega)]
  obtain⟨y,ey⟩:=Z3 (a*b)
  rw[ey]
  unfold D4;omega
theorem nStep(r x d:Nat)(w:World)(hx:x<18446744073709551616)(h1:0x8000000000000000000000000000000000000000000000000000000000000000<=d)(h2:d<0x10000000000000000000000000000000000000000000000000000000000000000)(hr:r<d):CC 120 #[NV (r:Int),iU (x:Int),NV (d:Int)] w (.tuple #[iU (((r*18446744073709551616+x)/d:Nat):Int),NV (((r*18446744073709551616+x)%d:Nat):Int)]):=by
 have e1:V (D0 (r:Int)) (D1 (r:Int)) (D2 (r:Int)) (D3 (r:Int))=r:=V_In ⟨Z1,Z1⟩
 have e2:V (D0 (d:Int)) (D1 (d:Int)) (D2 (d:Int)) (D3 (d:Int))=d:=V_In ⟨Z1,Z1⟩
 have k:=step_any _ _ _ _ (x:Int) _ _ _ _ w (W_D0 r) (W_D1 r) (W_D2 r) (W_D3 r) (W_D0 d) (W_D1 d) (W_D2 d) (W_D3 d) ⟨Z1,Z1⟩ (by unfold D3;omega) (by rw[e1,e2];omega)
 rw[e1,e2] at k
 simpa using k
theorem nDivide(n m:Int)(w:World)(hn:InW n)(hm:In m)(h:m≠0):CC 94 #[WV n,NV m] w (.tuple #[WV (n/m),NV (n%m),iI 0]):=by
 obtain⟨N,rfl⟩:=Int.eq_ofNat_of_zero_le hn.1
 obtain⟨M,rfl⟩:=Int.eq_ofNat_of_zero_le hm.1
 have hM:=V_In hm
 obtain⟨u1,u2,u3,u4⟩:=lift_top _ _ _ _ (W_D0 M) (W_D1 M) (W_D2 M) (W_D3 M) (by rw[hM];exact h)
 have hL:=fun u=>Uq _ _ _ _ u (W_D0 M) (W_D1 M) (W_D2 M) (W_D3 M)
 have he0:eq4 (D0 (M:Int)) (D1 (M:Int)) (D2 (M:Int)) (D3 (M:Int)) 0 0 0 0=false:=by
  rw[Bool.eq_false_iff];intro hq
  rw[eq4_iff] at hq
  rw[hq.1,hq.2.1,hq.2.2.1,hq.2.2.2] at hM
  exact h hM.symm
 rw[hM] at u3 u4
 obtain⟨ln,el⟩:=Z3 (blen (D0 (M:Int)) (D1 (M:Int)) (D2 (M:Int)) (D3 (M:Int)))
 rw[el] at u1 u2 u3 u4 hL
 obtain⟨up,eup⟩:=Int.eq_ofNat_of_zero_le u1
 rw[eup] at u2 u3 u4
 obtain⟨D,eD⟩:=Z3 (M*2^up)
 have eDi:(M:Int)*2^(up:Int).toNat=(D:Int):=by rw[<-eD];simp
 rw[eDi] at u3 u4
 have hN:N<18446744073709551616^8:=by have:=hn.2;omega
 have hM8:M<18446744073709551616^8:=by have:=hm.2;omega
 have hup:up<=255:=Z1
 have hp:2^up<=2^255:=Nat.pow_le_pow_right Z2 hup
 obtain⟨K,eK⟩:=Z3 (N*2^up)
 have hK:K/18446744073709551616^8<D:=by
  refine Nat.div_lt_of_lt_mul ?_
  rw[<-eK]
  have h9:N*2^up<18446744073709551616^8*2^up:=Nat.mul_lt_mul_of_pos_right hN (Nat.two_pow_pos up)
  exact Nat.lt_of_lt_of_le h9 (Nat.mul_le_mul_left _ Z1)
 have hQ:K/D=N/M:=by rw[<-eD,<-eK,Nat.mul_div_mul_right _ _ (Nat.two_pow_pos up)]
 have hR:K%D=N%M*2^up:=by rw[<-eD,<-eK,Nat.mul_mod_mul_right]
 have hK0:K/18446744073709551616^(8 -0)%D=K/18446744073709551616^8:=Nat.mod_eq_of_lt hK
 have hM0:0<M:=Z1
 have hmod:=Nat.mod_lt N hM0
 have hM2:=hm.2
 refine divide_core (N:Int) (M:Int) ln (D:Int) ((N:Int)/M) ((N:Int)%M) up (dgs 12 K) (dgs 12 D) (fun i=>((K/18446744073709551616^(8 -i)%D:Nat):Int)) (fun i=>dgq (K/D) (7 -i)) (dnD 8 (K/D)) w (Yz _ _) (Yz _ _) Z1 hup (fun p q u=>?_) hL (fun u=>?_) (fun u=>W6 M u hm) (fun u=>?_) (fun j v hj=>?_) (fun j v hj=>?_) (fun i hi u=>?_) (fun u=>?_) rfl (Uv 8 _) (fun i hi=>rfl) ?_
 ·go_simp
 ·rw[show WV (N:Int)= .agg (LW (N:Int)).toArray from rfl,wv_u,<-eK];exact cLift N up u hN hup
 ·rw[show WV (M:Int)= .agg (LW (M:Int)).toArray from rfl,wv_u,<-eD];exact cLift M up u hM8 hup
 ·rw[ln_u] at hj;exact U64_mono (fun x hx=>dgs_pre Z2 hx) hj
 ·simp only[hK0] at hj
  rw[ln_u] at hj;exact U64_mono (fun x hx=>dgs_suf Z2 hx) hj
 ·obtain⟨d1,d2⟩:=div_dg (N:=K) (D:=D) (7 -i) Z1
  have:=nStep (K/18446744073709551616^(8 -i)%D) ((dgs 12 K).getD (7 -i) 0) D u (dgs_lt _ _ _) Z1 Z1 (Nat.mod_lt _ Z1)
  rw[Ym Z1] at this⊢
  rw[show 8 -i=7 -i+1 by omega,d1,d2] at this
  rw[show 8 -(i+1)=7 -i by omega,show 8 -i=7 -i+1 by omega]
  exact this
 ·show Calls Tryz.prog _ #[NV ((K/18446744073709551616^0%D:Nat):Int),_] u _
  rw[Nat.pow_zero,Nat.div_one,hR,show NV ((N%M*2^up:Nat):Int)= .agg (LN ((N%M*2^up:Nat):Int)).toArray from rfl,ln_u]
  have k:=cLower (N%M*2^up) up u (by
   rw[<-hR];have:=Nat.mod_lt K (show 0<D by omega);omega) hup
  rw[Nat.mul_div_cancel _ (Nat.two_pow_pos up),<-ln_u (N%M)] at k
  rw[<-Int.natCast_emod];exact k
 ·show _=_
  rw[dnD_all,hQ,<-wv_u,Int.natCast_ediv]
theorem Xz{k:Int}(h0:0<=k)(h1:k<18446744073709551616):NV k=A4 k 0 0 0:=by
 have e0:D0 k=k:=by unfold D0;omega
 have e1:D1 k=0:=by unfold D1;omega
 have e2:D2 k=0:=by unfold D2;omega
 have e3:D3 k=0:=by unfold D3;omega
 rw[NV,e0,e1,e2,e3]
theorem nOf(k:Int)(w:World)(h0:0<=k)(h1:k<18446744073709551616):CC 96 #[iU k] w (NV k):=by
 rw[Xz h0 h1];exact of_any k w
theorem neq_w(p q:Operand)(a b c d x y z t:Int)(w:World):(do eqGuard .neq 24 p q (A4 a b c d) (A4 x y z t);binOp .neq 24 (A4 a b c d) (A4 x y z t):Sem Value).run Tryz.prog w= .ok (.bool (!eq4 a b c d x y z t)) w:=by
 go_simp
theorem eql_w(p q:Operand)(a b c d x y z t:Int)(w:World):(do eqGuard .eql 24 p q (A4 a b c d) (A4 x y z t);binOp .eql 24 (A4 a b c d) (A4 x y z t):Sem Value).run Tryz.prog w= .ok (.bool (eq4 a b c d x y z t)) w:=by
 go_simp
theorem eq4_N{n m:Int}(hn:In n)(hm:In m):eq4 (D0 n) (D1 n) (D2 n) (D3 n) (D0 m) (D1 m) (D2 m) (D3 m)=decide (n=m):=by
 rw[Bool.eq_iff_iff,eq4_V _ _ _ _ _ _ _ _ (W_D0 _) (W_D1 _) (W_D2 _) (W_D3 _) (W_D0 _) (W_D1 _) (W_D2 _) (W_D3 _),V_In hn,V_In hm];simp
theorem eq4_N0{n:Int}(hn:In n):eq4 (D0 n) (D1 n) (D2 n) (D3 n) 0 0 0 0=decide (n=0):=by
 have w0:W64 0:=by unfold W64;omega
 rw[Bool.eq_iff_iff,eq4_V _ _ _ _ _ _ _ _ (W_D0 _) (W_D1 _) (W_D2 _) (W_D3 _) w0 w0 w0 w0,V_In hn];simp[V]
theorem Up(p q:Operand){n m:Int}(hn:In n)(hm:In m)(b:Bool)(hb:decide (n=m)=!b)(w:World):(do eqGuard .neq 24 p q (NV n) (NV m);binOp .neq 24 (NV n) (NV m):Sem Value).run Tryz.prog w= .ok (.bool b) w:=by
 rw[neq_w,eq4_N hn hm,hb];simp
theorem neq_0(p q:Operand){n:Int}(hn:In n)(b:Bool)(hb:decide (n=0)=!b)(w:World):(do eqGuard .neq 24 p q (NV n) (A4 0 0 0 0);binOp .neq 24 (NV n) (A4 0 0 0 0):Sem Value).run Tryz.prog w= .ok (.bool b) w:=by
 rw[neq_w,eq4_N0 hn,hb];simp
theorem eql_n(p q:Operand){n m:Int}(hn:In n)(hm:In m)(b:Bool)(hb:decide (n=m)=b)(w:World):(do eqGuard .eql 24 p q (NV n) (NV m);binOp .eql 24 (NV n) (NV m):Sem Value).run Tryz.prog w= .ok (.bool b) w:=by
 rw[eql_w,eq4_N hn hm,hb]
theorem eql_0(p q:Operand){n:Int}(hn:In n)(b:Bool)(hb:decide (n=0)=b)(w:World):(do eqGuard .eql 24 p q (NV n) (A4 0 0 0 0);binOp .eql 24 (NV n) (A4 0 0 0 0):Sem Value).run Tryz.prog w= .ok (.bool b) w:=by
 rw[eql_w,eq4_N0 hn,hb]
theorem ld_u64(w:World)(b k:Nat)(v:Int)(h:w.cell? ⟨b,k,none⟩=some (iU v)):(Instr.loadAt 22 (.pointer (some ⟨b,k,none⟩))).run Tryz.prog w= .ok (iU v) w:=by
 go_simp
theorem st_u64(w:World)(b k:Nat)(v x:Int)(h:w.cell? ⟨b,k,none⟩=some (iU v))(hf:w.frozen? ⟨b,k,none⟩=false):(Instr.storeAt 22 (.pointer (some ⟨b,k,none⟩)) (iU x)).run Tryz.prog w= .ok () (w.setCell ⟨b,k,none⟩ (iU x)):=by
 go_simp
theorem ix_nat(w:World)(b k:Nat)(h:k<4):(Instr.indexAt 24 (.pointer (some ⟨b,0,none⟩)) (iI k)).run Tryz.prog w= .ok (.pointer (some ⟨b,k,none⟩)) w:=by
 have h0:(0:Int)<=k:=Z1
 have h1:(k:Int)<4:=Z1
 go_simp
theorem ix_wide(w:World)(b k:Nat)(h:k<8):(Instr.indexAt 91 (.pointer (some ⟨b,0,none⟩)) (iI k)).run Tryz.prog w= .ok (.pointer (some ⟨b,k,none⟩)) w:=by
 have h0:(0:Int)<=k:=Z1
 have h1:(k:Int)<8:=Z1
 go_simp
theorem Yw(w:World)(b k:Nat)(h:k<5):(Instr.indexAt 227 (.pointer (some ⟨b,0,none⟩)) (iI k)).run Tryz.prog w= .ok (.pointer (some ⟨b,k,none⟩)) w:=by
 have h0:(0:Int)<=k:=Z1
 have h1:(k:Int)<5:=Z1
 go_simp
theorem add_u(p q:Operand)(x y z:Int)(w:World)(h:(x+y)%18446744073709551616=z):(do eqGuard .add 22 p q (iU x) (iU y);binOp .add 22 (iU x) (iU y):Sem Value).run Tryz.prog w= .ok (iU z) w:=by
 subst h
 go_simp
 simp[IntKind.wrap,IntKind.signed,IntKind.bits]
theorem mul_u(p q:Operand)(x y z:Int)(w:World)(h:(x*y)%18446744073709551616=z):(do eqGuard .mul 22 p q (iU x) (iU y);binOp .mul 22 (iU x) (iU y):Sem Value).run Tryz.prog w= .ok (iU z) w:=by
 subst h
 go_simp
 simp[IntKind.wrap,IntKind.signed,IntKind.bits]
end
section
def natAt(w:World)(b:Nat):Nat:=(V (wordAt w b 0) (wordAt w b 1) (wordAt w b 2) (wordAt w b 3)).toNat
theorem natAt_of{w:World}{b:Nat}{n:Int}(h:CV w b (LN n))(hn:In n):natAt w b=n.toNat:=by
 have h0:=(h 0 _ rfl).1;have h1:=(h 1 _ rfl).1;have h2:=(h 2 _ rfl).1;have h3:=(h 3 _ rfl).1
 unfold natAt wordAt
 rw[h0,h1,h2,h3]
 show (V (D0 n) (D1 n) (D2 n) (D3 n)).toNat=_
 rw[V_In hn]
end
section
open Go.RowKit
section
section
variable {P:Program} {o:Oper} {a:Act} {w:World} {K:Act->World->Prop} {Q:Exit->Act->World->Prop}
end
theorem al__5_uint64(w:World):(Instr.alloc 227 true (.tuple #[])).run Tryz.prog w= .ok (.pointer (some ⟨w.heap.size,0,none⟩)) (w.alloc (.cells L05.toArray 227)):=by kernel_rfl
theorem sl_five(b:Nat)(w:World):(Instr.sliceAt 227 (.pointer (some ⟨b,0,none⟩)) none (some (iI 4)) none).run Tryz.prog w= .ok (.slice (some ⟨b,0,none⟩) 4 5) w:=by kernel_rfl
theorem ap_five(b:Nat)(w:World):(Instr.arrayAt 24 (.slice (some ⟨b,0,none⟩) 4 5)).run Tryz.prog w= .ok (.pointer (some ⟨b,0,none⟩)) w:=by kernel_rfl
theorem fd_m(b:Nat)(w:World):(Instr.fieldAt 223 (.pointer (some ⟨b,0,none⟩)) 0).run Tryz.prog w= .ok (.pointer (some ⟨b,0,none⟩)) w:=by kernel_rfl
theorem fd_c(b:Nat)(w:World):(Instr.fieldAt 223 (.pointer (some ⟨b,0,none⟩)) 1).run Tryz.prog w= .ok (.pointer (some ⟨b,4,none⟩)) w:=by go_simp
end
theorem Y7(T:TypeId)(p q:Operand)(x y:Int)(b:Bool)(w:World)(h:(x !=y)=b):(do eqGuard .neq T p q (iI x) (iI y);binOp .neq T (iI x) (iI y):Sem Value).run Tryz.prog w= .ok (.bool b) w:=by
 subst h;go_simp
section
section
variable {R:Rg} {P:Program} {ops:Array Oper} {Q:Exit->Act->World->Prop} {f:Nat->Bool} {t:Nat->Value} {u:World} {a:Act} {i:Nat} {o:Oper}
end
end
section
section
variable {R:Rg} {P:Program} {ops:Array Oper} {Q:Exit->Act->World->Prop} {f:Nat->Bool} {t:Nat->Value} {u:World} {a:Act} {i:Nat} {o:Oper}
end
end
section
section
variable {R:Rg} {P:Program} {ops:Array Oper} {Q:Exit->Act->World->Prop} {f:Nat->Bool} {t:Nat->Value} {u:World} {a:Act} {i:Nat} {o:Oper}
end
section
variable {P:Program} {ops:Array Oper} {Q:Exit->Act->World->Prop} {id:Nat} {w0 w:World} {fr:List Value} {lo:Nat} {ks:List Blk}
end
end
theorem uN:Tryz.prog.underlying 24=some (.array 4 22):=Tryz.underlying24
theorem uW:Tryz.prog.underlying 91=some (.array 8 22):=Tryz.underlying91
theorem iN:(Tryz.prog.info? 24).map (·.size)=some 4:=info_api_Nat
theorem iW:(Tryz.prog.info? 91).map (·.size)=some 8:=info_api_Wide
theorem aN(w:World):(Instr.alloc 24 true (.tuple #[])).run Tryz.prog w= .ok (.pointer (some ⟨w.heap.size,0,none⟩)) (w.alloc (.cells L0s.toArray 24)):=al_api_Nat w
theorem aW(w:World):(Instr.alloc 91 true (.tuple #[])).run Tryz.prog w= .ok (.pointer (some ⟨w.heap.size,0,none⟩)) (w.alloc (.cells L0w.toArray 91)):=al_api_Wide w
theorem zN(w:World):(Instr.build 24 [].toArray).run Tryz.prog w= .ok (A4 0 0 0 0) w:=by kernel_rfl
theorem lU{b c:Nat}{v:Int}(w:World)(h:w.cell? ⟨b,c,none⟩=some (iU v)):(Instr.loadAt 22 (.pointer (some ⟨b,c,none⟩))).run Tryz.prog w= .ok (iU v) w:=ld_u64 w b c v h
theorem sU{b c:Nat}{v x:Int}(w:World)(h:w.cell? ⟨b,c,none⟩=some (iU v))(hf:w.frozen? ⟨b,c,none⟩=false):(Instr.storeAt 22 (.pointer (some ⟨b,c,none⟩)) (iU x)).run Tryz.prog w= .ok () (w.setCell ⟨b,c,none⟩ (iU x)):=st_u64 w b c v x h hf
theorem jN{b:Nat}(k:Nat)(w:World)(h:k<4:=by decide):(Instr.indexAt 24 (.pointer (some ⟨b,0,none⟩)) (iI k)).run Tryz.prog w= .ok (.pointer (some ⟨b,k,none⟩)) w:=ix_nat w b k h
theorem jW{b:Nat}(k:Nat)(w:World)(h:k<8:=by decide):(Instr.indexAt 91 (.pointer (some ⟨b,0,none⟩)) (iI k)).run Tryz.prog w= .ok (.pointer (some ⟨b,k,none⟩)) w:=ix_wide w b k h
section
def flN:List Int->List Value
 | []=>[]
 | n::r=>LN n++flN r
def SN(w:World)(g o:Nat)(ns:List Int):Prop:= ∀j v,(flN ns)[j]?=some v->w.cell? ⟨g,o+j,none⟩=some v
theorem SN.below{w w':World}{m g o:Nat}{ns:List Int}(h:SN w g o ns)(hb:Below m w w')(hg:g<m):SN w' g o ns:=fun j v hj=>(hb.cell (p:=⟨g,o+j,none⟩) hg).trans (h j v hj)
theorem SN.empty{w:World}{g o:Nat}{ns:List Int}(h:ns.length=0):SN w g o ns:=fun j v hj=>by
 have e:ns=[]:=List.eq_nil_of_length_eq_zero h
 subst e;simp[flN] at hj
theorem SN.below2{w w':World}{m g o:Nat}{ns:List Int}(h:SN w g o ns)(hb:Below m w w')(hg:ns.length=0\/g<m):SN w' g o ns:=by
 rcases hg with e | hg
 ·exact SN.empty e
 ·exact h.below hb hg
theorem Xf: ∀ns:List Int,(flN ns).length=4*ns.length
 | []=>rfl
 | n::r=>by rw[flN,List.length_append,Xf r,List.length_cons];simp;omega
theorem flN_get: ∀(ns:List Int) (j c:Nat) (v:Value),j<ns.length->(LN (ns.getD j 0))[c]?=some v->(flN ns)[4*j+c]?=some v
 | [],j,c,v,h,_=>by simp at h
 | n::r,0,c,v,h,e=>by
  rw[flN,List.getElem?_append_left]
  ·simpa using e
  ·have:=(List.getElem?_eq_some_iff.1 e).1
   simpa using this
 | n::r,j+1,c,v,h,e=>by
  rw[flN,List.getElem?_append_right (by simp;omega)]
  have:=flN_get r j c v (by simpa using h) (by simpa using e)
  simpa [show 4*(j+1)+c -4=4*j+c by omega] using this
theorem SN.at{w:World}{g o:Nat}{ns:List Int}(h:SN w g o ns)(j:Nat)(hj:j<ns.length):w.rangeAt g (o+4*j) (LN (ns.getD j 0)):=fun c v hc=>by
 have:=h (4*j+c) v (flN_get ns j c v hj hc)
 rwa [<-Nat.add_assoc] at this
section
variable {R:Rg} {P:Program} {ops:Array Oper} {Q:Exit->Act->World->Prop} {i:Nat} {o:Oper}
end
theorem ixS(g o n cap j:Nat)(h:j<n)(w:World):(Instr.indexAt 31 (.slice (some ⟨g,o,none⟩) n cap) (iI j)).run Tryz.prog w= .ok (.pointer (some ⟨g,o+4*j,none⟩)) w:=by
 have h2:(j:Int)<n:=Z1
 go_simp
end
section
section
variable {R:Rg} {P:Program} {ops:Array Oper} {Q:Exit->Act->World->Prop} {f:Nat->Bool} {t:Nat->Value} {u:World} {a:Act} {i:Nat} {o:Oper}
end
end
section
section
variable {R:Rg} {P:Program} {ops:Array Oper} {Q:Exit->Act->World->Prop} {f:Nat->Bool} {t:Nat->Value} {u:World} {a:Act} {i:Nat} {o:Oper}
end
abbrev CE(n f a:Int):List Value:=[iU (D0 n),iU (D1 n),iU (D2 n),iU (D3 n),iU (D0 f),iU (D1 f),iU (D2 f),iU (D3 f),iU (D0 a),iU (D1 a),iU (D2 a),iU (D3 a)]
abbrev CX(n f a:Int):Value:= .agg #[iU (D0 n),iU (D1 n),iU (D2 n),iU (D3 n),iU (D0 f),iU (D1 f),iU (D2 f),iU (D3 f),iU (D0 a),iU (D1 a),iU (D2 a),iU (D3 a)]
theorem Uc:(Tryz.prog.info? 131).map (·.size)=some 12:=by kernel_rfl
theorem fdC0(b:Nat)(w:World):(Instr.fieldAt 131 (.pointer (some ⟨b,0,none⟩)) 0).run Tryz.prog w= .ok (.pointer (some ⟨b,0,none⟩)) w:=by go_simp
theorem fdC1(b:Nat)(w:World):(Instr.fieldAt 131 (.pointer (some ⟨b,0,none⟩)) 1).run Tryz.prog w= .ok (.pointer (some ⟨b,4,none⟩)) w:=by go_simp
end
section
section
variable {R:Rg} {P:Program} {ops:Array Oper} {Q:Exit->Act->World->Prop} {f:Nat->Bool} {t:Nat->Value} {u:World} {a:Act} {i:Nat} {o:Oper}
end
end
theorem infoN:(Tryz.prog.info? 24).map (fun i=>(i.zero,i.size,i.bytes))=some (some (A4 0 0 0 0),4,32):=by kernel_rfl
def PE(base:Nat)(u:World)(v:Value):Prop:= ∃b,v= .slice (some ⟨b,0,none⟩) 0 0/\base<=b/\u.heap[b]?=some (.cells #[] 24 (0,0))
def PO(base:Nat)(ns:List Int)(u:World)(v:Value):Prop:=(∃b c,v= .slice (some ⟨b,0,none⟩) ns.length c)/\u.ownsRow base 24 4 v ns.length (flN ns)
theorem PE.stab{base:Nat}{u v:World}{x:Value}(hB:Bw u v)(h:PE base u x):PE base v x:=by
 obtain⟨b,e,h1,h2⟩:=h
 exact⟨b,e,h1,by rw[hB.block b (Array.getElem?_eq_some_iff.1 h2).1];exact h2⟩
theorem PO.stab{base:Nat}{ns:List Int}{u v:World}{x:Value}(hB:Bw u v)(h:PO base ns u x):PO base ns v x:=by
 obtain⟨⟨b,c,rfl⟩,h2⟩:=h
 exact⟨⟨b,c,rfl⟩,h2.kept (U5 hB) (.inr (by simp[Value.ownBlock]))⟩
theorem PO.at{base:Nat}{ns:List Int}{u:World}{x:Value}(h:PO base ns u x): ∃b c,x= .slice (some ⟨b,0,none⟩) ns.length c/\b<u.heap.size/\SN u b 0 ns:=by
 obtain⟨⟨b,c,rfl⟩,h2⟩:=h
 have hl:=h2.lt b rfl
 refine⟨b,c,rfl,hl.2,fun j v hj=>?_⟩
 have:=h2.cells (g:=b) rfl j v hj
 have e:(⟨b,0,none⟩:Addr).add j=⟨b,j,none⟩:=by unfold Addr.add;split<;>simp_all
 rw[e] at this
 rw[Nat.zero_add];exact this
theorem SN.news{u:World}{g o:Nat}{ns:List Int}(h:SN u g o ns): ∀j v,(flN ns)[j]?=some v->u.cell? ((⟨g,o,none⟩:Addr).add j)=some v:=fun j v hj=>by
 have e:(⟨g,o,none⟩:Addr).add j=⟨g,o+j,none⟩:=by unfold Addr.add;split<;>simp_all
 rw[e];exact h j v hj
theorem Xn: ∀(a b:List Int),flN (a++b)=flN a++flN b
 | [],_=>rfl
 | n::r,b=>by rw[List.cons_append,flN,flN,Xn r b,List.append_assoc]
theorem PE.new{base:Nat}{u:World}(h:base<=u.heap.size):PE base (u.alloc (.cells #[] 24)) (.slice (some ⟨u.heap.size,0,none⟩) 0 0):=⟨_,rfl,h,heap_alloc_new u _⟩
theorem PO.cv{base:Nat}{ns:List Int}{u:World}{x:Value}(h:PO base ns u x): ∃b c,x= .slice (some ⟨b,0,none⟩) ns.length c/\base<=b/\b<u.heap.size/\CV u b (flN ns):=by
 obtain⟨⟨b,c,rfl⟩,h2⟩:=h
 have hl:=h2.lt b rfl
 refine⟨b,c,rfl,hl.1,hl.2,fun j v hj=>⟨?_,?_⟩⟩
 ·have:=h2.cells (g:=b) rfl j v hj
  have e:(⟨b,0,none⟩:Addr).add j=⟨b,j,none⟩:=by unfold Addr.add;split<;>simp_all
  rw[e] at this;exact this
 ·rcases h2.2 with⟨e,_⟩ | ⟨g',cap',cur,e,_,hh,_⟩
  ·cases e
  ·cases e;simp[World.frozen?,hh]
theorem CV.sn{u:World}{b:Nat}{ns:List Int}(h:CV u b (flN ns)):SN u b 0 ns:=fun j v hj=>by rw[Nat.zero_add];exact(h j v hj).1
def NL(u:World)(v:Value)(ns:List Int):Prop:= ∃sl gb go cap,v= .slice sl ns.length cap/\ns.length<=cap/\(sl=none->cap=0)/\(ns=[]\/sl=some ⟨gb,go,none⟩)/\(ns.length=0\/gb<u.heap.size)/\SN u gb go ns
theorem NL.up{w u:World}{v:Value}{ns:List Int}(h:NL w v ns)(hB:Bw w u):NL u v ns:=by
 obtain⟨sl,gb,go,cap,h1,h2,h3,h4,h5,h6⟩:=h
 refine⟨sl,gb,go,cap,h1,h2,h3,h4,h5.imp id fun e=>Nat.lt_of_lt_of_le e hB.size,?_⟩
 rcases h5 with h5 | h5
 ·exact SN.empty h5
 ·exact h6.below hB h5
def N2(a b:Int)(u:World)(v:Value):Prop:=NL u v [a,b]
theorem N2.stab{a b:Int}{u u2:World}{x:Value}(hB:Bw u u2)(h:N2 a b u x):N2 a b u2 x:=NL.up h hB
theorem inN2(a b:Int)(u:World):N2 a b (u.alloc (.cells (flN [a,b]).toArray 24)) (.slice (some ⟨u.heap.size,0,none⟩) 2 2):=
 ⟨_,u.heap.size,0,2,rfl,by simp,by simp,.inr rfl,.inr (by simp),fun j v hj=>by rw[Nat.zero_add];exact(CV.new u (flN [a,b]) 24 j v hj).1⟩
def N1x(a:Int)(u:World)(v:Value):Prop:=NL u v [a]
theorem N1x.stab{a:Int}{u u2:World}{x:Value}(hB:Bw u u2)(h:N1x a u x):N1x a u2 x:=NL.up h hB
theorem WV_of(n a b c d e f g h:Int)(ha:W64 a)(hb:W64 b)(hc:W64 c)(hd:W64 d)(he:W64 e)(hf:W64 f)(hg:W64 g)(hh:W64 h)(hn:n=V a b c d+V e f g h*0x10000000000000000000000000000000000000000000000000000000000000000):WV n=A8 a b c d e f g h:=by
 obtain⟨h0,h1,h2,h3,h4⟩:=D_of n a b c d (V e f g h) ha hb hc hd hn
 obtain⟨k0,k1,k2,k3,k4⟩:=D_of (V e f g h) e f g h 0 he hf hg hh Z1
 rw[WV,h0,h1,h2,h3,h4,k0,k1,k2,k3]
def H32(x:Int):Prop:=0<=x/\x<4294967296
theorem wide_any(g cap:Nat)(xw0 xw1 xw2 xw3 xw4 xw5 xw6 xw7 xw8 xw9 xw10 xw11 xw12 xw13 xw14 xw15:Int)(w:World)(c0:w.cell? ⟨g,0,none⟩=some (iU xw0))(c1:w.cell? ⟨g,1,none⟩=some (iU xw1))(c2:w.cell? ⟨g,2,none⟩=some (iU xw2))(c3:w.cell? ⟨g,3,none⟩=some (iU xw3))(c4:w.cell? ⟨g,4,none⟩=some (iU xw4))(c5:w.cell? ⟨g,5,none⟩=some (iU xw5))(c6:w.cell? ⟨g,6,none⟩=some (iU xw6))(c7:w.cell? ⟨g,7,none⟩=some (iU xw7))(c8:w.cell? ⟨g,8,none⟩=some (iU xw8))(c9:w.cell? ⟨g,9,none⟩=some (iU xw9))(c10:w.cell? ⟨g,10,none⟩=some (iU xw10))(c11:w.cell? ⟨g,11,none⟩=some (iU xw11))(c12:w.cell? ⟨g,12,none⟩=some (iU xw12))(c13:w.cell? ⟨g,13,none⟩=some (iU xw13))(c14:w.cell? ⟨g,14,none⟩=some (iU xw14))(c15:w.cell? ⟨g,15,none⟩=some (iU xw15))(h0:H32 xw0)(h1:H32 xw1)(h2:H32 xw2)(h3:H32 xw3)(h4:H32 xw4)(h5:H32 xw5)(h6:H32 xw6)(h7:H32 xw7)(h8:H32 xw8)(h9:H32 xw9)(h10:H32 xw10)(h11:H32 xw11)(h12:H32 xw12)(h13:H32 xw13)(h14:H32 xw14)(h15:H32 xw15):
 CC 72 #[.slice (some ⟨g,0,none⟩) 16 cap] w (A8 (xw0+xw1*4294967296) (xw2+xw3*4294967296) (xw4+xw5*4294967296) (xw6+xw7*4294967296) (xw8+xw9*4294967296) (xw10+xw11*4294967296) (xw12+xw13*4294967296) (xw14+xw15*4294967296)):=by
 obtain⟨l0,u0⟩:=h0
 obtain⟨l1,u1⟩:=h1
 obtain⟨l2,u2⟩:=h2
 obtain⟨l3,u3⟩:=h3
 obtain⟨l4,u4⟩:=h4
 obtain⟨l5,u5⟩:=h5
 obtain⟨l6,u6⟩:=h6
 obtain⟨l7,u7⟩:=h7
 obtain⟨l8,u8⟩:=h8
 obtain⟨l9,u9⟩:=h9
 obtain⟨l10,u10⟩:=h10
 obtain⟨l11,u11⟩:=h11
 obtain⟨l12,u12⟩:=h12
 obtain⟨l13,u13⟩:=h13
 obtain⟨l14,u14⟩:=h14
 obtain⟨l15,u15⟩:=h15
 have lg:g<w.heap.size:=World.block_lt_of_cell? w _ c0
 have lg1:g<w.heap.size+1:=Z1
 have lg2:g<w.heap.size+1+1:=Z1
 go_enter Tryz.func72,Tryz.ntmps72
 go_wp2
 refine wp_loop_rounds 9 ?_
 rw[rounds_succ]
 go_wp2
 go_region
 go_wp2
 rw[rounds_succ]
 go_wp2
 go_region
 go_wp2
 rw[rounds_succ]
 go_wp2
 go_region
 go_wp2
 rw[rounds_succ]
 go_wp2
 go_region
 go_wp2
 rw[rounds_succ]
 go_wp2
 go_region
 go_wp2
 rw[rounds_succ]
 go_wp2
 go_region
 go_wp2
 rw[rounds_succ]
 go_wp2
 go_region
 go_wp2
 rw[rounds_succ]
 go_wp2
 go_region
 go_wp2
 rw[rounds_succ]
 go_wp2
 refine bodyPost_ret (v:=A8 (xw0+xw1*4294967296) (xw2+xw3*4294967296) (xw4+xw5*4294967296) (xw6+xw7*4294967296) (xw8+xw9*4294967296) (xw10+xw11*4294967296) (xw12+xw13*4294967296) (xw14+xw15*4294967296)) (by simp[results,Tryz.results72,go_sem]) rfl ⟨rfl,?_⟩
 iterate 6 all_goals (go_grown<;>try with_reducible refine below_drewN ?_ _)
theorem zc8L:Builtin.zeroCells (Value.int .u64 0).cells 8=#[iU 0,iU 0,iU 0,iU 0,iU 0,iU 0,iU 0,iU 0]:=by kernel_rfl
abbrev z8L:List Value:=[iU 0,iU 0,iU 0,iU 0,iU 0,iU 0,iU 0,iU 0]
theorem run_app16(w:World)(base b cap:Nat)(xs:List Value)(hbase:base<=w.heap.size)(hown:w.ownsRow base 22 1 (.slice (some ⟨b,0,none⟩) 8 cap) 8 xs):
 ∃b' cap' w',(Builtin.append_ #[121,3] 121 #[.slice (some ⟨b,0,none⟩) 8 cap,iI 8]).run Tryz.prog w= .ok (.slice (some ⟨b',0,none⟩) 16 cap') w'/\
  (∀i u,(xs++z8L)[i]?=some u->w'.cell? ⟨b',i,none⟩=some u)/\Below base w w':=by
 obtain⟨i0,hi0,hz0,hz1,hz2⟩:=info_parts Tryz.info22
 obtain⟨hlen,hr⟩:=hown
 rcases hr with⟨h,_⟩ | ⟨g,cap',cur,hv,hbg,hg,hcap,hcm,hcs,htake⟩
 ·simp at h
 ·simp at hv
  obtain⟨rfl,rfl⟩:=hv
  simp only[Nat.mul_one] at hcs htake hlen
  by_cases hroom:16<=cap
  ·refine⟨b,cap,w.setRow b (cur.toList.take 8++z8L++cur.toList.drop 16).toArray,?_,?_,?_⟩
   ·have hst:=run_storeCells_at (P:=Tryz.prog) b 8 22 z8L 0 cur w hg (by simp;omega) (by intro v hv;simp at hv;subst hv;rfl)
    simp only[Nat.add_zero] at hst
    have hw:IntKind.i64.wrap (8:Int)=8:=Z2
    simp[Builtin.append_,run_underlying Tryz.underlying121,run_underlying Tryz.underlying3,sizeOf,typeInfo,zeroValue,hi0,hz0,hz1,hz2,asInt,asIntOf,hw,hroom,zc8L,Addr.add_lit,hst]
   ·intro i u hu
    rw[cell_setRow_same w b i cur _ 22 (0,0) hg]
    rw[htake]
    have hi:i<16:=by
     have:=(List.getElem?_eq_some_iff.1 hu).1
     simp[hlen] at this;exact this
    rw[List.getElem?_toArray,List.getElem?_append_left (by simp[hlen];omega)]
    exact hu
   ·exact below_setRow (Below.refl _ _) hbg _
  ·have hold:(Builtin.firstCells i0.size 8 (.slice (some ⟨b,0,none⟩) 8 cap)).run Tryz.prog w.drew= .ok xs.toArray w.drew:=by
    refine run_firstCells_some (P:=Tryz.prog) w.drew i0.size 8 ⟨b,0,none⟩ 8 cap xs (by rw[hz1];simpa using hlen) ?_
    intro j v hj
    have hadd:(⟨b,0,none⟩:Addr).add j=⟨b,j,none⟩:=by unfold Addr.add;split<;>simp_all
    rw[hadd]
    show w.cell? ⟨b,j,none⟩=some v
    rw[cell_of_row w b j cur 22 (0,0) hg]
    rw[<-htake,List.getElem?_take] at hj
    split at hj
    ·simpa using hj
    ·cases hj
   have hrun:=Lib.run_append_grow_zeros (P:=Tryz.prog) w 121 3 121 22 i0 (iU 0) .i64 .i64 Tryz.underlying121 Tryz.underlying3 hi0 hz0 (some ⟨b,0,none⟩) 8 cap xs hold 8 Z1 Z1 Z1 (by simp) (by rw[hz2];omega) (by
    rw[hz2];unfold Builtin.nextslicecap;split
    ·omega
    ·rw[if_pos Z1];omega)
   refine⟨_,_,_,hrun,?_,?_⟩
   ·intro i u hu
    rw[cell_of_row _ w.heap.size i _ 22 (0,0) (heap_alloc_new w.drew _)]
    rw[zc8L]
    have hi:i<16:=by
     have:=(List.getElem?_eq_some_iff.1 hu).1
     simp[hlen] at this;exact this
    rw[Array.getElem?_append_left (by simp[hlen];omega)]
    simpa using hu
   ·exact((Below.refl _ _).drew).alloc hbase _
theorem lo32(x:Int):H32 (x%4294967296):=by unfold H32;omega
theorem hi32(x:Int)(h:W64 x):H32 (x/4294967296):=by unfold W64 at h;unfold H32;omega
theorem z32L:H32 0:=by unfold H32;omega
theorem lohi(x:Int):x%4294967296+x/4294967296*4294967296=x:=Z1
theorem zz:(0:Int)+0*4294967296=0:=Z1
theorem rWiden_any(p q r s:Int)(w:World)(hp:W64 p)(hq:W64 q)(hr:W64 r)(hs:W64 s):
 CC 53 #[A4 p q r s] w (A8 p q r s 0 0 0 0):=by
 have hW:=fun(g cap:Nat) (w:World)=>wide_any g cap (p%4294967296) (p/4294967296) (q%4294967296) (q/4294967296) (r%4294967296) (r/4294967296) (s%4294967296) (s/4294967296) 0 0 0 0 0 0 0 0 w
 simp only[lohi,zz] at hW
 have HW:=hW
 clear hW
 have hWW:Hid _:=HW
 clear HW
 go_enter Tryz.func53,Tryz.ntmps53
 go_wp2_with fail
 refine(Vi _ p q r s _ (by unfold C4;simp[go_sem]) hp hq hr hs).mono ?_
 rintro e w1 ⟨b,cap,rfl,hown,hB⟩
 simp only[World.size_alloc] at hown
 obtain⟨b',cap',w2,hrun,hcells,hB2⟩:=run_app16 w1 _ b cap _ (by have:=hB.size;simp at this;omega) hown
 clear hown
 have hR:Hid _:=hrun
 clear hrun
 go_wp2_with (at_builtin;refine Lib.wpList_append_run _ rfl _ _ _ _ rfl _ _ rfl rfl _ _ hR.out ?_)
 refine(hWW.out b' cap' _ (hcells 0 _ rfl) (hcells 1 _ rfl) (hcells 2 _ rfl) (hcells 3 _ rfl) (hcells 4 _ rfl) (hcells 5 _ rfl) (hcells 6 _ rfl) (hcells 7 _ rfl) (hcells 8 _ rfl) (hcells 9 _ rfl) (hcells 10 _ rfl) (hcells 11 _ rfl) (hcells 12 _ rfl) (hcells 13 _ rfl) (hcells 14 _ rfl) (hcells 15 _ rfl) (lo32 p) (hi32 p hp) (lo32 q) (hi32 q hq) (lo32 r) (hi32 r hr) (lo32 s) (hi32 s hs) z32L z32L z32L z32L z32L z32L z32L z32L).mono ?_
 rintro e w3 ⟨rfl,hB3⟩
 simp only[Bw,World.size_alloc] at hB
 have hsz1:=hB.size
 have hsz2:=hB2.size
 have hsz3:=hB3.size
 simp only[World.size_alloc] at hsz1
 have hall:=hB.trans (hB2.trans (hB3.mono Z1))
 clear hB hB2 hB3 hcells
 have hcell: ∀o,w3.cell? ⟨w.heap.size+1,o,none⟩=_:=fun o=>hall.cell (p:=⟨w.heap.size+1,o,none⟩) (by show w.heap.size+1<w.heap.size+1+1;omega)
 have hfroz: ∀o,w3.frozen? ⟨w.heap.size+1,o,none⟩=_:=fun o=>hall.frozen (p:=⟨w.heap.size+1,o,none⟩) (by show w.heap.size+1<w.heap.size+1+1;omega)
 go_wp2
 refine bodyPost_ret (v:=A8 p q r s 0 0 0 0) (by simp[results,Tryz.results53,go_sem,hcell]) rfl ⟨rfl,?_⟩
 have hB':Bw w w3:=Below.trans (by go_grown) (hall.mono Z1)
 go_grown
end
end Go.Proofs.YtoffgfhilkpdpaaGreatDoor
