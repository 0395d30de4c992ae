import Derived.Test.YtbbohmgjphpfeaaGreatDoorM3
namespace Go.Proofs.YtbbohmgjphpfeaaGreatDoor
set_option linter.unusedVariables false
set_option linter.unusedSimpArgs false
set_option maxRecDepth 100000
set_option maxHeartbeats 4000000
open Go.RowKit
theorem Vg {w wr w1 W:World} {a b c d x y z t p0 p1 p2 p3 u0 u1 u2 u3:Int} (e0 e1 e2 e3:Int) (hB0:Bw w wr) (hsz:w.heap.size+1+1+1+1<wr.heap.size) (hB:Below wr.drew.heap.size wr.drew w1) (hI:C4 wr w.heap.size a b c d/\C4 wr (w.heap.size+1) x y z t/\C8 wr (w.heap.size+1+1) 0 0 0 0 0 0 0 0/\C8 wr (w.heap.size+1+1+1) p0 p1 p2 p3 0 0 0 0/\C4 wr (w.heap.size+1+1+1+1) u0 u1 u2 u3) (eW:w1.alloc (.cells #[.int .u64 e0,.int .u64 e1,.int .u64 e2,.int .u64 e3] 24)=W:=by rfl):
 Bw w W/\w.heap.size+1+1+1+1<w1.heap.size/\w1.heap.size<W.heap.size/\C4 W w1.heap.size e0 e1 e2 e3/\C4 W w.heap.size a b c d/\C4 W (w.heap.size+1) x y z t/\C8 W (w.heap.size+1+1) 0 0 0 0 0 0 0 0/\C8 W (w.heap.size+1+1+1) p0 p1 p2 p3 0 0 0 0/\C4 W (w.heap.size+1+1+1+1) u0 u1 u2 u3:=by
 subst eW
 obtain⟨hA,hX,hR,hP,hU⟩:=hI
 have hB1:Bw wr w1:=((Below.refl _ _).drew).trans hB
 have hs:=hB1.size
 exact⟨Z3 (Z7 hB0 hB1) _,by omega,by simp,C4.new w1 _ _ _ _ 24,(hA.below hB1 (by omega)).alloc (by omega) _,(hX.below hB1 (by omega)).alloc (by omega) _,(hR.below hB1 (by omega)).alloc (by omega) _,(hP.below hB1 (by omega)).alloc (by omega) _,(hU.below hB1 (by omega)).alloc (by omega) _⟩
theorem Vf {w wr w1:World} {a b c d x y z t p0 p1 p2 p3 u0 u1 u2 u3:Int} (e0 e1 e2 e3:Int) (hB0:Bw w wr) (hsz:w.heap.size+1+1+1+1<wr.heap.size)
 (hB:Below (wr.alloc (.cells #[.int .u64 0,.int .u64 0,.int .u64 0,.int .u64 0] 24)).drew.heap.size (wr.alloc (.cells #[.int .u64 0,.int .u64 0,.int .u64 0,.int .u64 0] 24)).drew w1) (hI:C4 wr w.heap.size a b c d/\C4 wr (w.heap.size+1) x y z t/\C8 wr (w.heap.size+1+1) 0 0 0 0 0 0 0 0/\C8 wr (w.heap.size+1+1+1) p0 p1 p2 p3 0 0 0 0/\C4 wr (w.heap.size+1+1+1+1) u0 u1 u2 u3):
 Bw w ((((w1.setCell ⟨wr.heap.size,0,none⟩ (.int .u64 e0)).setCell ⟨wr.heap.size,1,none⟩ (.int .u64 e1)).setCell ⟨wr.heap.size,2,none⟩ (.int .u64 e2)).setCell ⟨wr.heap.size,3,none⟩ (.int .u64 e3))/\w.heap.size+1+1+1+1<wr.heap.size/\
 wr.heap.size<((((w1.setCell ⟨wr.heap.size,0,none⟩ (.int .u64 e0)).setCell ⟨wr.heap.size,1,none⟩ (.int .u64 e1)).setCell ⟨wr.heap.size,2,none⟩ (.int .u64 e2)).setCell ⟨wr.heap.size,3,none⟩ (.int .u64 e3)).heap.size/\
 C4 ((((w1.setCell ⟨wr.heap.size,0,none⟩ (.int .u64 e0)).setCell ⟨wr.heap.size,1,none⟩ (.int .u64 e1)).setCell ⟨wr.heap.size,2,none⟩ (.int .u64 e2)).setCell ⟨wr.heap.size,3,none⟩ (.int .u64 e3)) wr.heap.size e0 e1 e2 e3/\
 C4 ((((w1.setCell ⟨wr.heap.size,0,none⟩ (.int .u64 e0)).setCell ⟨wr.heap.size,1,none⟩ (.int .u64 e1)).setCell ⟨wr.heap.size,2,none⟩ (.int .u64 e2)).setCell ⟨wr.heap.size,3,none⟩ (.int .u64 e3)) w.heap.size a b c d/\C4 ((((w1.setCell ⟨wr.heap.size,0,none⟩ (.int .u64 e0)).setCell ⟨wr.heap.size,1,none⟩ (.int .u64 e1)).setCell ⟨wr.heap.size,2,none⟩ (.int .u64 e2)).setCell ⟨wr.heap.size,3,none⟩ (.int .u64 e3)) (w.heap.size+1) x y z t/\C8 ((((w1.setCell ⟨wr.heap.size,0,none⟩ (.int .u64 e0)).setCell ⟨wr.heap.size,1,none⟩ (.int .u64 e1)).setCell ⟨wr.heap.size,2,none⟩ (.int .u64 e2)).setCell ⟨wr.heap.size,3,none⟩ (.int .u64 e3)) (w.heap.size+1+1) 0 0 0 0 0 0 0 0/\C8 ((((w1.setCell ⟨wr.heap.size,0,none⟩ (.int .u64 e0)).setCell ⟨wr.heap.size,1,none⟩ (.int .u64 e1)).setCell ⟨wr.heap.size,2,none⟩ (.int .u64 e2)).setCell ⟨wr.heap.size,3,none⟩ (.int .u64 e3)) (w.heap.size+1+1+1) p0 p1 p2 p3 0 0 0 0/\C4 ((((w1.setCell ⟨wr.heap.size,0,none⟩ (.int .u64 e0)).setCell ⟨wr.heap.size,1,none⟩ (.int .u64 e1)).setCell ⟨wr.heap.size,2,none⟩ (.int .u64 e2)).setCell ⟨wr.heap.size,3,none⟩ (.int .u64 e3)) (w.heap.size+1+1+1+1) u0 u1 u2 u3:=by
 obtain⟨hA,hX,hR,hP,hU⟩:=hI
 have hB1:Below (wr.heap.size+1) (wr.alloc (.cells #[.int .u64 0,.int .u64 0,.int .u64 0,.int .u64 0] 24)) w1:=(((Below.refl _ _).drew).trans hB).mono (by simp)
 have hs:=hB1.size
 simp only[World.size_alloc] at hs
 have hB2:Bw w w1:=(Z3 hB0 _).trans (hB1.mono (by have:=hB0.size;omega))
 have hZ:C4 w1 wr.heap.size 0 0 0 0:=(C4.new wr 0 0 0 0 24).below hB1 (by omega)
 have hz:=hB0.size
 refine⟨(((hB2.setCell (by show _<=_;omega) _).setCell (by show _<=_;omega) _).setCell (by show _<=_;omega) _).setCell (by show _<=_;omega) _,hsz,by simp;omega,(((hZ.set0 _).set1 _).set2 _).set3 _,?_,?_,?_,?_,?_⟩
 ·exact(((((hA.alloc (by omega) _).below hB1 (by omega)).other _ (by dsimp only;omega) _).other _ (by dsimp only;omega) _).other _ (by dsimp only;omega) _).other _ (by dsimp only;omega) _
 ·exact(((((hX.alloc (by omega) _).below hB1 (by omega)).other _ (by dsimp only;omega) _).other _ (by dsimp only;omega) _).other _ (by dsimp only;omega) _).other _ (by dsimp only;omega) _
 ·exact(((((hR.alloc (by omega) _).below hB1 (by omega)).other _ (by dsimp only;omega) _).other _ (by dsimp only;omega) _).other _ (by dsimp only;omega) _).other _ (by dsimp only;omega) _
 ·exact(((((hP.alloc (by omega) _).below hB1 (by omega)).other _ (by dsimp only;omega) _).other _ (by dsimp only;omega) _).other _ (by dsimp only;omega) _).other _ (by dsimp only;omega) _
 ·exact(((((hU.alloc (by omega) _).below hB1 (by omega)).other _ (by dsimp only;omega) _).other _ (by dsimp only;omega) _).other _ (by dsimp only;omega) _).other _ (by dsimp only;omega) _
theorem mul_end0 {w w2 W:World} {a b c d x y z t p0 p1 p2 p3 u0 u1 u2 u3:Int} (e0 e1 e2 e3 e4 g0 g1 g2 g3:Int) (hB:Bw w w2) (hz:w.heap.size+1+1+1+1<w2.heap.size) (hI:C4 w2 w.heap.size a b c d/\C4 w2 (w.heap.size+1) x y z t/\C8 w2 (w.heap.size+1+1) 0 0 0 0 0 0 0 0/\C8 w2 (w.heap.size+1+1+1) p0 p1 p2 p3 0 0 0 0/\C4 w2 (w.heap.size+1+1+1+1) u0 u1 u2 u3) (eW:(((((w2.setCell ⟨w.heap.size+1+1+1,0,none⟩ (.int .u64 e0)).setCell ⟨w.heap.size+1+1+1+1,0,none⟩ (.int .u64 e1)).setCell ⟨w.heap.size+1+1+1+1,1,none⟩ (.int .u64 e2)).setCell ⟨w.heap.size+1+1+1+1,2,none⟩ (.int .u64 e3)).setCell ⟨w.heap.size+1+1+1+1,3,none⟩ (.int .u64 e4)).alloc (.cells #[.int .u64 g0,.int .u64 g1,.int .u64 g2,.int .u64 g3] 24)=W:=by rfl):
 Bw w W/\w.heap.size+1+1+1+1<W.heap.size/\C4 W w.heap.size a b c d/\C4 W (w.heap.size+1) x y z t/\C8 W (w.heap.size+1+1) 0 0 0 0 0 0 0 0/\C8 W (w.heap.size+1+1+1) e0 p1 p2 p3 0 0 0 0/\C4 W (w.heap.size+1+1+1+1) e1 e2 e3 e4:=by
 subst eW
 obtain⟨hA,hX,hR,hP,hU⟩:=hI
 have hs:=hB.size
 refine⟨?_,by simp;omega,?_,?_,?_,?_,?_⟩
 ·exact(((((hB.setCell (by show _<=_;dsimp only;omega) _).setCell (by show _<=_;dsimp only;omega) _).setCell (by show _<=_;dsimp only;omega) _).setCell (by show _<=_;dsimp only;omega) _).setCell (by show _<=_;dsimp only;omega) _).alloc (by simp;omega) _
 ·exact(((((hA.other _ (by dsimp only;omega) _).other _ (by dsimp only;omega) _).other _ (by dsimp only;omega) _).other _ (by dsimp only;omega) _).other _ (by dsimp only;omega) _).alloc (by simp;omega) _
 ·exact(((((hX.other _ (by dsimp only;omega) _).other _ (by dsimp only;omega) _).other _ (by dsimp only;omega) _).other _ (by dsimp only;omega) _).other _ (by dsimp only;omega) _).alloc (by simp;omega) _
 ·exact(((((hR.other _ (by dsimp only;omega) _).other _ (by dsimp only;omega) _).other _ (by dsimp only;omega) _).other _ (by dsimp only;omega) _).other _ (by dsimp only;omega) _).alloc (by simp;omega) _
 ·exact(((((hP.set0 _).other _ (by dsimp only;omega) _).other _ (by dsimp only;omega) _).other _ (by dsimp only;omega) _).other _ (by dsimp only;omega) _).alloc (by simp;omega) _
 ·exact(((((hU.other _ (by dsimp only;omega) _).set0 _).set1 _).set2 _).set3 _).alloc (by simp;omega) _
theorem mul_eq0 (p0 p1 p2 p3 vu q0 q1 q2 q3 e0 vn:Int) (h:U 0 p0 p1 p2 p3+vu*PB 0=U 0 q0 q1 q2 q3) (hT:vu+q0=e0+vn*18446744073709551616):U 1 e0 p1 p2 p3+vn*PB 1=U 1 q0 q1 q2 q3:=by
 simp only[U,PB,V] at *;omega
theorem mul_end1 {w w2 W:World} {a b c d x y z t p0 p1 p2 p3 u0 u1 u2 u3:Int} (e0 e1 e2 e3 e4 g0 g1 g2 g3:Int) (hB:Bw w w2) (hz:w.heap.size+1+1+1+1<w2.heap.size) (hI:C4 w2 w.heap.size a b c d/\C4 w2 (w.heap.size+1) x y z t/\C8 w2 (w.heap.size+1+1) 0 0 0 0 0 0 0 0/\C8 w2 (w.heap.size+1+1+1) p0 p1 p2 p3 0 0 0 0/\C4 w2 (w.heap.size+1+1+1+1) u0 u1 u2 u3) (eW:(((((w2.setCell ⟨w.heap.size+1+1+1,1,none⟩ (.int .u64 e0)).setCell ⟨w.heap.size+1+1+1+1,0,none⟩ (.int .u64 e1)).setCell ⟨w.heap.size+1+1+1+1,1,none⟩ (.int .u64 e2)).setCell ⟨w.heap.size+1+1+1+1,2,none⟩ (.int .u64 e3)).setCell ⟨w.heap.size+1+1+1+1,3,none⟩ (.int .u64 e4)).alloc (.cells #[.int .u64 g0,.int .u64 g1,.int .u64 g2,.int .u64 g3] 24)=W:=by rfl):
 Bw w W/\w.heap.size+1+1+1+1<W.heap.size/\C4 W w.heap.size a b c d/\C4 W (w.heap.size+1) x y z t/\C8 W (w.heap.size+1+1) 0 0 0 0 0 0 0 0/\C8 W (w.heap.size+1+1+1) p0 e0 p2 p3 0 0 0 0/\C4 W (w.heap.size+1+1+1+1) e1 e2 e3 e4:=by
 subst eW
 obtain⟨hA,hX,hR,hP,hU⟩:=hI
 have hs:=hB.size
 refine⟨?_,by simp;omega,?_,?_,?_,?_,?_⟩
 ·exact(((((hB.setCell (by show _<=_;dsimp only;omega) _).setCell (by show _<=_;dsimp only;omega) _).setCell (by show _<=_;dsimp only;omega) _).setCell (by show _<=_;dsimp only;omega) _).setCell (by show _<=_;dsimp only;omega) _).alloc (by simp;omega) _
 ·exact(((((hA.other _ (by dsimp only;omega) _).other _ (by dsimp only;omega) _).other _ (by dsimp only;omega) _).other _ (by dsimp only;omega) _).other _ (by dsimp only;omega) _).alloc (by simp;omega) _
 ·exact(((((hX.other _ (by dsimp only;omega) _).other _ (by dsimp only;omega) _).other _ (by dsimp only;omega) _).other _ (by dsimp only;omega) _).other _ (by dsimp only;omega) _).alloc (by simp;omega) _
 ·exact(((((hR.other _ (by dsimp only;omega) _).other _ (by dsimp only;omega) _).other _ (by dsimp only;omega) _).other _ (by dsimp only;omega) _).other _ (by dsimp only;omega) _).alloc (by simp;omega) _
 ·exact(((((hP.set1 _).other _ (by dsimp only;omega) _).other _ (by dsimp only;omega) _).other _ (by dsimp only;omega) _).other _ (by dsimp only;omega) _).alloc (by simp;omega) _
 ·exact(((((hU.other _ (by dsimp only;omega) _).set0 _).set1 _).set2 _).set3 _).alloc (by simp;omega) _
theorem mul_eq1 (p0 p1 p2 p3 vu q0 q1 q2 q3 e0 vn:Int) (h:U 1 p0 p1 p2 p3+vu*PB 1=U 1 q0 q1 q2 q3) (hT:vu+q1=e0+vn*18446744073709551616):U 2 p0 e0 p2 p3+vn*PB 2=U 2 q0 q1 q2 q3:=by
 simp only[U,PB,V] at *;omega
theorem mul_end2 {w w2 W:World} {a b c d x y z t p0 p1 p2 p3 u0 u1 u2 u3:Int} (e0 e1 e2 e3 e4 g0 g1 g2 g3:Int) (hB:Bw w w2) (hz:w.heap.size+1+1+1+1<w2.heap.size) (hI:C4 w2 w.heap.size a b c d/\C4 w2 (w.heap.size+1) x y z t/\C8 w2 (w.heap.size+1+1) 0 0 0 0 0 0 0 0/\C8 w2 (w.heap.size+1+1+1) p0 p1 p2 p3 0 0 0 0/\C4 w2 (w.heap.size+1+1+1+1) u0 u1 u2 u3) (eW:(((((w2.setCell ⟨w.heap.size+1+1+1,2,none⟩ (.int .u64 e0)).setCell ⟨w.heap.size+1+1+1+1,0,none⟩ (.int .u64 e1)).setCell ⟨w.heap.size+1+1+1+1,1,none⟩ (.int .u64 e2)).setCell ⟨w.heap.size+1+1+1+1,2,none⟩ (.int .u64 e3)).setCell ⟨w.heap.size+1+1+1+1,3,none⟩ (.int .u64 e4)).alloc (.cells #[.int .u64 g0,.int .u64 g1,.int .u64 g2,.int .u64 g3] 24)=W:=by rfl):
 Bw w W/\w.heap.size+1+1+1+1<W.heap.size/\C4 W w.heap.size a b c d/\C4 W (w.heap.size+1) x y z t/\C8 W (w.heap.size+1+1) 0 0 0 0 0 0 0 0/\C8 W (w.heap.size+1+1+1) p0 p1 e0 p3 0 0 0 0/\C4 W (w.heap.size+1+1+1+1) e1 e2 e3 e4:=by
 subst eW
 obtain⟨hA,hX,hR,hP,hU⟩:=hI
 have hs:=hB.size
 refine⟨?_,by simp;omega,?_,?_,?_,?_,?_⟩
 ·exact(((((hB.setCell (by show _<=_;dsimp only;omega) _).setCell (by show _<=_;dsimp only;omega) _).setCell (by show _<=_;dsimp only;omega) _).setCell (by show _<=_;dsimp only;omega) _).setCell (by show _<=_;dsimp only;omega) _).alloc (by simp;omega) _
 ·exact(((((hA.other _ (by dsimp only;omega) _).other _ (by dsimp only;omega) _).other _ (by dsimp only;omega) _).other _ (by dsimp only;omega) _).other _ (by dsimp only;omega) _).alloc (by simp;omega) _
 ·exact(((((hX.other _ (by dsimp only;omega) _).other _ (by dsimp only;omega) _).other _ (by dsimp only;omega) _).other _ (by dsimp only;omega) _).other _ (by dsimp only;omega) _).alloc (by simp;omega) _
 ·exact(((((hR.other _ (by dsimp only;omega) _).other _ (by dsimp only;omega) _).other _ (by dsimp only;omega) _).other _ (by dsimp only;omega) _).other _ (by dsimp only;omega) _).alloc (by simp;omega) _
 ·exact(((((hP.set2 _).other _ (by dsimp only;omega) _).other _ (by dsimp only;omega) _).other _ (by dsimp only;omega) _).other _ (by dsimp only;omega) _).alloc (by simp;omega) _
 ·exact(((((hU.other _ (by dsimp only;omega) _).set0 _).set1 _).set2 _).set3 _).alloc (by simp;omega) _
theorem mul_eq2 (p0 p1 p2 p3 vu q0 q1 q2 q3 e0 vn:Int) (h:U 2 p0 p1 p2 p3+vu*PB 2=U 2 q0 q1 q2 q3) (hT:vu+q2=e0+vn*18446744073709551616):U 3 p0 p1 e0 p3+vn*PB 3=U 3 q0 q1 q2 q3:=by
 simp only[U,PB,V] at *;omega
theorem mul_end3 {w w2 W:World} {a b c d x y z t p0 p1 p2 p3 u0 u1 u2 u3:Int} (e0 e1 e2 e3 e4 g0 g1 g2 g3:Int) (hB:Bw w w2) (hz:w.heap.size+1+1+1+1<w2.heap.size) (hI:C4 w2 w.heap.size a b c d/\C4 w2 (w.heap.size+1) x y z t/\C8 w2 (w.heap.size+1+1) 0 0 0 0 0 0 0 0/\C8 w2 (w.heap.size+1+1+1) p0 p1 p2 p3 0 0 0 0/\C4 w2 (w.heap.size+1+1+1+1) u0 u1 u2 u3) (eW:(((((w2.setCell ⟨w.heap.size+1+1+1,3,none⟩ (.int .u64 e0)).setCell ⟨w.heap.size+1+1+1+1,0,none⟩ (.int .u64 e1)).setCell ⟨w.heap.size+1+1+1+1,1,none⟩ (.int .u64 e2)).setCell ⟨w.heap.size+1+1+1+1,2,none⟩ (.int .u64 e3)).setCell ⟨w.heap.size+1+1+1+1,3,none⟩ (.int .u64 e4)).alloc (.cells #[.int .u64 g0,.int .u64 g1,.int .u64 g2,.int .u64 g3] 24)=W:=by rfl):
 Bw w W/\w.heap.size+1+1+1+1<W.heap.size/\C4 W w.heap.size a b c d/\C4 W (w.heap.size+1) x y z t/\C8 W (w.heap.size+1+1) 0 0 0 0 0 0 0 0/\C8 W (w.heap.size+1+1+1) p0 p1 p2 e0 0 0 0 0/\C4 W (w.heap.size+1+1+1+1) e1 e2 e3 e4:=by
 subst eW
 obtain⟨hA,hX,hR,hP,hU⟩:=hI
 have hs:=hB.size
 refine⟨?_,by simp;omega,?_,?_,?_,?_,?_⟩
 ·exact(((((hB.setCell (by show _<=_;dsimp only;omega) _).setCell (by show _<=_;dsimp only;omega) _).setCell (by show _<=_;dsimp only;omega) _).setCell (by show _<=_;dsimp only;omega) _).setCell (by show _<=_;dsimp only;omega) _).alloc (by simp;omega) _
 ·exact(((((hA.other _ (by dsimp only;omega) _).other _ (by dsimp only;omega) _).other _ (by dsimp only;omega) _).other _ (by dsimp only;omega) _).other _ (by dsimp only;omega) _).alloc (by simp;omega) _
 ·exact(((((hX.other _ (by dsimp only;omega) _).other _ (by dsimp only;omega) _).other _ (by dsimp only;omega) _).other _ (by dsimp only;omega) _).other _ (by dsimp only;omega) _).alloc (by simp;omega) _
 ·exact(((((hR.other _ (by dsimp only;omega) _).other _ (by dsimp only;omega) _).other _ (by dsimp only;omega) _).other _ (by dsimp only;omega) _).other _ (by dsimp only;omega) _).alloc (by simp;omega) _
 ·exact(((((hP.set3 _).other _ (by dsimp only;omega) _).other _ (by dsimp only;omega) _).other _ (by dsimp only;omega) _).other _ (by dsimp only;omega) _).alloc (by simp;omega) _
 ·exact(((((hU.other _ (by dsimp only;omega) _).set0 _).set1 _).set2 _).set3 _).alloc (by simp;omega) _
theorem mul_eq3 (p0 p1 p2 p3 vu q0 q1 q2 q3 e0 vn:Int) (h:U 3 p0 p1 p2 p3+vu*PB 3=U 3 q0 q1 q2 q3) (hT:vu+q3=e0+vn*18446744073709551616):U 4 p0 p1 p2 e0+vn*PB 4=U 4 q0 q1 q2 q3:=by
 simp only[U,PB,V] at *;omega
set_option maxHeartbeats 8000000 in
theorem Mul_any (a b c d x y z t:Int) (w:World) (ha:W64 a) (hb:W64 b) (hc:W64 c) (hd:W64 d) (hx:W64 x) (hy:W64 y) (hz:W64 z) (ht:W64 t):
 CC 128 #[A4 a b c d,A4 x y z t] w (WV (V a b c d*V x y z t)):=by
 have hbd:=V_bd a b c d ha hb hc hd
 go_enter Tryz.func128,Tryz.ntmps128
 go_wp2
 go_loopw [12] (fun i wr=> ∃(p0 p1 p2 p3 u0 u1 u2 u3:Int),Bw w wr/\w.heap.size+1+1+1+1<wr.heap.size/\C4 wr w.heap.size a b c d/\C4 wr (w.heap.size+1) x y z t/\C8 wr (w.heap.size+1+1) 0 0 0 0 0 0 0 0/\C8 wr (w.heap.size+1+1+1) p0 p1 p2 p3 0 0 0 0/\C4 wr (w.heap.size+1+1+1+1) u0 u1 u2 u3/\
  (W64 p0/\W64 p1/\W64 p2/\W64 p3/\W64 u0/\W64 u1/\W64 u2/\W64 u3)/\
  ((i= .int .i64 0/\U 0 p0 p1 p2 p3+V u0 u1 u2 u3*PB 0=U 0 (V a b c d*x) (V a b c d*y) (V a b c d*z) (V a b c d*t))\/(i= .int .i64 1/\U 1 p0 p1 p2 p3+V u0 u1 u2 u3*PB 1=U 1 (V a b c d*x) (V a b c d*y) (V a b c d*z) (V a b c d*t))\/(i= .int .i64 2/\U 2 p0 p1 p2 p3+V u0 u1 u2 u3*PB 2=U 2 (V a b c d*x) (V a b c d*y) (V a b c d*z) (V a b c d*t))\/(i= .int .i64 3/\U 3 p0 p1 p2 p3+V u0 u1 u2 u3*PB 3=U 3 (V a b c d*x) (V a b c d*y) (V a b c d*z) (V a b c d*t))\/(i= .int .i64 4/\U 4 p0 p1 p2 p3+V u0 u1 u2 u3*PB 4=U 4 (V a b c d*x) (V a b c d*y) (V a b c d*z) (V a b c d*t)))) (fun i _=>4 -(intOf i).toNat)
 case atStart=>
  refine⟨0,0,0,0,0,0,0,0,?_,by simp,by unfold C4;simp[go_sem],by unfold C4;simp[go_sem],?_,?_,by unfold C4;simp[go_sem],⟨W_0,W_0,W_0,W_0,W_0,W_0,W_0,W_0⟩,.inl ⟨rfl,by simp[U,PB,V]⟩⟩
  ·iterate 6 all_goals (go_grown<;>try with_reducible refine below_drewN ?_ _)
  ·refine⟨?_,fun o _=>?_⟩<;>simp[go_sem]
  ·refine⟨?_,fun o _=>?_⟩<;>simp[go_sem]
 case round=>
  obtain⟨p0,p1,p2,p3,u0,u1,u2,u3,hB0,hsz,hA,hX,hR,hP,hU,hws,hr⟩:=hrel
  have y0:w.heap.size<wr.heap.size:=by omega
  have y1:w.heap.size+1<wr.heap.size:=by omega
  have y2:w.heap.size+1+1<wr.heap.size:=by omega
  have y3:w.heap.size+1+1+1<wr.heap.size:=by omega
  have hA':=hA;have hX':=hX
  obtain⟨⟨ac0,ac1,ac2,ac3⟩,af0,af1,af2,af3⟩:=hA'
  obtain⟨⟨xc0,xc1,xc2,xc3⟩,xf0,xf1,xf2,xf3⟩:=hX'
  clear af0 af1 af2 af3 xf0 xf1 xf2 xf3
  rcases hr with⟨rfl,he⟩ | ⟨rfl,he⟩ | ⟨rfl,he⟩ | ⟨rfl,he⟩ | ⟨rfl,he⟩
  ·have HE:Hid _:=he
   clear he
   have hqb:=prod_bd _ x hbd hx
   go_upto_region 6 with fail
   go_cut [8,9] (fun b8 t9 wx=> ∃blk,b8= .pointer (some ⟨blk,0,none⟩)/\t9= .int .u64 (D4 (V a b c d*x))/\Bw w wx/\w.heap.size+1+1+1+1<blk/\blk<wx.heap.size/\C4 wx blk (D0 (V a b c d*x)) (D1 (V a b c d*x)) (D2 (V a b c d*x)) (D3 (V a b c d*x))/\C4 wx w.heap.size a b c d/\C4 wx (w.heap.size+1) x y z t/\C8 wx (w.heap.size+1+1) 0 0 0 0 0 0 0 0/\C8 wx (w.heap.size+1+1+1) p0 p1 p2 p3 0 0 0 0/\C4 wx (w.heap.size+1+1+1+1) u0 u1 u2 u3)
   case first=>
    go_region_with (go_at_call 148;refine(Wv a b c d x _ ha hb hc hd hx).mono ?_;rintro e w1 ⟨rfl,hB⟩;obtain⟨hcell,hfroz,hsize⟩:=bcell hB;simp only[World.size_alloc,World.size_drew] at hsize hcell hfroz)
    all_goals
     go_wp2
     go_meet
    all_goals first | exact⟨_,rfl,rfl,Vg _ _ _ _ hB0 hsz hB ⟨hA,hX,hR,hP,hU⟩⟩ | exact⟨_,rfl,rfl,Vf _ _ _ _ hB0 hsz hB ⟨hA,hX,hR,hP,hU⟩⟩
   case rest=>
    clear hB0 hsz hA hX hR hP hU y0 y1 y2 y3 ac0 ac1 ac2 ac3 xc0 xc1 xc2 xc3
    obtain⟨blk,rfl,rfl,hBx,hb1,hb2,hRow,hAx,hXx,hRx,hPx,hUx⟩:=hcut
    have hRow':=hRow.1;have hUx':=hUx.1
    obtain⟨rc0,rc1,rc2,rc3⟩:=hRow'
    obtain⟨uc0,uc1,uc2,uc3⟩:=hUx'
    obtain⟨wp0,wp1,wp2,wp3,wu0,wu1,wu2,wu3⟩:=hws
    go_wp2_with fail
    refine(U0 u0 u1 u2 u3 _ _ _ _ _ wu0 wu1 wu2 wu3 (W_D0 _) (W_D1 _) (W_D2 _) (W_D3 _)).mono ?_
    rintro e w2 ⟨rfl,hB2⟩
    have hs2:=hB2.size
    have hBy:Bw w w2:=Z7 hBx hB2
    have hAy:=hAx.below hB2 (by omega)
    have hXy:=hXx.below hB2 (by omega)
    have hRy:=hRx.below hB2 (by omega)
    have hPy:=hPx.below hB2 (by omega)
    have hUy:=hUx.below hB2 (by omega)
    clear rc0 rc1 rc2 rc3 uc0 uc1 uc2 uc3 hRow hAx hXx hRx hPx hUx hBx hB2
    have hPy':=hPy;have hUy':=hUy
    obtain⟨⟨pc0,pc1,pc2,pc3,_⟩,pf⟩:=hPy'
    have pfk:=pf 0 (by omega)
    clear pf
    obtain⟨⟨uc0,uc1,uc2,uc3⟩,uf0,uf1,uf2,uf3⟩:=hUy'
    have hub:=V_bd u0 u1 u2 u3 wu0 wu1 wu2 wu3
    obtain⟨f0,f1,f2,f3,f4,f5,f6,f7,f8⟩:=row_spec (V a b c d*x) (V u0 u1 u2 u3) _ _ _ hqb hub rfl rfl rfl
    have hwr:IntKind.u64.wrap (D4 (V a b c d*x)+D4 (V u0 u1 u2 u3+V (D0 (V a b c d*x)) (D1 (V a b c d*x)) (D2 (V a b c d*x)) (D3 (V a b c d*x))))=D4 (V a b c d*x)+D4 (V u0 u1 u2 u3+V (D0 (V a b c d*x)) (D1 (V a b c d*x)) (D2 (V a b c d*x)) (D3 (V a b c d*x))):=by rw[IntKind.wrap_u64];omega
    have hw4:W64 (D4 (V a b c d*x)+D4 (V u0 u1 u2 u3+V (D0 (V a b c d*x)) (D1 (V a b c d*x)) (D2 (V a b c d*x)) (D3 (V a b c d*x)))):=⟨by omega,by omega⟩
    have F0:Hid _:=f0;have F1:Hid _:=f1;have F2:Hid _:=f2;have F3:Hid _:=f3;have F4:Hid _:=f4;have F8:Hid _:=f8
    clear f0 f1 f2 f3 f4 f5 f6 f7 f8 hub hqb
    have z3:w.heap.size+1+1+1<w2.heap.size:=by omega
    have z4:w.heap.size+1+1+1+1<w2.heap.size:=by omega
    go_wp2
    obtain⟨g1,g2,g3,g4,g5,g6,g7⟩:=mul_end0 _ _ _ _ _ _ _ _ _ hBy z4 ⟨hAy,hXy,hRy,hPy,hUy⟩
    exact⟨⟨_,_,_,_,_,_,_,_,g1,g2,g3,g4,g5,g6,g7,⟨W_D0 _,wp1,wp2,wp3,W_D1 _,W_D2 _,W_D3 _,hw4⟩,.inr (.inl ⟨rfl,mul_eq0 _ _ _ _ _ _ _ _ _ _ _ HE.out (by rw[F0.out,F1.out,F2.out,F3.out,F4.out];exact F8.out)⟩)⟩,by simp[intOf]⟩
  ·have HE:Hid _:=he
   clear he
   have hqb:=prod_bd _ y hbd hy
   go_upto_region 6 with fail
   go_cut [8,9] (fun b8 t9 wx=> ∃blk,b8= .pointer (some ⟨blk,0,none⟩)/\t9= .int .u64 (D4 (V a b c d*y))/\Bw w wx/\w.heap.size+1+1+1+1<blk/\blk<wx.heap.size/\C4 wx blk (D0 (V a b c d*y)) (D1 (V a b c d*y)) (D2 (V a b c d*y)) (D3 (V a b c d*y))/\C4 wx w.heap.size a b c d/\C4 wx (w.heap.size+1) x y z t/\C8 wx (w.heap.size+1+1) 0 0 0 0 0 0 0 0/\C8 wx (w.heap.size+1+1+1) p0 p1 p2 p3 0 0 0 0/\C4 wx (w.heap.size+1+1+1+1) u0 u1 u2 u3)
   case first=>
    go_region_with (go_at_call 148;refine(Wv a b c d y _ ha hb hc hd hy).mono ?_;rintro e w1 ⟨rfl,hB⟩;obtain⟨hcell,hfroz,hsize⟩:=bcell hB;simp only[World.size_alloc,World.size_drew] at hsize hcell hfroz)
    all_goals
     go_wp2
     go_meet
    all_goals first | exact⟨_,rfl,rfl,Vg _ _ _ _ hB0 hsz hB ⟨hA,hX,hR,hP,hU⟩⟩ | exact⟨_,rfl,rfl,Vf _ _ _ _ hB0 hsz hB ⟨hA,hX,hR,hP,hU⟩⟩
   case rest=>
    clear hB0 hsz hA hX hR hP hU y0 y1 y2 y3 ac0 ac1 ac2 ac3 xc0 xc1 xc2 xc3
    obtain⟨blk,rfl,rfl,hBx,hb1,hb2,hRow,hAx,hXx,hRx,hPx,hUx⟩:=hcut
    have hRow':=hRow.1;have hUx':=hUx.1
    obtain⟨rc0,rc1,rc2,rc3⟩:=hRow'
    obtain⟨uc0,uc1,uc2,uc3⟩:=hUx'
    obtain⟨wp0,wp1,wp2,wp3,wu0,wu1,wu2,wu3⟩:=hws
    go_wp2_with fail
    refine(U0 u0 u1 u2 u3 _ _ _ _ _ wu0 wu1 wu2 wu3 (W_D0 _) (W_D1 _) (W_D2 _) (W_D3 _)).mono ?_
    rintro e w2 ⟨rfl,hB2⟩
    have hs2:=hB2.size
    have hBy:Bw w w2:=Z7 hBx hB2
    have hAy:=hAx.below hB2 (by omega)
    have hXy:=hXx.below hB2 (by omega)
    have hRy:=hRx.below hB2 (by omega)
    have hPy:=hPx.below hB2 (by omega)
    have hUy:=hUx.below hB2 (by omega)
    clear rc0 rc1 rc2 rc3 uc0 uc1 uc2 uc3 hRow hAx hXx hRx hPx hUx hBx hB2
    have hPy':=hPy;have hUy':=hUy
    obtain⟨⟨pc0,pc1,pc2,pc3,_⟩,pf⟩:=hPy'
    have pfk:=pf 1 (by omega)
    clear pf
    obtain⟨⟨uc0,uc1,uc2,uc3⟩,uf0,uf1,uf2,uf3⟩:=hUy'
    have hub:=V_bd u0 u1 u2 u3 wu0 wu1 wu2 wu3
    obtain⟨f0,f1,f2,f3,f4,f5,f6,f7,f8⟩:=row_spec (V a b c d*y) (V u0 u1 u2 u3) _ _ _ hqb hub rfl rfl rfl
    have hwr:IntKind.u64.wrap (D4 (V a b c d*y)+D4 (V u0 u1 u2 u3+V (D0 (V a b c d*y)) (D1 (V a b c d*y)) (D2 (V a b c d*y)) (D3 (V a b c d*y))))=D4 (V a b c d*y)+D4 (V u0 u1 u2 u3+V (D0 (V a b c d*y)) (D1 (V a b c d*y)) (D2 (V a b c d*y)) (D3 (V a b c d*y))):=by rw[IntKind.wrap_u64];omega
    have hw4:W64 (D4 (V a b c d*y)+D4 (V u0 u1 u2 u3+V (D0 (V a b c d*y)) (D1 (V a b c d*y)) (D2 (V a b c d*y)) (D3 (V a b c d*y)))):=⟨by omega,by omega⟩
    have F0:Hid _:=f0;have F1:Hid _:=f1;have F2:Hid _:=f2;have F3:Hid _:=f3;have F4:Hid _:=f4;have F8:Hid _:=f8
    clear f0 f1 f2 f3 f4 f5 f6 f7 f8 hub hqb
    have z3:w.heap.size+1+1+1<w2.heap.size:=by omega
    have z4:w.heap.size+1+1+1+1<w2.heap.size:=by omega
    go_wp2
    obtain⟨g1,g2,g3,g4,g5,g6,g7⟩:=mul_end1 _ _ _ _ _ _ _ _ _ hBy z4 ⟨hAy,hXy,hRy,hPy,hUy⟩
    exact⟨⟨_,_,_,_,_,_,_,_,g1,g2,g3,g4,g5,g6,g7,⟨wp0,W_D0 _,wp2,wp3,W_D1 _,W_D2 _,W_D3 _,hw4⟩,.inr (.inr (.inl ⟨rfl,mul_eq1 _ _ _ _ _ _ _ _ _ _ _ HE.out (by rw[F0.out,F1.out,F2.out,F3.out,F4.out];exact F8.out)⟩))⟩,by simp[intOf]⟩
  ·have HE:Hid _:=he
   clear he
   have hqb:=prod_bd _ z hbd hz
   go_upto_region 6 with fail
   go_cut [8,9] (fun b8 t9 wx=> ∃blk,b8= .pointer (some ⟨blk,0,none⟩)/\t9= .int .u64 (D4 (V a b c d*z))/\Bw w wx/\w.heap.size+1+1+1+1<blk/\blk<wx.heap.size/\C4 wx blk (D0 (V a b c d*z)) (D1 (V a b c d*z)) (D2 (V a b c d*z)) (D3 (V a b c d*z))/\C4 wx w.heap.size a b c d/\C4 wx (w.heap.size+1) x y z t/\C8 wx (w.heap.size+1+1) 0 0 0 0 0 0 0 0/\C8 wx (w.heap.size+1+1+1) p0 p1 p2 p3 0 0 0 0/\C4 wx (w.heap.size+1+1+1+1) u0 u1 u2 u3)
   case first=>
    go_region_with (go_at_call 148;refine(Wv a b c d z _ ha hb hc hd hz).mono ?_;rintro e w1 ⟨rfl,hB⟩;obtain⟨hcell,hfroz,hsize⟩:=bcell hB;simp only[World.size_alloc,World.size_drew] at hsize hcell hfroz)
    all_goals
     go_wp2
     go_meet
    all_goals first | exact⟨_,rfl,rfl,Vg _ _ _ _ hB0 hsz hB ⟨hA,hX,hR,hP,hU⟩⟩ | exact⟨_,rfl,rfl,Vf _ _ _ _ hB0 hsz hB ⟨hA,hX,hR,hP,hU⟩⟩
   case rest=>
    clear hB0 hsz hA hX hR hP hU y0 y1 y2 y3 ac0 ac1 ac2 ac3 xc0 xc1 xc2 xc3
    obtain⟨blk,rfl,rfl,hBx,hb1,hb2,hRow,hAx,hXx,hRx,hPx,hUx⟩:=hcut
    have hRow':=hRow.1;have hUx':=hUx.1
    obtain⟨rc0,rc1,rc2,rc3⟩:=hRow'
    obtain⟨uc0,uc1,uc2,uc3⟩:=hUx'
    obtain⟨wp0,wp1,wp2,wp3,wu0,wu1,wu2,wu3⟩:=hws
    go_wp2_with fail
    refine(U0 u0 u1 u2 u3 _ _ _ _ _ wu0 wu1 wu2 wu3 (W_D0 _) (W_D1 _) (W_D2 _) (W_D3 _)).mono ?_
    rintro e w2 ⟨rfl,hB2⟩
    have hs2:=hB2.size
    have hBy:Bw w w2:=Z7 hBx hB2
    have hAy:=hAx.below hB2 (by omega)
    have hXy:=hXx.below hB2 (by omega)
    have hRy:=hRx.below hB2 (by omega)
    have hPy:=hPx.below hB2 (by omega)
    have hUy:=hUx.below hB2 (by omega)
    clear rc0 rc1 rc2 rc3 uc0 uc1 uc2 uc3 hRow hAx hXx hRx hPx hUx hBx hB2
    have hPy':=hPy;have hUy':=hUy
    obtain⟨⟨pc0,pc1,pc2,pc3,_⟩,pf⟩:=hPy'
    have pfk:=pf 2 (by omega)
    clear pf
    obtain⟨⟨uc0,uc1,uc2,uc3⟩,uf0,uf1,uf2,uf3⟩:=hUy'
    have hub:=V_bd u0 u1 u2 u3 wu0 wu1 wu2 wu3
    obtain⟨f0,f1,f2,f3,f4,f5,f6,f7,f8⟩:=row_spec (V a b c d*z) (V u0 u1 u2 u3) _ _ _ hqb hub rfl rfl rfl
    have hwr:IntKind.u64.wrap (D4 (V a b c d*z)+D4 (V u0 u1 u2 u3+V (D0 (V a b c d*z)) (D1 (V a b c d*z)) (D2 (V a b c d*z)) (D3 (V a b c d*z))))=D4 (V a b c d*z)+D4 (V u0 u1 u2 u3+V (D0 (V a b c d*z)) (D1 (V a b c d*z)) (D2 (V a b c d*z)) (D3 (V a b c d*z))):=by rw[IntKind.wrap_u64];omega
    have hw4:W64 (D4 (V a b c d*z)+D4 (V u0 u1 u2 u3+V (D0 (V a b c d*z)) (D1 (V a b c d*z)) (D2 (V a b c d*z)) (D3 (V a b c d*z)))):=⟨by omega,by omega⟩
    have F0:Hid _:=f0;have F1:Hid _:=f1;have F2:Hid _:=f2;have F3:Hid _:=f3;have F4:Hid _:=f4;have F8:Hid _:=f8
    clear f0 f1 f2 f3 f4 f5 f6 f7 f8 hub hqb
    have z3:w.heap.size+1+1+1<w2.heap.size:=by omega
    have z4:w.heap.size+1+1+1+1<w2.heap.size:=by omega
    go_wp2
    obtain⟨g1,g2,g3,g4,g5,g6,g7⟩:=mul_end2 _ _ _ _ _ _ _ _ _ hBy z4 ⟨hAy,hXy,hRy,hPy,hUy⟩
    exact⟨⟨_,_,_,_,_,_,_,_,g1,g2,g3,g4,g5,g6,g7,⟨wp0,wp1,W_D0 _,wp3,W_D1 _,W_D2 _,W_D3 _,hw4⟩,.inr (.inr (.inr (.inl ⟨rfl,mul_eq2 _ _ _ _ _ _ _ _ _ _ _ HE.out (by rw[F0.out,F1.out,F2.out,F3.out,F4.out];exact F8.out)⟩)))⟩,by simp[intOf]⟩
  ·have HE:Hid _:=he
   clear he
   have hqb:=prod_bd _ t hbd ht
   go_upto_region 6 with fail
   go_cut [8,9] (fun b8 t9 wx=> ∃blk,b8= .pointer (some ⟨blk,0,none⟩)/\t9= .int .u64 (D4 (V a b c d*t))/\Bw w wx/\w.heap.size+1+1+1+1<blk/\blk<wx.heap.size/\C4 wx blk (D0 (V a b c d*t)) (D1 (V a b c d*t)) (D2 (V a b c d*t)) (D3 (V a b c d*t))/\C4 wx w.heap.size a b c d/\C4 wx (w.heap.size+1) x y z t/\C8 wx (w.heap.size+1+1) 0 0 0 0 0 0 0 0/\C8 wx (w.heap.size+1+1+1) p0 p1 p2 p3 0 0 0 0/\C4 wx (w.heap.size+1+1+1+1) u0 u1 u2 u3)
   case first=>
    go_region_with (go_at_call 148;refine(Wv a b c d t _ ha hb hc hd ht).mono ?_;rintro e w1 ⟨rfl,hB⟩;obtain⟨hcell,hfroz,hsize⟩:=bcell hB;simp only[World.size_alloc,World.size_drew] at hsize hcell hfroz)
    all_goals
     go_wp2
     go_meet
    all_goals first | exact⟨_,rfl,rfl,Vg _ _ _ _ hB0 hsz hB ⟨hA,hX,hR,hP,hU⟩⟩ | exact⟨_,rfl,rfl,Vf _ _ _ _ hB0 hsz hB ⟨hA,hX,hR,hP,hU⟩⟩
   case rest=>
    clear hB0 hsz hA hX hR hP hU y0 y1 y2 y3 ac0 ac1 ac2 ac3 xc0 xc1 xc2 xc3
    obtain⟨blk,rfl,rfl,hBx,hb1,hb2,hRow,hAx,hXx,hRx,hPx,hUx⟩:=hcut
    have hRow':=hRow.1;have hUx':=hUx.1
    obtain⟨rc0,rc1,rc2,rc3⟩:=hRow'
    obtain⟨uc0,uc1,uc2,uc3⟩:=hUx'
    obtain⟨wp0,wp1,wp2,wp3,wu0,wu1,wu2,wu3⟩:=hws
    go_wp2_with fail
    refine(U0 u0 u1 u2 u3 _ _ _ _ _ wu0 wu1 wu2 wu3 (W_D0 _) (W_D1 _) (W_D2 _) (W_D3 _)).mono ?_
    rintro e w2 ⟨rfl,hB2⟩
    have hs2:=hB2.size
    have hBy:Bw w w2:=Z7 hBx hB2
    have hAy:=hAx.below hB2 (by omega)
    have hXy:=hXx.below hB2 (by omega)
    have hRy:=hRx.below hB2 (by omega)
    have hPy:=hPx.below hB2 (by omega)
    have hUy:=hUx.below hB2 (by omega)
    clear rc0 rc1 rc2 rc3 uc0 uc1 uc2 uc3 hRow hAx hXx hRx hPx hUx hBx hB2
    have hPy':=hPy;have hUy':=hUy
    obtain⟨⟨pc0,pc1,pc2,pc3,_⟩,pf⟩:=hPy'
    have pfk:=pf 3 (by omega)
    clear pf
    obtain⟨⟨uc0,uc1,uc2,uc3⟩,uf0,uf1,uf2,uf3⟩:=hUy'
    have hub:=V_bd u0 u1 u2 u3 wu0 wu1 wu2 wu3
    obtain⟨f0,f1,f2,f3,f4,f5,f6,f7,f8⟩:=row_spec (V a b c d*t) (V u0 u1 u2 u3) _ _ _ hqb hub rfl rfl rfl
    have hwr:IntKind.u64.wrap (D4 (V a b c d*t)+D4 (V u0 u1 u2 u3+V (D0 (V a b c d*t)) (D1 (V a b c d*t)) (D2 (V a b c d*t)) (D3 (V a b c d*t))))=D4 (V a b c d*t)+D4 (V u0 u1 u2 u3+V (D0 (V a b c d*t)) (D1 (V a b c d*t)) (D2 (V a b c d*t)) (D3 (V a b c d*t))):=by rw[IntKind.wrap_u64];omega
    have hw4:W64 (D4 (V a b c d*t)+D4 (V u0 u1 u2 u3+V (D0 (V a b c d*t)) (D1 (V a b c d*t)) (D2 (V a b c d*t)) (D3 (V a b c d*t)))):=⟨by omega,by omega⟩
    have F0:Hid _:=f0;have F1:Hid _:=f1;have F2:Hid _:=f2;have F3:Hid _:=f3;have F4:Hid _:=f4;have F8:Hid _:=f8
    clear f0 f1 f2 f3 f4 f5 f6 f7 f8 hub hqb
    have z3:w.heap.size+1+1+1<w2.heap.size:=by omega
    have z4:w.heap.size+1+1+1+1<w2.heap.size:=by omega
    go_wp2
    obtain⟨g1,g2,g3,g4,g5,g6,g7⟩:=mul_end3 _ _ _ _ _ _ _ _ _ hBy z4 ⟨hAy,hXy,hRy,hPy,hUy⟩
    exact⟨⟨_,_,_,_,_,_,_,_,g1,g2,g3,g4,g5,g6,g7,⟨wp0,wp1,wp2,W_D0 _,W_D1 _,W_D2 _,W_D3 _,hw4⟩,.inr (.inr (.inr (.inr (⟨rfl,mul_eq3 _ _ _ _ _ _ _ _ _ _ _ HE.out (by rw[F0.out,F1.out,F2.out,F3.out,F4.out];exact F8.out)⟩))))⟩,by simp[intOf]⟩
  ·have HE:Hid _:=he
   clear he ac0 ac1 ac2 ac3 xc0 xc1 xc2 xc3
   have hU':=hU;have hP':=hP
   obtain⟨⟨uc0,uc1,uc2,uc3⟩,_⟩:=hU'
   obtain⟨⟨pc0,pc1,pc2,pc3,pc4,pc5,pc6,pc7⟩,pf⟩:=hP'
   have hcp:(Builtin.copy_ #[120,120] 3 #[.slice (some ⟨w.heap.size+1+1+1,4,none⟩) 4 4,.slice (some ⟨w.heap.size+1+1+1+1,0,none⟩) 4 4]).run Tryz.prog wr.drew= .ok (.int .i64 4) ((((wr.setCell ⟨w.heap.size+1+1+1,4,none⟩ (.int .u64 u0)).setCell ⟨w.heap.size+1+1+1,5,none⟩ (.int .u64 u1)).setCell ⟨w.heap.size+1+1+1,6,none⟩ (.int .u64 u2)).setCell ⟨w.heap.size+1+1+1,7,none⟩ (.int .u64 u3)).drew:=by
    rw[run_copy_cells _ 120 120 3 22 _ 4 4 4 _ 4 4 [.int .u64 u0,.int .u64 u1,.int .u64 u2,.int .u64 u3] Tryz.underlying120 (by kernel_rfl) rfl ?h1 ?h2 ?h3 ?h4]
    case h1=>
     intro j v hj
     match j,hj with
     | 0,hj=>simp at hj;subst hj;simpa [Addr.add] using uc0
     | 1,hj=>simp at hj;subst hj;simpa [Addr.add] using uc1
     | 2,hj=>simp at hj;subst hj;simpa [Addr.add] using uc2
     | 3,hj=>simp at hj;subst hj;simpa [Addr.add] using uc3
    case h2=>
     intro j hj
     have hj':j=0\/j=1\/j=2\/j=3:=by simp at hj;omega
     rcases hj' with rfl | rfl | rfl | rfl
     ·simp[pc4]
     ·simp[pc5]
     ·simp[pc6]
     ·simp[pc7]
    case h3=>
     intro j hj
     exact pf (4+j) (by simp at hj;omega)
    case h4=>intro v hv;simp at hv;rcases hv with rfl | rfl | rfl | rfl<;>rfl
    simp[World.setCells,go_sem,goInt]
   have hPn:=(((hP.set4 u0).set5 u1).set6 u2).set7 u3
   have hRn:=(((hR.other ⟨w.heap.size+1+1+1,4,none⟩ (by dsimp only;omega) (.int .u64 u0)).other ⟨w.heap.size+1+1+1,5,none⟩ (by dsimp only;omega) (.int .u64 u1)).other ⟨w.heap.size+1+1+1,6,none⟩ (by dsimp only;omega) (.int .u64 u2)).other ⟨w.heap.size+1+1+1,7,none⟩ (by dsimp only;omega) (.int .u64 u3)
   have hBn:Bw w ((((wr.setCell ⟨w.heap.size+1+1+1,4,none⟩ (.int .u64 u0)).setCell ⟨w.heap.size+1+1+1,5,none⟩ (.int .u64 u1)).setCell ⟨w.heap.size+1+1+1,6,none⟩ (.int .u64 u2)).setCell ⟨w.heap.size+1+1+1,7,none⟩ (.int .u64 u3)):=(((hB0.setCell (by show _<=_;dsimp only;omega) _).setCell (by show _<=_;dsimp only;omega) _).setCell (by show _<=_;dsimp only;omega) _).setCell (by show _<=_;dsimp only;omega) _
   clear hA hX hR hP hU uc0 uc1 uc2 uc3 pc0 pc1 pc2 pc3 pc4 pc5 pc6 pc7 pf
   have hCP:Hid _:=hcp
   go_upto_region 11 with fail
   go_region
   clear hcp hCP
   have hse:((((wr.setCell ⟨w.heap.size+1+1+1,4,none⟩ (.int .u64 u0)).setCell ⟨w.heap.size+1+1+1,5,none⟩ (.int .u64 u1)).setCell ⟨w.heap.size+1+1+1,6,none⟩ (.int .u64 u2)).setCell ⟨w.heap.size+1+1+1,7,none⟩ (.int .u64 u3)).heap.size=wr.heap.size:=by simp
   generalize ((((wr.setCell ⟨w.heap.size+1+1+1,4,none⟩ (.int .u64 u0)).setCell ⟨w.heap.size+1+1+1,5,none⟩ (.int .u64 u1)).setCell ⟨w.heap.size+1+1+1,6,none⟩ (.int .u64 u2)).setCell ⟨w.heap.size+1+1+1,7,none⟩ (.int .u64 u3))=wf at *
   have y2':w.heap.size+1+1<wf.heap.size:=by omega
   clear hB0 hsz y0 y1 y2 y3 hse
   obtain⟨⟨pc0,pc1,pc2,pc3,pc4,pc5,pc6,pc7⟩,_⟩:=hPn
   obtain⟨⟨rc0,rc1,rc2,rc3,rc4,rc5,rc6,rc7⟩,rf⟩:=hRn
   have rf0:=rf 0 (by omega);have rf1:=rf 1 (by omega);have rf2:=rf 2 (by omega);have rf3:=rf 3 (by omega)
   have rf4:=rf 4 (by omega);have rf5:=rf 5 (by omega);have rf6:=rf 6 (by omega);have rf7:=rf 7 (by omega)
   clear rf
   go_wp2
   obtain⟨wp0,wp1,wp2,wp3,wu0,wu1,wu2,wu3⟩:=hws
   refine bodyPost_ret (v:=A8 p0 p1 p2 p3 u0 u1 u2 u3) (by simp[results,Tryz.results128,go_sem, *]) rfl ⟨?_,?_⟩
   ·have hh:=HE.out
    have hn:V a b c d*V x y z t=V p0 p1 p2 p3+V u0 u1 u2 u3*0x10000000000000000000000000000000000000000000000000000000000000000:=by rw[mul_spec];exact hh.symm
    obtain⟨e0,e1,e2,e3,e4⟩:=D_of _ p0 p1 p2 p3 _ wp0 wp1 wp2 wp3 hn
    obtain⟨k0,k1,k2,k3,_⟩:=D_of (V u0 u1 u2 u3) u0 u1 u2 u3 0 wu0 wu1 wu2 wu3 (by omega)
    rw[WV,e4,e0,e1,e2,e3,k0,k1,k2,k3]
   ·iterate 6 all_goals (go_grown<;>try with_reducible refine below_drewN ?_ _)
end Go.Proofs.YtbbohmgjphpfeaaGreatDoor
