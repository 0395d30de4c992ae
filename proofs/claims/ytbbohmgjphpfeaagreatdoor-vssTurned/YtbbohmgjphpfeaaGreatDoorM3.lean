import Derived.Test.YtbbohmgjphpfeaaGreatDoorW5
import Derived.Test.YtbbohmgjphpfeaaGreatDoorW3
namespace Go.Proofs.YtbbohmgjphpfeaaGreatDoor
set_option linter.unusedVariables false
set_option linter.unusedSimpArgs false
set_option maxRecDepth 100000
set_option maxHeartbeats 4000000
open Go.RowKit
def C8 (w:World) (n:Nat) (a b c d e f g h:Int):Prop:=
 (w.cell? ⟨n,0,none⟩=some (.int .u64 a)/\w.cell? ⟨n,1,none⟩=some (.int .u64 b)/\w.cell? ⟨n,2,none⟩=some (.int .u64 c)/\w.cell? ⟨n,3,none⟩=some (.int .u64 d)/\
  w.cell? ⟨n,4,none⟩=some (.int .u64 e)/\w.cell? ⟨n,5,none⟩=some (.int .u64 f)/\w.cell? ⟨n,6,none⟩=some (.int .u64 g)/\w.cell? ⟨n,7,none⟩=some (.int .u64 h))/\
 ∀o,o<8->w.frozen? ⟨n,o,none⟩=false
theorem C8.below {w w':World} {m n:Nat} {a b c d e f g h:Int} (H:C8 w n a b c d e f g h) (hb:Below m w w') (hn:n<m):C8 w' n a b c d e f g h:=by
 obtain⟨⟨h0,h1,h2,h3,h4,h5,h6,h7⟩,hf⟩:=H
 have k: ∀o,w'.cell? ⟨n,o,none⟩=w.cell? ⟨n,o,none⟩:=fun o=>hb.cell (p:=⟨n,o,none⟩) hn
 have l: ∀o,w'.frozen? ⟨n,o,none⟩=w.frozen? ⟨n,o,none⟩:=fun o=>hb.frozen (p:=⟨n,o,none⟩) hn
 exact⟨⟨(k _).trans h0,(k _).trans h1,(k _).trans h2,(k _).trans h3,(k _).trans h4,(k _).trans h5,(k _).trans h6,(k _).trans h7⟩,fun o ho=>(l o).trans (hf o ho)⟩
theorem C8.drew {w:World} {n:Nat} {a b c d e f g h:Int} (H:C8 w n a b c d e f g h):C8 w.drew n a b c d e f g h:=H
theorem C8.drewN {w:World} {n:Nat} {a b c d e f g h:Int} (H:C8 w n a b c d e f g h) (k:Nat):C8 (w.drewN k) n a b c d e f g h:=H
theorem C8.alloc {w:World} {n:Nat} {a b c d e f g h:Int} (H:C8 w n a b c d e f g h) (hn:n<w.heap.size) (o:Obj):C8 (w.alloc o) n a b c d e f g h:=
 H.below (m:=w.heap.size) ((Below.refl _ _).alloc (Nat.le_refl _) o) hn
theorem C8.new (w:World) (a b c d e f g h:Int) (t:TypeId):C8 (w.alloc (.cells #[.int .u64 a,.int .u64 b,.int .u64 c,.int .u64 d,.int .u64 e,.int .u64 f,.int .u64 g,.int .u64 h] t)) w.heap.size a b c d e f g h:=by
 refine⟨?_,fun o _=>?_⟩<;>simp[go_sem]
theorem C8.other {w:World} {n:Nat} {a b c d e f g h:Int} (H:C8 w n a b c d e f g h) (x:Addr) (hx:n≠x.block) (v:Value):C8 (w.setCell x v) n a b c d e f g h:=by
 have hb:(w.setCell x v).heap[n]?=w.heap[n]?:=Below.heap_setCell w x v n hx
 have k: ∀o,(w.setCell x v).cell? ⟨n,o,none⟩=w.cell? ⟨n,o,none⟩:=fun o=>World.cell?_of_block (w:=w) hb
 have l: ∀o,(w.setCell x v).frozen? ⟨n,o,none⟩=w.frozen? ⟨n,o,none⟩:=fun o=>World.frozen?_of_block (w:=w) hb
 obtain⟨⟨h0,h1,h2,h3,h4,h5,h6,h7⟩,hf⟩:=H
 exact⟨⟨(k _).trans h0,(k _).trans h1,(k _).trans h2,(k _).trans h3,(k _).trans h4,(k _).trans h5,(k _).trans h6,(k _).trans h7⟩,fun o ho=>(l o).trans (hf o ho)⟩
theorem C8.set0 {w:World} {n:Nat} {a b c d e f g h:Int} (H:C8 w n a b c d e f g h) (v:Int):C8 (w.setCell ⟨n,0,none⟩ (.int .u64 v)) n v b c d e f g h:=by
 obtain⟨⟨h0,h1,h2,h3,h4,h5,h6,h7⟩,hf⟩:=H
 refine⟨?_,fun o ho=>?_⟩
 ·simp[go_sem, *]
 ·rw[World.frozen?_setCell];exact hf o ho
theorem C8.set1 {w:World} {n:Nat} {a b c d e f g h:Int} (H:C8 w n a b c d e f g h) (v:Int):C8 (w.setCell ⟨n,1,none⟩ (.int .u64 v)) n a v c d e f g h:=by
 obtain⟨⟨h0,h1,h2,h3,h4,h5,h6,h7⟩,hf⟩:=H
 refine⟨?_,fun o ho=>?_⟩
 ·simp[go_sem, *]
 ·rw[World.frozen?_setCell];exact hf o ho
theorem C8.set2 {w:World} {n:Nat} {a b c d e f g h:Int} (H:C8 w n a b c d e f g h) (v:Int):C8 (w.setCell ⟨n,2,none⟩ (.int .u64 v)) n a b v d e f g h:=by
 obtain⟨⟨h0,h1,h2,h3,h4,h5,h6,h7⟩,hf⟩:=H
 refine⟨?_,fun o ho=>?_⟩
 ·simp[go_sem, *]
 ·rw[World.frozen?_setCell];exact hf o ho
theorem C8.set3 {w:World} {n:Nat} {a b c d e f g h:Int} (H:C8 w n a b c d e f g h) (v:Int):C8 (w.setCell ⟨n,3,none⟩ (.int .u64 v)) n a b c v e f g h:=by
 obtain⟨⟨h0,h1,h2,h3,h4,h5,h6,h7⟩,hf⟩:=H
 refine⟨?_,fun o ho=>?_⟩
 ·simp[go_sem, *]
 ·rw[World.frozen?_setCell];exact hf o ho
theorem C8.set4 {w:World} {n:Nat} {a b c d e f g h:Int} (H:C8 w n a b c d e f g h) (v:Int):C8 (w.setCell ⟨n,4,none⟩ (.int .u64 v)) n a b c d v f g h:=by
 obtain⟨⟨h0,h1,h2,h3,h4,h5,h6,h7⟩,hf⟩:=H
 refine⟨?_,fun o ho=>?_⟩
 ·simp[go_sem, *]
 ·rw[World.frozen?_setCell];exact hf o ho
theorem C8.set5 {w:World} {n:Nat} {a b c d e f g h:Int} (H:C8 w n a b c d e f g h) (v:Int):C8 (w.setCell ⟨n,5,none⟩ (.int .u64 v)) n a b c d e v g h:=by
 obtain⟨⟨h0,h1,h2,h3,h4,h5,h6,h7⟩,hf⟩:=H
 refine⟨?_,fun o ho=>?_⟩
 ·simp[go_sem, *]
 ·rw[World.frozen?_setCell];exact hf o ho
theorem C8.set6 {w:World} {n:Nat} {a b c d e f g h:Int} (H:C8 w n a b c d e f g h) (v:Int):C8 (w.setCell ⟨n,6,none⟩ (.int .u64 v)) n a b c d e f v h:=by
 obtain⟨⟨h0,h1,h2,h3,h4,h5,h6,h7⟩,hf⟩:=H
 refine⟨?_,fun o ho=>?_⟩
 ·simp[go_sem, *]
 ·rw[World.frozen?_setCell];exact hf o ho
theorem C8.set7 {w:World} {n:Nat} {a b c d e f g h:Int} (H:C8 w n a b c d e f g h) (v:Int):C8 (w.setCell ⟨n,7,none⟩ (.int .u64 v)) n a b c d e f g v:=by
 obtain⟨⟨h0,h1,h2,h3,h4,h5,h6,h7⟩,hf⟩:=H
 refine⟨?_,fun o ho=>?_⟩
 ·simp[go_sem, *]
 ·rw[World.frozen?_setCell];exact hf o ho
abbrev WV (n:Int):Value:=A8 (D0 n) (D1 n) (D2 n) (D3 n) (D0 (D4 n)) (D1 (D4 n)) (D2 (D4 n)) (D3 (D4 n))
theorem mul_spec (a b c d x y z t:Int):V a b c d*V x y z t=V (V a b c d*x) (V a b c d*y) (V a b c d*z) (V a b c d*t):=by
 generalize V a b c d=A
 unfold V
 rw[Int.mul_add,Int.mul_add,Int.mul_add,Int.mul_assoc,Int.mul_assoc,Int.mul_assoc]
theorem prod_bd (A x:Int) (hA:0<=A/\A<0x10000000000000000000000000000000000000000000000000000000000000000) (hx:W64 x):0<=A*x/\A*x<=0xfffffffffffffffeffffffffffffffffffffffffffffffffffffffffffffffff0000000000000001:=by
 obtain⟨x1,x2⟩:=hx
 refine⟨Int.mul_nonneg hA.1 x1,?_⟩
 have h1:A*x<=0xffffffffffffffffffffffffffffffffffffffffffffffffffffffffffffffff*18446744073709551615:=Int.mul_le_mul (by omega) (by omega) x1 (by omega)
 omega
theorem row_spec (q u v m h:Int) (hq:0<=q/\q<=0xfffffffffffffffeffffffffffffffffffffffffffffffffffffffffffffffff0000000000000001) (hu:0<=u/\u<0x10000000000000000000000000000000000000000000000000000000000000000) (hs:v=V (D0 q) (D1 q) (D2 q) (D3 q)) (hm:m=D4 (u+v)) (hh:h=D4 q):
 D0 (u+v)=D0 (u+q)/\D1 (u+v)=D1 (u+q)/\D2 (u+v)=D2 (u+q)/\D3 (u+v)=D3 (u+q)/\h+m=D4 (u+q)/\0<=h/\0<=m/\h+m<18446744073709551616/\u+q=D0 (u+q)+V (D1 (u+q)) (D2 (u+q)) (D3 (u+q)) (D4 (u+q))*18446744073709551616:=by
 rw[V_D] at hs
 subst hs hm hh
 unfold D0 D1 D2 D3 D4 V
 refine⟨?_,?_,?_,?_,?_,?_,?_,?_,?_⟩<;>omega
end Go.Proofs.YtbbohmgjphpfeaaGreatDoor
