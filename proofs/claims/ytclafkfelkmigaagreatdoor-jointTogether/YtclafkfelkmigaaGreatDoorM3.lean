import Derived.Test.YtclafkfelkmigaaGreatDoorBB
import Derived.Test.YtclafkfelkmigaaGreatDoorW3
namespace Go.Proofs.YtclafkfelkmigaaGreatDoor
set_option linter.unusedVariables false
set_option linter.unusedSimpArgs false
set_option maxRecDepth 100000
set_option maxHeartbeats 4000000
open Go.RowKit
def C8(w:World)(n:Nat)(a b c d e f g h:Int):Prop:=
 (w.cell? ⟨n,0,none⟩=some (iU a)/\w.cell? ⟨n,1,none⟩=some (iU b)/\w.cell? ⟨n,2,none⟩=some (iU c)/\w.cell? ⟨n,3,none⟩=some (iU d)/\
  w.cell? ⟨n,4,none⟩=some (iU e)/\w.cell? ⟨n,5,none⟩=some (iU f)/\w.cell? ⟨n,6,none⟩=some (iU g)/\w.cell? ⟨n,7,none⟩=some (iU h))/\
 ∀o,o<8->w.frozen? ⟨n,o,none⟩=false
theorem C8.below{w w':World}{m n:Nat}{a b c d e f g h:Int}(H:C8 w n a b c d e f g h)(hb:Below m w w')(hn:n<m):C8 w' n a b c d e f g h:=by
 obtain⟨⟨h0,h1,h2,h3,h4,h5,h6,h7⟩,hf⟩:=H
 have k: ∀o,w'.cell? ⟨n,o,none⟩=w.cell? ⟨n,o,none⟩:=fun o=>hb.cell (p:=⟨n,o,none⟩) hn
 have l: ∀o,w'.frozen? ⟨n,o,none⟩=w.frozen? ⟨n,o,none⟩:=fun o=>hb.frozen (p:=⟨n,o,none⟩) hn
 exact⟨⟨(k _).trans h0,(k _).trans h1,(k _).trans h2,(k _).trans h3,(k _).trans h4,(k _).trans h5,(k _).trans h6,(k _).trans h7⟩,fun o ho=>(l o).trans (hf o ho)⟩
theorem C8.drew{w:World}{n:Nat}{a b c d e f g h:Int}(H:C8 w n a b c d e f g h):C8 w.drew n a b c d e f g h:=H
theorem C8.drewN{w:World}{n:Nat}{a b c d e f g h:Int}(H:C8 w n a b c d e f g h)(k:Nat):C8 (w.drewN k) n a b c d e f g h:=H
theorem C8.alloc{w:World}{n:Nat}{a b c d e f g h:Int}(H:C8 w n a b c d e f g h)(hn:n<w.heap.size)(o:Obj):C8 (w.alloc o) n a b c d e f g h:=
 H.below (m:=w.heap.size) ((Below.refl _ _).alloc (Nat.le_refl _) o) hn
theorem C8.new(w:World)(a b c d e f g h:Int)(t:TypeId):C8 (w.alloc (.cells #[iU a,iU b,iU c,iU d,iU e,iU f,iU g,iU h] t)) w.heap.size a b c d e f g h:=by
 refine⟨?_,fun o _=>?_⟩<;>simp[go_sem]
theorem C8.other{w:World}{n:Nat}{a b c d e f g h:Int}(H:C8 w n a b c d e f g h)(x:Addr)(hx:n≠x.block)(v:Value):C8 (w.setCell x v) n a b c d e f g h:=by
 have hb:(w.setCell x v).heap[n]?=w.heap[n]?:=Below.heap_setCell w x v n hx
 have k: ∀o,(w.setCell x v).cell? ⟨n,o,none⟩=w.cell? ⟨n,o,none⟩:=fun o=>World.cell?_of_block (w:=w) hb
 have l: ∀o,(w.setCell x v).frozen? ⟨n,o,none⟩=w.frozen? ⟨n,o,none⟩:=fun o=>World.frozen?_of_block (w:=w) hb
 obtain⟨⟨h0,h1,h2,h3,h4,h5,h6,h7⟩,hf⟩:=H
 exact⟨⟨(k _).trans h0,(k _).trans h1,(k _).trans h2,(k _).trans h3,(k _).trans h4,(k _).trans h5,(k _).trans h6,(k _).trans h7⟩,fun o ho=>(l o).trans (hf o ho)⟩
theorem C8.set0{w:World}{n:Nat}{a b c d e f g h:Int}(H:C8 w n a b c d e f g h)(v:Int):C8 (w.setCell ⟨n,0,none⟩ (iU v)) n v b c d e f g h:=by
 obtain⟨⟨h0,h1,h2,h3,h4,h5,h6,h7⟩,hf⟩:=H
 refine⟨?_,fun o ho=>?_⟩
 ·simp[go_sem, *]
 ·rw[World.frozen?_setCell];exact hf o ho
theorem C8.set1{w:World}{n:Nat}{a b c d e f g h:Int}(H:C8 w n a b c d e f g h)(v:Int):C8 (w.setCell ⟨n,1,none⟩ (iU v)) n a v c d e f g h:=by
 obtain⟨⟨h0,h1,h2,h3,h4,h5,h6,h7⟩,hf⟩:=H
 refine⟨?_,fun o ho=>?_⟩
 ·simp[go_sem, *]
 ·rw[World.frozen?_setCell];exact hf o ho
theorem C8.set2{w:World}{n:Nat}{a b c d e f g h:Int}(H:C8 w n a b c d e f g h)(v:Int):C8 (w.setCell ⟨n,2,none⟩ (iU v)) n a b v d e f g h:=by
 obtain⟨⟨h0,h1,h2,h3,h4,h5,h6,h7⟩,hf⟩:=H
 refine⟨?_,fun o ho=>?_⟩
 ·simp[go_sem, *]
 ·rw[World.frozen?_setCell];exact hf o ho
theorem C8.set3{w:World}{n:Nat}{a b c d e f g h:Int}(H:C8 w n a b c d e f g h)(v:Int):C8 (w.setCell ⟨n,3,none⟩ (iU v)) n a b c v e f g h:=by
 obtain⟨⟨h0,h1,h2,h3,h4,h5,h6,h7⟩,hf⟩:=H
 refine⟨?_,fun o ho=>?_⟩
 ·simp[go_sem, *]
 ·rw[World.frozen?_setCell];exact hf o ho
abbrev WV(n:Int):Value:=A8 (D0 n) (D1 n) (D2 n) (D3 n) (D0 (D4 n)) (D1 (D4 n)) (D2 (D4 n)) (D3 (D4 n))
end Go.Proofs.YtclafkfelkmigaaGreatDoor
