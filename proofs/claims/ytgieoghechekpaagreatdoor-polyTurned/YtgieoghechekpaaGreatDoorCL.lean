import Derived.Test.YtgieoghechekpaaGreatDoorGR
namespace Go.Proofs.YtgieoghechekpaaGreatDoor
set_option linter.unusedVariables false
set_option linter.unusedSimpArgs false
set_option maxRecDepth 100000
set_option maxHeartbeats 4000000
open Go.RowKit
def CL(w:World)(n:Nat)(l:List Int):Prop:= ∀j x,l[j]?=some x->w.cell? ⟨n,j,none⟩=some (.int .u64 x)/\w.frozen? ⟨n,j,none⟩=false
theorem CL.below{w w':World}{m n:Nat}{l:List Int}(h:CL w n l)(hb:Below m w w')(hn:n<m):CL w' n l:=fun j x hj=>by
 rw[hb.cell (p:=⟨n,j,none⟩) hn,hb.frozen (p:=⟨n,j,none⟩) hn];exact h j x hj
theorem CL.drew{w:World}{n:Nat}{l:List Int}(h:CL w n l):CL w.drew n l:=h
theorem CL.alloc{w:World}{n:Nat}{l:List Int}(h:CL w n l)(hn:n<w.heap.size)(o:Obj):CL (w.alloc o) n l:=
 h.below (m:=w.heap.size) ((Below.refl _ _).alloc (Nat.le_refl _) o) hn
theorem CL.other{w:World}{n:Nat}{l:List Int}(h:CL w n l)(a:Addr)(ha:n≠a.block)(v:Value):CL (w.setCell a v) n l:=fun j x hj=>by
 have hb:(w.setCell a v).heap[n]?=w.heap[n]?:=Below.heap_setCell w a v n ha
 have c:(w.setCell a v).cell? ⟨n,j,none⟩=w.cell? ⟨n,j,none⟩:=World.cell?_of_block (w:=w) hb
 have f:(w.setCell a v).frozen? ⟨n,j,none⟩=w.frozen? ⟨n,j,none⟩:=World.frozen?_of_block (w:=w) hb
 rw[c,f];exact h j x hj
theorem CL.set{w:World}{n:Nat}{l:List Int}(h:CL w n l)(k:Nat)(hk:k<l.length)(v:Int):CL (w.setCell ⟨n,k,none⟩ (.int .u64 v)) n (l.set k v):=fun j x hj=>by
 rw[World.frozen?_setCell]
 obtain⟨hc,hf⟩:=h k l[k] (List.getElem?_eq_getElem hk)
 by_cases e:j=k
 ·subst e
  rw[List.getElem?_set_self (by omega)] at hj
  cases hj
  refine⟨?_,hf⟩
  simp[go_sem,hc]
 ·rw[List.getElem?_set_ne (by omega)] at hj
  obtain⟨hc',hf'⟩:=h j x hj
  refine⟨?_,hf'⟩
  rw[World.cell?_setCell_other _ _ _ _ (by simp<;>omega)]
  exact hc'
theorem CL.new(w:World)(l:List Int)(t:TypeId):CL (w.alloc (.cells (l.map (Value.int .u64)).toArray t)) w.heap.size l:=fun j x hj=>by
 have hf:(w.alloc (.cells (l.map (Value.int .u64)).toArray t)).frozen? ⟨w.heap.size,j,none⟩=false:=by simp[go_sem]
 refine⟨?_,hf⟩
 rw[cell_of_row _ w.heap.size j _ t (0,0) (heap_alloc_new _ _)]
 simp[hj]
theorem CL.newAt(w:World)(l:List Int)(t:TypeId)(n:Nat)(hn:n=w.heap.size):CL (w.alloc (.cells (l.map (Value.int .u64)).toArray t)) n l:=by
 subst hn;exact CL.new w l t
end Go.Proofs.YtgieoghechekpaaGreatDoor
