import Derived.Test.YtgieoghechekpaaGreatDoorRS
namespace Go.Proofs.YtgieoghechekpaaGreatDoor
set_option linter.unusedVariables false
set_option linter.unusedSimpArgs false
set_option maxRecDepth 100000
set_option maxHeartbeats 4000000
open Go.RowKit
def HB:List Int->Int
 | []=>0
 | x::r=>x+4294967296*HB r
def RL(u:World)(b:Nat)(l:List Int):Prop:= ∀j x,l[j]?=some x->u.cell? ⟨b,j,none⟩=some (.int .u64 x)
theorem RL.below{w w':World}{m n:Nat}{l:List Int}(h:RL w n l)(hb:Below m w w')(hn:n<m):RL w' n l:=fun j x hj=>by
 rw[hb.cell (p:=⟨n,j,none⟩) hn];exact h j x hj
theorem RL.other{w:World}{n:Nat}{l:List Int}(h:RL w n l)(a:Addr)(ha:n≠a.block)(v:Value):RL (w.setCell a v) n l:=fun j x hj=>by
 have hb:(w.setCell a v).heap[n]?=w.heap[n]?:=Below.heap_setCell w a v n ha
 have c:(w.setCell a v).cell? ⟨n,j,none⟩=w.cell? ⟨n,j,none⟩:=World.cell?_of_block (w:=w) hb
 rw[c];exact h j x hj
structure MW(w wr:World)(no bx by' N2:Nat)(xd yd ol:List Int)(i:Nat):Prop where
 bel:Bw w wr
 sz:no<wr.heap.size
 rx:RL wr bx xd
 ry:RL wr by' yd
 ko:CL wr no ol
 kz:CL wr N2 [0,0,0,0,0,0,0,0]
 ll:ol.length=17
 lw: ∀x∈ol,H32 x
 hz: ∀j,i+8<=j->j<17->ol[j]?=some 0
theorem MW.set{w wr:World}{no bx by' N2:Nat}{xd yd ol:List Int}{i:Nat}(h:MW w wr no bx by' N2 xd yd ol i)(i' j:Nat)(v:Int)(hv:H32 v)(hj:j<i'+8)(hj17:j<17)(hi:i<=i')(hw:w.heap.size<=no)(n1:bx≠no)(n2:by'≠no)(n3:N2≠no):
 MW w (wr.setCell ⟨no,j,none⟩ (.int .u64 v)) no bx by' N2 xd yd (ol.set j v) i':=
 {bel:=h.bel.setCell (by exact hw) _,sz:=by simpa using h.sz,rx:=h.rx.other _ n1 _,ry:=h.ry.other _ n2 _,ko:=h.ko.set j (by rw[h.ll];exact hj17) v,kz:=h.kz.other _ n3 _,
  ll:=by rw[List.length_set];exact h.ll,lw:=fun x hx=>(List.mem_or_eq_of_mem_set hx).elim (h.lw x) (fun e=>by rw[e];exact hv),
  hz:=fun j' h1 h2=>by rw[List.getElem?_set_ne (by omega)];exact h.hz j' (by omega) h2}
theorem MW.drew{w wr:World}{no bx by' N2:Nat}{xd yd ol:List Int}{i:Nat}(h:MW w wr no bx by' N2 xd yd ol i):MW w wr.drew no bx by' N2 xd yd ol i:=
 {h with bel:=h.bel.drew,sz:=h.sz,rx:=h.rx,ry:=h.ry,ko:=h.ko,kz:=h.kz}
theorem MW.at{w wr:World}{no bx by' N2:Nat}{xd yd ol:List Int}{i:Nat}(h:MW w wr no bx by' N2 xd yd ol i)(j:Nat)(hj:j<17): ∃o,ol[j]?=some o/\H32 o/\wr.cell? ⟨no,j,none⟩=some (.int .u64 o)/\wr.frozen? ⟨no,j,none⟩=false:=by
 have hl:j<ol.length:=by rw[h.ll];exact hj
 have e:=List.getElem?_eq_getElem hl
 exact⟨_,e,h.lw _ (List.getElem_mem hl),(h.ko j _ e).1,(h.ko j _ e).2⟩
end Go.Proofs.YtgieoghechekpaaGreatDoor
