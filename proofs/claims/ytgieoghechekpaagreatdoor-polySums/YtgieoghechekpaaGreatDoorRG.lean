import Derived.Test.YtgieoghechekpaaGreatDoorRS
namespace Go.Proofs.YtgieoghechekpaaGreatDoor
set_option linter.unusedVariables false
set_option linter.unusedSimpArgs false
set_option maxRecDepth 100000
set_option maxHeartbeats 4000000
open Go.RowKit
section
def flN:List Int->List Value
 | []=>[]
 | n::r=>LN n++flN r
def SN(w:World)(g o:Nat)(ns:List Int):Prop:= ∀j v,(flN ns)[j]?=some v->w.cell? ⟨g,o+j,none⟩=some v
theorem SN.below{w w':World}{m g o:Nat}{ns:List Int}(h:SN w g o ns)(hb:Below m w w')(hg:g<m):SN w' g o ns:=fun j v hj=>(hb.cell (p:=⟨g,o+j,none⟩) hg).trans (h j v hj)
theorem SN.empty{w:World}{g o:Nat}{ns:List Int}(h:ns.length=0):SN w g o ns:=fun j v hj=>by
 have e:ns=[]:=List.eq_nil_of_length_eq_zero h
 subst e;simp[flN] at hj
theorem SN.below2{w w':World}{m g o:Nat}{ns:List Int}(h:SN w g o ns)(hb:Below m w w')(hg:ns.length=0\/g<m):SN w' g o ns:=by
 rcases hg with e | hg
 ·exact SN.empty e
 ·exact h.below hb hg
theorem flN_len: ∀ns:List Int,(flN ns).length=4*ns.length
 | []=>rfl
 | n::r=>by rw[flN,List.length_append,flN_len r,List.length_cons];simp;omega
theorem flN_get: ∀(ns:List Int) (j c:Nat) (v:Value),j<ns.length->(LN (ns.getD j 0))[c]?=some v->(flN ns)[4*j+c]?=some v
 | [],j,c,v,h,_=>by simp at h
 | n::r,0,c,v,h,e=>by
  rw[flN,List.getElem?_append_left]
  ·simpa using e
  ·have:=(List.getElem?_eq_some_iff.1 e).1
   simpa using this
 | n::r,j+1,c,v,h,e=>by
  rw[flN,List.getElem?_append_right (by simp;omega)]
  have:=flN_get r j c v (by simpa using h) (by simpa using e)
  simpa [show 4*(j+1)+c -4=4*j+c by omega] using this
theorem SN.at{w:World}{g o:Nat}{ns:List Int}(h:SN w g o ns)(j:Nat)(hj:j<ns.length):w.rangeAt g (o+4*j) (LN (ns.getD j 0)):=fun c v hc=>by
 have:=h (4*j+c) v (flN_get ns j c v hj hc)
 rwa [<-Nat.add_assoc] at this
section
variable {R:Rg} {P:Program} {ops:Array Oper} {Q:Exit->Act->World->Prop} {i:Nat} {o:Oper}
end
theorem ixS(g o n cap j:Nat)(h:j<n)(w:World):(Instr.indexAt 25 (.slice (some ⟨g,o,none⟩) n cap) (.int .i64 j)).run Tryz.prog w= .ok (.pointer (some ⟨g,o+4*j,none⟩)) w:=by
 have h2:(j:Int)<n:=by omega
 go_simp
end
section
section
variable {R:Rg} {P:Program} {ops:Array Oper} {Q:Exit->Act->World->Prop} {f:Nat->Bool} {t:Nat->Value} {u:World} {a:Act} {i:Nat} {o:Oper}
end
end
section
section
variable {R:Rg} {P:Program} {ops:Array Oper} {Q:Exit->Act->World->Prop} {f:Nat->Bool} {t:Nat->Value} {u:World} {a:Act} {i:Nat} {o:Oper}
end
end
section
section
variable {R:Rg} {P:Program} {ops:Array Oper} {Q:Exit->Act->World->Prop} {f:Nat->Bool} {t:Nat->Value} {u:World} {a:Act} {i:Nat} {o:Oper}
end
end
def PE(base:Nat)(u:World)(v:Value):Prop:= ∃b,v= .slice (some ⟨b,0,none⟩) 0 0/\base<=b/\u.heap[b]?=some (.cells #[] 24 (0,0))
def PO(base:Nat)(ns:List Int)(u:World)(v:Value):Prop:=(∃b c,v= .slice (some ⟨b,0,none⟩) ns.length c)/\u.ownsRow base 24 4 v ns.length (flN ns)
theorem PE.stab{base:Nat}{u v:World}{x:Value}(hB:Bw u v)(h:PE base u x):PE base v x:=by
 obtain⟨b,e,h1,h2⟩:=h
 exact⟨b,e,h1,by rw[hB.block b (Array.getElem?_eq_some_iff.1 h2).1];exact h2⟩
theorem PO.stab{base:Nat}{ns:List Int}{u v:World}{x:Value}(hB:Bw u v)(h:PO base ns u x):PO base ns v x:=by
 obtain⟨⟨b,c,rfl⟩,h2⟩:=h
 exact⟨⟨b,c,rfl⟩,h2.kept (below_grown hB) (.inr (by simp[Value.ownBlock]))⟩
theorem PO.at{base:Nat}{ns:List Int}{u:World}{x:Value}(h:PO base ns u x): ∃b c,x= .slice (some ⟨b,0,none⟩) ns.length c/\b<u.heap.size/\SN u b 0 ns:=by
 obtain⟨⟨b,c,rfl⟩,h2⟩:=h
 have hl:=h2.lt b rfl
 refine⟨b,c,rfl,hl.2,fun j v hj=>?_⟩
 have:=h2.cells (g:=b) rfl j v hj
 have e:(⟨b,0,none⟩:Addr).add j=⟨b,j,none⟩:=by unfold Addr.add;split<;>simp_all
 rw[e] at this
 rw[Nat.zero_add];exact this
theorem SN.news{u:World}{g o:Nat}{ns:List Int}(h:SN u g o ns): ∀j v,(flN ns)[j]?=some v->u.cell? ((⟨g,o,none⟩:Addr).add j)=some v:=fun j v hj=>by
 have e:(⟨g,o,none⟩:Addr).add j=⟨g,o+j,none⟩:=by unfold Addr.add;split<;>simp_all
 rw[e];exact h j v hj
theorem Y4: ∀(a b:List Int),flN (a++b)=flN a++flN b
 | [],_=>rfl
 | n::r,b=>by rw[List.cons_append,flN,flN,Y4 r b,List.append_assoc]
theorem PE.new{base:Nat}{u:World}(h:base<=u.heap.size):PE base (u.alloc (.cells #[] 24)) (.slice (some ⟨u.heap.size,0,none⟩) 0 0):=⟨_,rfl,h,heap_alloc_new u _⟩
theorem PO.cv{base:Nat}{ns:List Int}{u:World}{x:Value}(h:PO base ns u x): ∃b c,x= .slice (some ⟨b,0,none⟩) ns.length c/\base<=b/\b<u.heap.size/\CV u b (flN ns):=by
 obtain⟨⟨b,c,rfl⟩,h2⟩:=h
 have hl:=h2.lt b rfl
 refine⟨b,c,rfl,hl.1,hl.2,fun j v hj=>⟨?_,?_⟩⟩
 ·have:=h2.cells (g:=b) rfl j v hj
  have e:(⟨b,0,none⟩:Addr).add j=⟨b,j,none⟩:=by unfold Addr.add;split<;>simp_all
  rw[e] at this;exact this
 ·rcases h2.2 with⟨e,_⟩ | ⟨g',cap',cur,e,_,hh,_⟩
  ·cases e
  ·cases e;simp[World.frozen?,hh]
theorem slH(sl:Option Addr)(n cap k:Nat)(h:k<=n)(hc:n<=cap)(hn:sl=none->cap=0)(w:World):(Instr.sliceAt 25 (.slice sl n cap) none (some (.int .i64 k)) none).run Tryz.prog w= .ok (.slice sl k cap) w:=by
 cases sl with
 | none=>
  have e0:=hn rfl
  have e1:n=0:=by omega
  have e2:k=0:=by omega
  subst e0 e1 e2
  show (Instr.sliceAt 25 (.slice none 0 0) none (some (.int .i64 0)) none).run Tryz.prog w=_
  kernel_rfl
 | some a=>
  have h3:k<=cap:=by omega
  simp[Instr.sliceAt,Instr.slice,go_sem,Tryz.underlying25,h3]
def NL(u:World)(v:Value)(ns:List Int):Prop:= ∃sl gb go cap,v= .slice sl ns.length cap/\ns.length<=cap/\(sl=none->cap=0)/\(ns=[]\/sl=some ⟨gb,go,none⟩)/\(ns.length=0\/gb<u.heap.size)/\SN u gb go ns
theorem NL.up{w u:World}{v:Value}{ns:List Int}(h:NL w v ns)(hB:Bw w u):NL u v ns:=by
 obtain⟨sl,gb,go,cap,h1,h2,h3,h4,h5,h6⟩:=h
 refine⟨sl,gb,go,cap,h1,h2,h3,h4,h5.imp id fun e=>Nat.lt_of_lt_of_le e hB.size,?_⟩
 rcases h5 with h5 | h5
 ·exact SN.empty h5
 ·exact h6.below hB h5
def N2(a b:Int)(u:World)(v:Value):Prop:=NL u v [a,b]
theorem N2.stab{a b:Int}{u u2:World}{x:Value}(hB:Bw u u2)(h:N2 a b u x):N2 a b u2 x:=NL.up h hB
theorem inN2(a b:Int)(u:World):N2 a b (u.alloc (.cells (flN [a,b]).toArray 24)) (.slice (some ⟨u.heap.size,0,none⟩) 2 2):=
 ⟨_,u.heap.size,0,2,rfl,by simp,by simp,.inr rfl,.inr (by simp),fun j v hj=>by rw[Nat.zero_add];exact(CV.new u (flN [a,b]) 24 j v hj).1⟩
def N1x(a:Int)(u:World)(v:Value):Prop:=NL u v [a]
theorem N1x.stab{a:Int}{u u2:World}{x:Value}(hB:Bw u u2)(h:N1x a u x):N1x a u2 x:=NL.up h hB
end Go.Proofs.YtgieoghechekpaaGreatDoor
