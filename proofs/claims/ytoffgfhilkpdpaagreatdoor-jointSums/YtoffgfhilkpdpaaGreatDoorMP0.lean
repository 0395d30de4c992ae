import Derived.Test.YtoffgfhilkpdpaaGreatDoorSH1
import Derived.Lib.AppendZerosOnto
namespace Go.Proofs.YtoffgfhilkpdpaaGreatDoor
set_option linter.unusedVariables false
set_option linter.unusedSimpArgs false
set_option maxRecDepth 100000
set_option maxHeartbeats 4000000
open Go.RowKit
def INb(u:World)(b:Nat)(v:Value)(p:List Nat):Prop:= ∃(sl:Option Addr) (cap gb go:Nat),v= .slice sl p.length cap/\p.length<=cap/\(p.length=0\/sl=some ⟨gb,go,none⟩)/\gb<u.heap.size/\gb≠b/\SB u gb go p
theorem INb.inn{u:World}{b:Nat}{v:Value}{p:List Nat}(h:INb u b v p):IN u u.heap.size v p:=by
 obtain⟨sl,cap,gb,go,e,h1,h2,h3,_,h5⟩:=h
 exact⟨sl,cap,gb,go,e,h1,h2,h3,h5⟩
theorem INb.below{u u':World}{b:Nat}{v:Value}{p:List Nat}(h:INb u b v p)(hB:Bw u u'):INb u' b v p:=by
 obtain⟨sl,cap,gb,go,e,h1,h2,h3,h4,h5⟩:=h
 exact⟨sl,cap,gb,go,e,h1,h2,Nat.lt_of_lt_of_le h3 hB.size,h4,h5.below hB h3⟩
theorem IN.nb{u:World}{m b:Nat}{v:Value}{p:List Nat}(h:IN u m v p)(hm:m<=b)(hs:m<=u.heap.size):INb u b v p:=by
 obtain⟨sl,cap,gb,go,e,h1,h2,h3,h5⟩:=h
 exact⟨sl,cap,gb,go,e,h1,h2,Z1,Z1,h5⟩
theorem INb.put{u:World}{b:Nat}{v:Value}{p:List Nat}(h:INb u b v p)(o:Nat)(ws:List Value):INb (u.setCells b o ws) b v p:=by
 obtain⟨sl,cap,gb,go,e,h1,h2,h3,h4,h5⟩:=h
 refine⟨sl,cap,gb,go,e,h1,h2,by rw[Zq];exact h3,h4,fun j hj=>?_⟩
 have hk:=World.heap_setCells_other u b o ws h3 h4
 rw[World.cell?_of_block (a:=⟨gb,go+j,none⟩) hk];exact h5 j hj
theorem CV.oth{u:World}{b b' o:Nat}{l ws:List Value}(h:CV u b l)(hne:b≠b')(hb:b<u.heap.size):CV (u.setCells b' o ws) b l:=fun j v hj=>by
 have hk:=World.heap_setCells_other u b' o ws hb hne
 rw[World.cell?_of_block (a:=⟨b,j,none⟩) hk,World.frozen?_of_block (a:=⟨b,j,none⟩) hk]
 exact h j v hj
theorem CV.all{u:World}{b:Nat}{ys ds:List Value}(h:CV u b ys)(hl:ys.length=ds.length):CV (u.setCells b 0 ds) b ds:=by
 have h2:CV u b ([]++ys++[]):=by simpa using h
 have:=h2.mid (o:=0) (news:=ds) rfl hl
 simpa using this
theorem c8:Tryz.prog.cellsOf 5=1:=by kernel_rfl
section
section
variable {R:Rg} {P:Program} {ops:Array Oper} {Q:Exit->Act->World->Prop} {f:Nat->Bool} {t:Nat->Value} {u:World} {a:Act} {i:Nat} {o:Oper}
end
theorem whl_zeros(ks:List Nat)(z:Nat)(h:ks.length+z<=64):whl (ks++List.replicate z 0)=whl ks:=by
 have e1:whk (ks++List.replicate z 0)=ks++List.replicate z 0:=by unfold whk;rw[if_neg (by rw[List.length_append,List.length_replicate];omega)]
 have e2:whk ks=ks:=by unfold whk;rw[if_neg Z1]
 unfold whl
 rw[e1,e2,List.length_append,List.length_replicate,List.append_assoc,List.replicate_append_replicate]
 congr 2
 omega
end
end Go.Proofs.YtoffgfhilkpdpaaGreatDoor
