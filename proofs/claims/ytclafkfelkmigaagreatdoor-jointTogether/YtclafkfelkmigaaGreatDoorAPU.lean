import Derived.Test.YtclafkfelkmigaaGreatDoorLC5
namespace Go.Proofs.YtclafkfelkmigaaGreatDoor
set_option linter.unusedVariables false
set_option linter.unusedSimpArgs false
set_option maxRecDepth 100000
set_option maxHeartbeats 4000000
section
def UN(q a:Int):Prop:= ∃b,q∣b*a -1
theorem UN.one(q:Int):UN q 1:=⟨1,⟨0,by simp⟩⟩
theorem UN.mul{q a b:Int}(ha:UN q a)(hb:UN q b):UN q (a*b):=by
 obtain⟨x,k,hx⟩:=ha
 obtain⟨y,m,hy⟩:=hb
 exact⟨x*y,k*(y*b)+m,by grind⟩
theorem UN.neg{q a:Int}(h:UN q a):UN q (-a):=by
 obtain⟨x,k,hx⟩:=h
 exact⟨-x,k,by grind⟩
end
section
open Go.RowKit
def flS:List (Int×Int×Int)->List Value
 | []=>[]
 | x::l=>SE x.1 x.2.1 x.2.2++flS l
theorem flS_len: ∀l,(flS l).length=9*l.length
 | []=>rfl
 | x::l=>by rw[flS,List.length_append,flS_len l,List.length_cons];show 9+9*l.length=9*(l.length+1);omega
theorem flS_snoc: ∀(l:List (Int×Int×Int)) (n s t:Int),flS (l++[(n,s,t)])=flS l++SE n s t
 | [],n,s,t=>by simp[flS]
 | x::l,n,s,t=>by rw[List.cons_append,flS,flS_snoc l,flS,List.append_assoc]
def ShL(u:World)(v:Value)(l:List (Int×Int×Int)):Prop:= ∃sl gb go cap,v= .slice sl l.length cap/\l.length<=cap/\(sl=none->cap=0)/\(l=[]\/sl=some ⟨gb,go,none⟩)/\(l.length=0\/gb<u.heap.size)/\ ∀j v,(flS l)[j]?=some v->u.cell? ⟨gb,go+j,none⟩=some v
theorem ShL.up{w u:World}{v:Value}{l:List (Int×Int×Int)}(h:ShL w v l)(hB:Bw w u):ShL u v l:=by
 obtain⟨sl,gb,go,cap,h1,h2,h3,h4,h5,h6⟩:=h
 refine⟨sl,gb,go,cap,h1,h2,h3,h4,h5.imp id fun e=>Nat.lt_of_lt_of_le e hB.size,fun j v hj=>?_⟩
 rcases h5 with h5 | h5
 ·rw[List.eq_nil_of_length_eq_zero h5] at hj;simp[flS] at hj
 ·exact(hB.cell (p:=⟨gb,go+j,none⟩) h5).trans (h6 j v hj)
theorem sh_row{u:World}{b m c:Nat}{l:List (Int×Int×Int)}{zs:List Value}(hb:b<u.heap.size)(h:CV u b (flS l++zs))(hm:l.length=m)(hc:m<=c):ShL u (.slice (some ⟨b,0,none⟩) m c) l:=by
 subst hm
 refine⟨_,b,0,c,rfl,hc,(by simp),.inr rfl,.inr hb,fun j v hj=>?_⟩
 rw[Nat.zero_add]
 exact(h j v (by rw[List.getElem?_append_left (List.getElem?_eq_some_iff.1 hj).1];exact hj)).1
theorem infoSh:(Tryz.prog.info? 38).map (fun i=>(i.zero,i.size,i.bytes))=some (some SZ,9,72):=by kernel_rfl
def opS(l:List (Int×Int×Int)):List (Int×Int):=l.map fun x=>(x.1,x.2.1)
def opT(l:List (Int×Int×Int)):List (Int×Int):=l.map fun x=>(x.1,x.2.2)
theorem co_mod{p q g h s t:Int}(hq:q≠0):coX p q g h (s%q) (t%q)=coX p q g h s t:=by
 unfold coX;rw[Int.emod_emod,Int.emod_emod]
end
end Go.Proofs.YtclafkfelkmigaaGreatDoor
