import Derived.Test.YtclafkfelkmigaaGreatDoorAKQ
import Derived.Test.YtclafkfelkmigaaGreatDoorAPU
namespace Go.Proofs.YtclafkfelkmigaaGreatDoor
set_option linter.unusedVariables false
set_option linter.unusedSimpArgs false
set_option maxRecDepth 100000
set_option maxHeartbeats 4000000
open Go.RowKit
theorem flt_sn: ∀(ps:List (Int×Int)) (x y:Int),flN (flt (ps++[(x,y)]))=flN (flt ps)++(LN x++LN y)
 | [],x,y=>by simp[flt,flN]
 | p::l,x,y=>by simp[flt,flN,flt_sn l x y]
theorem pl_rw{u:World}{b m c:Nat}{ps:List (Int×Int)}{zs:List Value}(hb:b<u.heap.size)(h:CV u b (flN (flt ps)++zs))(hm:ps.length=m)(hc:m<=c):PtL u (.slice (some ⟨b,0,none⟩) m c) ps:=by
 subst hm
 refine⟨_,b,0,c,rfl,hc,(by simp),.inr rfl,.inr hb,fun j v hj=>?_⟩
 rw[Nat.zero_add]
 exact(h j v (by rw[List.getElem?_append_left (List.getElem?_eq_some_iff.1 hj).1];exact hj)).1
theorem ixSh(g o n cap j:Nat)(h:j<n)(w:World):(Instr.indexAt 26 (.slice (some ⟨g,o,none⟩) n cap) (iI j)).run Tryz.prog w= .ok (.pointer (some ⟨g,o+9*j,none⟩)) w:=by
 have hj:(j:Int)<n:=by omega
 go_simp
 all_goals first | omega | (simp[Addr.add];omega) | simp[Addr.add,Nat.mul_comm]
theorem flS_at: ∀(l:List (Int×Int×Int)) (j:Nat),j<l.length->flS l=flS (l.take j)++SE (l.getD j (0,0,0)).1 (l.getD j (0,0,0)).2.1 (l.getD j (0,0,0)).2.2++flS (l.drop (j+1))
 | [],j,h=>by simp at h
 | x::l,0,h=>by simp[flS]
 | x::l,j+1,h=>by
  have:=flS_at l j (by simpa using h)
  simp only[List.take_succ_cons,List.drop_succ_cons,List.getD_cons_succ,flS,List.append_assoc] at this⊢
  rw[this]
theorem sh_pt{w:World}{g o:Nat}{l:List (Int×Int×Int)}(h: ∀j v,(flS l)[j]?=some v->w.cell? ⟨g,o+j,none⟩=some v)(j:Nat)(hj:j<l.length):w.rangeAt g (o+9*j) (SE (l.getD j (0,0,0)).1 (l.getD j (0,0,0)).2.1 (l.getD j (0,0,0)).2.2):=fun c v hc=>by
 have:=h (9*j+c) v (by rw[flS_at l j hj];exact mid_at (by rw[flS_len,List.length_take];omega) c v hc)
 rwa [<-Nat.add_assoc] at this
def ndsB(l:List (Int×Int×Int)):Bool:=l.all fun x=>ndB x.1
theorem nds_get{l:List (Int×Int×Int)}:ndsB l=true↔ ∀k,k<l.length->ndB (l.getD k (0,0,0)).1=true:=by
 unfold ndsB
 rw[List.all_eq_true]
 constructor
 ·exact fun h k hk=>h _ (by simp[List.getElem?_eq_getElem hk])
 ·intro h x hx
  obtain⟨k,hk,rfl⟩:=List.mem_iff_getElem.1 hx
  have:=h k hk
  simpa [List.getElem?_eq_getElem hk] using this
theorem sh_ix{l:List (Int×Int×Int)}{sl:Option Addr}{gb go cap:Nat}(h:l=[]\/sl=some ⟨gb,go,none⟩): ∀j,j<l.length-> ∀W,(Instr.indexAt 26 (.slice sl l.length cap) (iI j)).run Tryz.prog W= .ok (.pointer (some ⟨gb,go+9*j,none⟩)) W:=fun j hj W=>by
 have e:=h.resolve_left (fun e=>by subst e;simp at hj)
 subst e
 exact ixSh gb go l.length cap j hj W
def QP(lo m:Nat)(ps:List (Int×Int))(b:Nat)(u:World)(v:Value):Prop:=ps.length=m/\((m=0/\v= .slice none 0 0)\/(0<m/\lo<=b/\ ∃co zs,v= .slice (some ⟨b,0,none⟩) m co/\b<u.heap.size/\m<=co/\zs.length=8*(co -m)/\CV u b (flN (flt ps)++zs)))
theorem QP.stab{lo m b:Nat}{ps:List (Int×Int)}{u u2:World}{v:Value}(h:QP lo m ps b u v)(hB:Bw u u2):QP lo m ps b u2 v:=by
 obtain⟨h1,h3⟩:=h
 refine⟨h1,h3.imp id ?_⟩
 rintro⟨h0,h2,co,zs,e,g1,g2,g3,g4⟩
 exact⟨h0,h2,co,zs,e,Nat.lt_of_lt_of_le g1 hB.size,g2,g3,g4.below hB g1⟩
theorem QP.grow{lo m c:Nat}{r:Option Nat}{ps:List (Int×Int)}{u u2:World}{v:Value}(h:QP lo m ps c u v)(hg:u.grownBy u2 r)(hne:0<m->some c≠r):QP lo m ps c u2 v:=by
 obtain⟨h1,h3⟩:=h
 refine⟨h1,h3.imp id ?_⟩
 rintro⟨h0,h2,co,zs,e,g1,g2,g3,g4⟩
 exact⟨h0,h2,co,zs,e,Nat.lt_of_lt_of_le g1 hg.size,g2,g3,g4.grow hg g1 (hne h0)⟩
theorem QP.lt{lo m c:Nat}{ps:List (Int×Int)}{u:World}{v:Value}(h:QP lo m ps c u v)(h0:0<m):lo<=c/\c<u.heap.size:=by
 rcases h.2 with⟨h1,_⟩ | ⟨_,h2,_,_,_,h3,_⟩
 ·omega
 ·exact⟨h2,h3⟩
theorem QP.pl{lo m c:Nat}{ps:List (Int×Int)}{u:World}{v:Value}(h:QP lo m ps c u v):PtL u v ps:=by
 obtain⟨h1,h3⟩:=h
 rcases h3 with⟨h0,rfl⟩ | ⟨h0,h2,co,zs,rfl,g1,g2,g3,g4⟩
 ·obtain rfl:ps=[]:=List.eq_nil_of_length_eq_zero (by omega)
  exact⟨none,0,0,0,rfl,Nat.le_refl _,fun _=>rfl,.inl rfl,.inl rfl,SN.empty rfl⟩
 ·subst h1
  exact⟨_,c,0,co,rfl,g2,(by simp),.inr rfl,.inr g1,fun j v hj=>by
   rw[Nat.zero_add]
   exact(g4 j v (by rw[List.getElem?_append_left (List.getElem?_eq_some_iff.1 hj).1];exact hj)).1⟩
end Go.Proofs.YtclafkfelkmigaaGreatDoor
