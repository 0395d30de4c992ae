import Derived.Test.YtofcppgfaelloaaGreatDoorPK
import Derived.Test.YtofcppgfaelloaaGreatDoorMQ
namespace Go.Proofs.YtofcppgfaelloaaGreatDoor
set_option linter.unusedVariables false
set_option linter.unusedSimpArgs false
set_option maxRecDepth 100000
set_option maxHeartbeats 4000000
open Go.RowKit
def StR (n f a:Int):Prop:=n%2=1/\3<=n/\2<=f/\(n -1)%f=0/\(n -1)/f<f/\a^(n -1).toNat%n=1/\gI ((a^((n -1)/f).toNat%n -1)%n) n=1
open Classical in
noncomputable def stB (n f a:Int):Bool:=decide (StR n f a)
theorem stB_iff {n f a:Int}:stB n f a=true↔StR n f a:=by simp[stB]
theorem cmp_ge (n m:Int):decide (0<=cmpI n m)=decide (m<=n):=by
 unfold cmpI;rw[Bool.eq_iff_iff];simp;split
 ·simp;omega
 ·split<;>simp<;>omega
theorem StR.pr {n f a:Int} (h:StR n f a) (ha:0<=a) (hf:Pr f.toNat):Pr n.toNat:=by
 obtain⟨h1,h2,h3,h4,h5,h6,h7⟩:=h
 obtain⟨N,rfl⟩: ∃N:Nat,n=N:=⟨n.toNat,by omega⟩
 obtain⟨F,rfl⟩: ∃F:Nat,f=F:=⟨f.toNat,by omega⟩
 obtain⟨A,rfl⟩: ∃A:Nat,a=A:=⟨a.toNat,by omega⟩
 have e1:((N:Int) -1)=((N -1:Nat):Int):=by omega
 have eq:((N:Int) -1)/F=(((N -1)/F:Nat):Int):=by rw[e1,Int.natCast_ediv]
 rw[eq] at h5 h7
 rw[e1] at h4 h6
 simp only[Int.toNat_natCast] at h6 h7 hf⊢
 have k4:(N -1)%F=0:=by
  have:(((N -1)%F:Nat):Int)=0:=by rw[Int.natCast_emod];exact h4
  omega
 have k6:A^(N -1)%N=1:=by
  have:((A^(N -1)%N:Nat):Int)=1:=by rw[Int.natCast_emod,Int.natCast_pow];exact h6
  omega
 have k5:(N -1)/F<F:=by omega
 obtain⟨x,hx⟩: ∃x:Nat,(((A:Int)^((N -1)/F)%N -1)%N)=x:=⟨_,(Int.toNat_of_nonneg (Int.emod_nonneg _ (by omega))).symm⟩
 rw[hx] at h7
 have xl:x<N:=by
  have:=Int.emod_lt_of_pos ((A:Int)^((N -1)/F)%N -1) (show (0:Int)<N by omega)
  omega
 have k7:Nat.gcd x N=1:=by
  unfold gI at h7;simp only[Int.toNat_natCast] at h7;omega
 have kx:(x+1)%N=A^((N -1)/F)%N:=by
  have:(((x+1)%N:Nat):Int)=((A^((N -1)/F)%N:Nat):Int):=by
   rw[Int.natCast_emod,Int.natCast_emod,Int.natCast_pow,Int.natCast_add,<-hx]
   show ((((A:Int)^((N -1)/F)%N -1)%N)+1)%N=_
   rw[Int.emod_add_emod,Int.sub_add_cancel,Int.emod_emod]
  omega
 have hN:N=F*((N -1)/F)+1:=by
  have:=Nat.div_add_mod (N -1) F
  rw[k4] at this
  omega
 exact pock hf hN (by omega) k5 k6 (gcd_demand xl kx k7)
abbrev L0c:List Value:=[iU 0,iU 0,iU 0,iU 0,iU 0,iU 0,iU 0,iU 0,iU 0,iU 0,iU 0,iU 0]
theorem al_api_Cert (w:World):(Instr.alloc 91 true (.tuple #[])).run Tryz.prog w= .ok (.pointer (some ⟨w.heap.size,0,none⟩)) (w.alloc (.cells L0c.toArray 91)):=by kernel_rfl
def flC:List (Int×Int×Int)->List Value
 | []=>[]
 | c::r=>CE c.1 c.2.1 c.2.2++flC r
def SCt (w:World) (g o:Nat) (cs:List (Int×Int×Int)):Prop:= ∀j v,(flC cs)[j]?=some v->w.cell? ⟨g,o+j,none⟩=some v
theorem SCt.below {w w':World} {m g o:Nat} {cs:List (Int×Int×Int)} (h:SCt w g o cs) (hb:Below m w w') (hg:g<m):SCt w' g o cs:=fun j v hj=>(hb.cell (p:=⟨g,o+j,none⟩) hg).trans (h j v hj)
theorem SCt.empty {w:World} {g o:Nat} {cs:List (Int×Int×Int)} (h:cs.length=0):SCt w g o cs:=fun j v hj=>by
 have e:cs=[]:=List.eq_nil_of_length_eq_zero h
 subst e;simp[flC] at hj
theorem SCt.below2 {w w':World} {m g o:Nat} {cs:List (Int×Int×Int)} (h:SCt w g o cs) (hb:Below m w w') (hg:cs.length=0\/g<m):SCt w' g o cs:=by
 rcases hg with e | hg
 ·exact SCt.empty e
 ·exact h.below hb hg
abbrev cat (cs:List (Int×Int×Int)) (j:Nat):Int×Int×Int:=cs.getD j (0,0,0)
theorem flC_get: ∀(cs:List (Int×Int×Int)) (j c:Nat) (v:Value),j<cs.length->(CE (cat cs j).1 (cat cs j).2.1 (cat cs j).2.2)[c]?=some v->(flC cs)[12*j+c]?=some v
 | [],j,c,v,h,_=>by simp at h
 | n::r,0,c,v,h,e=>by
  rw[flC,List.getElem?_append_left]
  ·simpa [cat] using e
  ·have:=(List.getElem?_eq_some_iff.1 e).1
   simpa using this
 | n::r,j+1,c,v,h,e=>by
  rw[flC,List.getElem?_append_right (by simp;omega)]
  have:=flC_get r j c v (by simpa using h) (by simpa [cat] using e)
  simpa [show 12*(j+1)+c -12=12*j+c by omega] using this
theorem SCt.at {w:World} {g o:Nat} {cs:List (Int×Int×Int)} (h:SCt w g o cs) (j:Nat) (hj:j<cs.length):w.rangeAt g (o+12*j) (CE (cat cs j).1 (cat cs j).2.1 (cat cs j).2.2):=fun c v hc=>by
 have:=h (12*j+c) v (flC_get cs j c v hj hc)
 rwa [<-Nat.add_assoc] at this
theorem ixC (g o n cap j:Nat) (h:j<n) (w:World):(Instr.indexAt 87 (.slice (some ⟨g,o,none⟩) n cap) (iI j)).run Tryz.prog w= .ok (.pointer (some ⟨g,o+12*j,none⟩)) w:=by
 have h2:(j:Int)<n:=by omega
 go_simp
noncomputable def knB (cs:List (Int×Int×Int)):Nat->Bool
 | 0=>smB (cat cs 0).2.1
 | k+1=>decide ((cat cs (k+1)).2.1=(cat cs k).1)
noncomputable def crB (cs:List (Int×Int×Int)):Nat->Bool
 | 0=>true
 | k+1=>crB cs k&&(knB cs k&&stB (cat cs k).1 (cat cs k).2.1 (cat cs k).2.2)
noncomputable def cfB (cs:List (Int×Int×Int)):Bool:=crB cs cs.length&&decide (0<cs.length)
end Go.Proofs.YtofcppgfaelloaaGreatDoor
