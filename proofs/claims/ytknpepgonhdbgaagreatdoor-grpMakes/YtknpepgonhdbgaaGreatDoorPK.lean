import Derived.Test.YtknpepgonhdbgaaGreatDoorMR1
import Derived.Test.YtknpepgonhdbgaaGreatDoorMQ
import Derived.Test.YtknpepgonhdbgaaGreatDoorRows
import Derived.Lib.SmallJoins
import Derived.Stop.Asserts
namespace Go.Proofs.YtknpepgonhdbgaaGreatDoor
set_option linter.unusedVariables false
set_option linter.unusedSimpArgs false
set_option maxRecDepth 100000
set_option maxHeartbeats 4000000
section
def Pr(p:Nat):Prop:=2<=p/\ ∀d,d∣p->d=1\/d=p
theorem Pr.cop{p a:Nat}(h:Pr p)(ha: ¬p∣a):Nat.gcd p a=1:=by
 rcases h.2 _ (Nat.gcd_dvd_left p a) with e | e
 ·exact e
 ·exact absurd (by rw[<-e];exact Nat.gcd_dvd_right p a) ha
theorem Pr.dvd{p a b:Nat}(h:Pr p)(hd:p∣a*b):p∣a\/p∣b:=by
 by_cases ha:p∣a
 ·exact .inl ha
 ·exact .inr (Nat.Coprime.dvd_of_dvd_mul_left (show Nat.Coprime p a from h.cop ha) hd)
theorem Pr.ex: ∀(n d:Nat),d<=n->2<=d-> ∃p,Pr p/\p∣d
 | 0,d,h,h2=>by omega
 | n+1,d,h,h2=>by
  by_cases hp:Pr d
  ·exact⟨d,hp,Nat.dvd_refl d⟩
  ·have: ∃e,e∣d/\e≠1/\e≠d:=Classical.byContradiction fun hn=>hp ⟨h2,fun e he=>by
    by_cases e1:e=1
    ·exact .inl e1
    ·by_cases e2:e=d
     ·exact .inr e2
     ·exact absurd ⟨e,he,e1,e2⟩ hn⟩
   obtain⟨e,he,e1,e2⟩:=this
   have hpos:0<e:=Nat.pos_of_dvd_of_pos he (by omega)
   have hle:e<=d:=Nat.le_of_dvd (by omega) he
   obtain⟨p,hp,hd⟩:=Pr.ex n e (by omega) (by omega)
   exact⟨p,hp,Nat.dvd_trans hd he⟩
def Vo:List Nat->Nat
 | []=>1
 | a::r=>a*Vo r
theorem prod_erase{a:Nat}: ∀{l:List Nat},a∈l->Vo l=a*Vo (l.erase a)
 | [],h=>by cases h
 | b::r,h=>by
  by_cases e:b=a
  ·subst e;simp[Vo]
  ·have hm:a∈r:=by
    rcases List.mem_cons.1 h with h | h
    ·exact absurd h.symm e
    ·exact h
   rw[List.erase_cons_tail (by simpa using e),Vo,Vo,prod_erase hm]
   rw[<-Nat.mul_assoc,Nat.mul_comm b a,Nat.mul_assoc]
theorem prod_same: ∀{l m:List Nat},l.Nodup->(∀x∈l,x∈m)->l.length=m.length->Vo l=Vo m
 | [],m,_,_,h=>by
  have:m=[]:=List.eq_nil_of_length_eq_zero h.symm
  rw[this]
 | a::t,m,hn,hs,hl=>by
  rw[List.nodup_cons] at hn
  have ha:=hs a List.mem_cons_self
  rw[prod_erase ha,Vo,prod_same (l:=t) (m:=m.erase a) hn.2
   (fun x hx=>(List.mem_erase_of_ne (fun e=>hn.1 (by rw[<-e];exact hx))).2 (hs x (List.mem_cons_of_mem _ hx)))
   (by rw[List.length_erase_of_mem ha,<-hl];simp)]
theorem prod_map(b p:Nat): ∀l:List Nat,Vo (l.map fun i=>b*i%p)%p=b^l.length*Vo l%p
 | []=>by simp[Vo]
 | a::r=>by
  rw[List.map_cons,Vo,Nat.mul_mod,prod_map b p r,Nat.mod_mod,<-Nat.mul_mod,Vo,List.length_cons,Nat.pow_succ]
  congr 1
  rw[Nat.mul_comm (b^r.length) b,Nat.mul_assoc,Nat.mul_assoc]
  congr 1
  rw[<-Nat.mul_assoc,<-Nat.mul_assoc,Nat.mul_comm a (b^r.length)]
theorem prod_not{p:Nat}(hp:Pr p): ∀{l:List Nat},(∀x∈l,0<x/\x<p)-> ¬p∣Vo l
 | [],_,h=>by
  have:=Nat.le_of_dvd (Nat.one_pos) h
  have:=hp.1
  omega
 | a::r,h,hd=>by
  rcases hp.dvd hd with h1 | h1
  ·have:=Nat.le_of_dvd (h a List.mem_cons_self).1 h1
   have:=(h a List.mem_cons_self).2
   omega
  ·exact prod_not hp (fun x hx=>h x (List.mem_cons_of_mem _ hx)) h1
theorem Uk{p a b:Nat}(h:a%p=b%p):p∣a -b:=
 Nat.dvd_of_mod_eq_zero (Nat.sub_mod_eq_zero_of_mod_eq h)
theorem mod_of_dvd{p a b:Nat}(hab:b<=a)(h:p∣a -b):a%p=b%p:=by
 obtain⟨c,hc⟩:=h
 have:a=b+p*c:=by omega
 rw[this,Nat.add_mul_mod_self_left]
theorem Pr.cancel{p c a b:Nat}(hp:Pr p)(hc: ¬p∣c)(h:c*a%p=c*b%p):a%p=b%p:=by
 rcases Nat.le_total b a with hab | hab
 ·have:=Uk h
  rw[<-Nat.mul_sub] at this
  exact mod_of_dvd hab ((hp.dvd this).resolve_left hc)
 ·have:=Uk h.symm
  rw[<-Nat.mul_sub] at this
  exact(mod_of_dvd hab ((hp.dvd this).resolve_left hc)).symm
theorem Pr.fermat{p b:Nat}(hp:Pr p)(hb: ¬p∣b):b^(p -1)%p=1:=by
 have h2:=hp.1
 have hm: ∀x,x∈List.range' 1 (p -1)↔0<x/\x<p:=fun x=>by
  rw[List.mem_range'_1];omega
 have hin: ∀x∈(List.range' 1 (p -1)).map (fun i=>b*i%p),x∈List.range' 1 (p -1):=fun x hx=>by
  obtain⟨i,hi,rfl⟩:=List.mem_map.1 hx
  have hi:=(hm i).1 hi
  refine(hm _).2 ⟨Nat.pos_of_ne_zero fun e=>?_,Nat.mod_lt _ (by omega)⟩
  rcases hp.dvd (Nat.dvd_of_mod_eq_zero e) with h | h
  ·exact hb h
  ·have:=Nat.le_of_dvd hi.1 h
   omega
 have hnd:((List.range' 1 (p -1)).map (fun i=>b*i%p)).Nodup:=by
  refine List.Pairwise.map _ (R:=fun x y=>(0<x/\x<p)/\(0<y/\y<p)/\x≠y) (fun x y h e=>?_) ?_
  ·have:=hp.cancel hb e
   rw[Nat.mod_eq_of_lt h.1.2,Nat.mod_eq_of_lt h.2.1.2] at this
   exact h.2.2 this
  ·refine List.Pairwise.imp_of_mem (fun{x y} hx hy h=>⟨(hm x).1 hx,(hm y).1 hy,h⟩) (List.nodup_range' (step:=1) (by omega))
 have e:=prod_map b p (List.range' 1 (p -1))
 rw[prod_same hnd hin (by simp),List.length_range',Nat.mul_comm] at e
 have:=hp.cancel (c:=Vo (List.range' 1 (p -1))) (a:=1) (b:=b^(p -1))
  (prod_not hp fun x hx=>(hm x).1 hx) (by rw[Nat.mul_one];exact e)
 rw[<-this,Nat.mod_eq_of_lt h2]
theorem pow_one_mod{b m p:Nat}(h:b^m%p=1)(k:Nat):b^(m*k)%p=1%p:=by
 rw[Nat.pow_mul,Nat.pow_mod,h,Nat.one_pow]
theorem pow_gcd{b p:Nat}(h2:2<=p): ∀m n,b^m%p=1->b^n%p=1->b^Nat.gcd m n%p=1:=by
 intro m n
 induction m,n using Nat.gcd.induction with
 | H0 n=>intro _ h;rw[Nat.gcd_zero_left];exact h
 | H1 m n hm ih=>
  intro h1 h3
  rw[Nat.gcd_rec]
  refine ih ?_ h1
  have:=h3
  rw[<-Nat.div_add_mod n m,Nat.pow_add,Nat.mul_mod,pow_one_mod h1,Nat.mod_eq_of_lt h2,Nat.one_mul,Nat.mod_mod] at this
  exact this
theorem pock1{N F q A r:Nat}(hF:Pr F)(hN:N=F*q+1)(hq:q<F)
 (h1:A^(N -1)%N=1)(hg: ∀d,d∣N->A^q%d=1%d->d=1)(hr:Pr r)(hd:r∣N):F<r:=by
 have h2:=hr.1
 have hq1:N -1=q*F:=by rw[hN,Nat.add_sub_cancel,Nat.mul_comm]
 have m1:1%r=1:=Nat.mod_eq_of_lt h2
 have e1:(A^q)^F%r=1:=by
  rw[<-Nat.pow_mul,<-hq1,<-Nat.mod_mod_of_dvd _ hd,h1,m1]
 have hnd: ¬r∣A^q:=fun h=>by
  have h:A^q%r=0:=Nat.mod_eq_zero_of_dvd h
  rw[Nat.pow_mod,h,Nat.zero_pow (by have:=hF.1;omega)] at e1
  simp at e1
 have e2:=hr.fermat hnd
 have e3:=pow_gcd h2 _ _ e1 e2
 rcases hF.2 _ (Nat.gcd_dvd_left F (r -1)) with g | g
 ·rw[g,Nat.pow_one] at e3
  have:=hg r hd (by rw[e3,m1])
  omega
 ·have:=Nat.le_of_dvd (by omega) (g▸Nat.gcd_dvd_right F (r -1))
  omega
theorem pock{N F q A:Nat}(hF:Pr F)(hN:N=F*q+1)(h3:2<=N)(hq:q<F)
 (h1:A^(N -1)%N=1)(hg: ∀d,d∣N->A^q%d=1%d->d=1):Pr N:=by
 have hF2:=hF.1
 have big: ∀d,d∣N->2<=d->F<d:=fun d hd hd2=>by
  obtain⟨r,hr,hrd⟩:=Pr.ex d d (Nat.le_refl d) hd2
  have:=pock1 hF hN hq h1 hg hr (Nat.dvd_trans hrd hd)
  exact Nat.lt_of_lt_of_le this (Nat.le_of_dvd (by omega) hrd)
 refine⟨h3,fun d hd=>?_⟩
 obtain⟨e,he⟩:=hd
 by_cases d1:d=1
 ·exact .inl d1
 refine .inr ?_
 by_cases e1:e=1
 ·rw[he,e1,Nat.mul_one]
 exfalso
 have d0:d≠0:=fun h=>by rw[h,Nat.zero_mul] at he;omega
 have e0:e≠0:=fun h=>by rw[h,Nat.mul_zero] at he;omega
 have a:=big d ⟨e,he⟩ (by omega)
 have b:=big e ⟨d,by rw[Nat.mul_comm];exact he⟩ (by omega)
 have c:(F+1)*(F+1)<=N:=by rw[he];exact Nat.mul_le_mul a b
 have c2:F*q<=F*F:=Nat.mul_le_mul_left F (by omega)
 rw[Nat.add_mul,Nat.mul_add] at c
 omega
theorem gcd_demand{N q A x:Nat}(hx:x<N)(hs:(x+1)%N=A^q%N)(hg:Nat.gcd x N=1):
 ∀d,d∣N->A^q%d=1%d->d=1:=by
 intro d hd e
 have:(x+1)%d=1%d:=by rw[<-Nat.mod_mod_of_dvd _ hd,hs,Nat.mod_mod_of_dvd _ hd,e]
 have h:=Uk this
 rw[Nat.add_sub_cancel] at h
 exact Nat.eq_one_of_dvd_one (hg▸Nat.dvd_gcd h hd)
theorem trial{n:Nat}(h2:2<=n)(h: ∀d,2<=d->d*d<=n->n%d≠0):Pr n:=by
 refine⟨h2,fun d hd=>?_⟩
 obtain⟨e,he⟩:=hd
 by_cases d1:d=1
 ·exact .inl d1
 refine .inr ?_
 by_cases e1:e=1
 ·rw[he,e1,Nat.mul_one]
 exfalso
 have d0:d≠0:=fun h=>by rw[h,Nat.zero_mul] at he;omega
 have e0:e≠0:=fun h=>by rw[h,Nat.mul_zero] at he;omega
 rcases Nat.le_total d e with hl | hl
 ·exact h d (by omega) (by rw[he];exact Nat.mul_le_mul_left d hl) (by rw[he,Nat.mul_mod_right])
 ·exact h e (by omega) (by rw[he];exact Nat.mul_le_mul_right e hl) (by rw[he,Nat.mul_mod_left])
end
section
open Go.RowKit
theorem nCompare(n m:Int)(w:World)(hn:In n)(hm:In m):CC 73 #[NV n,NV m] w (.int .i64 (cmpI n m)):=by
 have k:=Compare_any _ _ _ _ _ _ _ _ w (W_D0 n) (W_D1 n) (W_D2 n) (W_D3 n) (W_D0 m) (W_D1 m) (W_D2 m) (W_D3 m)
 simp only[V_In hn,V_In hm] at k
 exact k
theorem Zn:EnT 73:=fun _ _=>by kernel_rfl
theorem rem_u(p q:Operand)(x y z:Int)(w:World)(h0:0<=x)(hx:x<18446744073709551616)(h1:0<y)(h:x%y=z):(do eqGuard .rem 22 p q (.int .u64 x) (.int .u64 y);binOp .rem 22 (.int .u64 x) (.int .u64 y):Sem Value).run Tryz.prog w= .ok (.int .u64 z) w:=by
 have hy:y≠0:=by omega
 have hb:(y==0)=false:=by simp[hy]
 have e:x.tmod y=z:=by rw[Int.tmod_eq_emod_of_nonneg h0,h]
 have z0:0<=z:=by rw[<-h];exact Int.emod_nonneg x hy
 have z1:z<=x:=by
  have a:=Int.mul_ediv_add_emod x y
  have b:0<=y*(x/y):=Int.mul_nonneg (by omega) (Int.ediv_nonneg h0 (by omega))
  omega
 have wz:IntKind.u64.wrap z=z:=by simp[IntKind.wrap,IntKind.signed,IntKind.bits];omega
 go_simp
def Sm(x:Int):Prop:=2<=x/\x<1048576/\ ∀d:Int,2<=d->d*d<=x->x%d≠0
open Classical in
noncomputable def smB (x:Int):Bool:=decide (Sm x)
theorem smB_t{x:Int}(h:Sm x):smB x=true:=by simp[smB,h]
theorem Sm.pr{x:Int}(h:Sm x):Pr x.toNat:=trial (by have:=h.1;omega) fun d hd hq he=>h.2.2 d (by omega) (by
 have:=h.1
 have e:((d*d:Nat):Int)<=((x.toNat:Nat):Int):=Int.ofNat_le.2 hq
 rw[Int.toNat_of_nonneg (by omega)] at e
 rw[Int.natCast_mul] at e;exact e) (by
 have:=h.1
 have e:((x.toNat%d:Nat):Int)=0:=by rw[he];rfl
 rw[Int.natCast_emod,Int.toNat_of_nonneg (by omega)] at e;exact e)
def StR(n f a:Int):Prop:=n%2=1/\3<=n/\2<=f/\(n -1)%f=0/\(n -1)/f<f/\a^(n -1).toNat%n=1/\gI ((a^((n -1)/f).toNat%n -1)%n) n=1
open Classical in
noncomputable def stB (n f a:Int):Bool:=decide (StR n f a)
theorem stB_iff{n f a:Int}:stB n f a=true↔StR n f a:=by simp[stB]
theorem cmp_ge(n m:Int):decide (0<=cmpI n m)=decide (m<=n):=by
 unfold cmpI;rw[Bool.eq_iff_iff];simp;split
 ·simp;omega
 ·split<;>simp<;>omega
theorem StR.pr{n f a:Int}(h:StR n f a)(ha:0<=a)(hf:Pr f.toNat):Pr n.toNat:=by
 obtain⟨h1,h2,h3,h4,h5,h6,h7⟩:=h
 obtain⟨N,rfl⟩: ∃N:Nat,n=N:=⟨n.toNat,by omega⟩
 obtain⟨F,rfl⟩: ∃F:Nat,f=F:=⟨f.toNat,by omega⟩
 obtain⟨A,rfl⟩: ∃A:Nat,a=A:=⟨a.toNat,by omega⟩
 have e1:((N:Int) -1)=((N -1:Nat):Int):=by omega
 have eq:((N:Int) -1)/F=(((N -1)/F:Nat):Int):=by rw[e1,Int.natCast_ediv]
 rw[eq] at h5 h7
 rw[e1] at h4 h6
 simp only[Int.toNat_natCast] at h6 h7 hf⊢
 have k4:(N -1)%F=0:=by
  have:(((N -1)%F:Nat):Int)=0:=by rw[Int.natCast_emod];exact h4
  omega
 have k6:A^(N -1)%N=1:=by
  have:((A^(N -1)%N:Nat):Int)=1:=by rw[Int.natCast_emod,Int.natCast_pow];exact h6
  omega
 have k5:(N -1)/F<F:=by omega
 obtain⟨x,hx⟩: ∃x:Nat,(((A:Int)^((N -1)/F)%N -1)%N)=x:=⟨_,(Int.toNat_of_nonneg (Int.emod_nonneg _ (by omega))).symm⟩
 rw[hx] at h7
 have xl:x<N:=by
  have:=Int.emod_lt_of_pos ((A:Int)^((N -1)/F)%N -1) (show (0:Int)<N by omega)
  omega
 have k7:Nat.gcd x N=1:=by
  unfold gI at h7;simp only[Int.toNat_natCast] at h7;omega
 have kx:(x+1)%N=A^((N -1)/F)%N:=by
  have:(((x+1)%N:Nat):Int)=((A^((N -1)/F)%N:Nat):Int):=by
   rw[Int.natCast_emod,Int.natCast_emod,Int.natCast_pow,Int.natCast_add,<-hx]
   show ((((A:Int)^((N -1)/F)%N -1)%N)+1)%N=_
   rw[Int.emod_add_emod,Int.sub_add_cancel,Int.emod_emod]
  omega
 have hN:N=F*((N -1)/F)+1:=by
  have:=Nat.div_add_mod (N -1) F
  rw[k4] at this
  omega
 exact pock hf hN (by omega) k5 k6 (gcd_demand xl kx k7)
def flC:List (Int×Int×Int)->List Value
 | []=>[]
 | c::r=>CE c.1 c.2.1 c.2.2++flC r
def SCt(w:World)(g o:Nat)(cs:List (Int×Int×Int)):Prop:= ∀j v,(flC cs)[j]?=some v->w.cell? ⟨g,o+j,none⟩=some v
theorem SCt.below{w w':World}{m g o:Nat}{cs:List (Int×Int×Int)}(h:SCt w g o cs)(hb:Below m w w')(hg:g<m):SCt w' g o cs:=fun j v hj=>(hb.cell (p:=⟨g,o+j,none⟩) hg).trans (h j v hj)
theorem SCt.empty{w:World}{g o:Nat}{cs:List (Int×Int×Int)}(h:cs.length=0):SCt w g o cs:=fun j v hj=>by
 have e:cs=[]:=List.eq_nil_of_length_eq_zero h
 subst e;simp[flC] at hj
theorem SCt.below2{w w':World}{m g o:Nat}{cs:List (Int×Int×Int)}(h:SCt w g o cs)(hb:Below m w w')(hg:cs.length=0\/g<m):SCt w' g o cs:=by
 rcases hg with e | hg
 ·exact SCt.empty e
 ·exact h.below hb hg
abbrev cat(cs:List (Int×Int×Int))(j:Nat):Int×Int×Int:=cs.getD j (0,0,0)
theorem flC_get: ∀(cs:List (Int×Int×Int)) (j c:Nat) (v:Value),j<cs.length->(CE (cat cs j).1 (cat cs j).2.1 (cat cs j).2.2)[c]?=some v->(flC cs)[12*j+c]?=some v
 | [],j,c,v,h,_=>by simp at h
 | n::r,0,c,v,h,e=>by
  rw[flC,List.getElem?_append_left]
  ·simpa [cat] using e
  ·have:=(List.getElem?_eq_some_iff.1 e).1
   simpa using this
 | n::r,j+1,c,v,h,e=>by
  rw[flC,List.getElem?_append_right (by simp;omega)]
  have:=flC_get r j c v (by simpa using h) (by simpa [cat] using e)
  simpa [show 12*(j+1)+c -12=12*j+c by omega] using this
theorem SCt.at{w:World}{g o:Nat}{cs:List (Int×Int×Int)}(h:SCt w g o cs)(j:Nat)(hj:j<cs.length):w.rangeAt g (o+12*j) (CE (cat cs j).1 (cat cs j).2.1 (cat cs j).2.2):=fun c v hc=>by
 have:=h (12*j+c) v (flC_get cs j c v hj hc)
 rwa [<-Nat.add_assoc] at this
noncomputable def knB (cs:List (Int×Int×Int)):Nat->Bool
 | 0=>smB (cat cs 0).2.1
 | k+1=>decide ((cat cs (k+1)).2.1=(cat cs k).1)
noncomputable def crB (cs:List (Int×Int×Int)):Nat->Bool
 | 0=>true
 | k+1=>crB cs k&&(knB cs k&&stB (cat cs k).1 (cat cs k).2.1 (cat cs k).2.2)
noncomputable def cfB (cs:List (Int×Int×Int)):Bool:=crB cs cs.length&&decide (0<cs.length)
theorem bsN3(a b c:Int)(w:World):(Instr.buildSlice 35 3 ([0,1,2].zip [NV a,NV b,NV c]).toArray).run Tryz.prog w= .ok (.slice (some ⟨w.heap.size,0,none⟩) 3 3) (w.alloc (.cells (flN [a,b,c]).toArray 24)):=by kernel_rfl
theorem flN_at: ∀(ns:List Int) (k:Nat),k<ns.length-> ∀j v,(LN (ns.getD k 0))[j]?=some v->(flN ns)[4*k+j]?=some v
 | [],k,h,_,_,_=>by simp at h
 | n::r,0,h,j,v,hj=>by
  rw[flN,List.getElem?_append_left (by have:=(List.getElem?_eq_some_iff.1 hj).1;simpa using this)]
  simpa using hj
 | n::r,k+1,h,j,v,hj=>by
  rw[flN,List.getElem?_append_right (by simp;omega)]
  have:=flN_at r k (by simpa using h) j v (by simpa using hj)
  simpa [show 4*(k+1)+j -4=4*k+j by omega] using this
theorem ent_cert_primes:EnT 83:=fun _ _=>by kernel_rfl
theorem T8:EnT 53:=fun _ _=>by kernel_rfl
theorem cPrimes0(w:World):Calls Tryz.prog 83 #[.int .i64 0] w fun e w'=> ∃v,e= .returned v/\PS w.heap.size 3 (flN [131101,581039633,1162079267]) w' v/\Bw w w':=by
 go_enter Tryz.func83,Tryz.ntmps83
 have HB0:Bw w w:=Below.refl _ _
 have K0_1:=Bk.nil (w.heap.size) w
 go_upto_region 1 with fail
 refine rgP K0_1 HB0 HB0.size [] [] [(0,3,.int .i64 0)] [] [] [] ?_ ?_
 ·exact oc g_mv on
 intro u1 HB1 sz1 K1
 simp only[sQ] at K1⊢
 clear HB0
 go_upto_region 2 with fail
 refine rgP K1 HB1 HB1.size [] [] [(0,5,.bool true),(1,4,.bool true)] [] [] [] ?_ ?_
 ·exact oc (g_bn (fun uZ=>eql_i _ _ _ 0 0 _ uZ rfl))<|oc g_as on
 intro u2 HB2 sz2 K2
 simp only[sQ] at K2⊢
 clear K1 HB1
 go_upto_region 3 with fail
 refine rgF K2 HB2 HB2.size [] [] [(0,6,NV 131101),(1,7,NV 581039633),(2,8,NV 1162079267)] [] [] [⟨3,9,some 4,PS u2.heap.size 3 (flN [131101,581039633,1162079267])⟩,⟨4,2,none,PS u2.heap.size 3 (flN [131101,581039633,1162079267])⟩] [] (.cons (fun _ _ _ h1 h2=>h2.stab h1)<| .cons (fun _ _ _ h1 h2=>h2.stab h1)<|Stab.nil) ?_ ?_
 ·exact oc (g_cl Z9 (fun uZ=>nOf 131101 uZ (by omega) (by omega)))<|oc (g_cl Z9 (fun uZ=>nOf 581039633 uZ (by omega) (by omega)))<|oc (g_cl Z9 (fun uZ=>nOf 1162079267 uZ (by omega) (by omega)))<|oc (g_bR 0 (PS u2.heap.size 3 (flN [131101,581039633,1162079267])) [0,1,2] [NV 131101,NV 581039633,NV 1162079267] (flN [131101,581039633,1162079267]) (bsN3 _ _ _) (fun u hu=>PS.new 3 _ _ u hu))<|oc (g_sE 0 1 (PS u2.heap.size 3 (flN [131101,581039633,1162079267]))) on
 intro u3 v3_3 hv3_3 v3_4 hv3_4 HB3 sz3 K3
 simp only[sQ] at K3⊢
 clear K2 HB2
 have hP:=hv3_4 rfl
 go_wp2
 refine bodyPost_ret (v:=v3_4) (by simp[results,Tryz.results83,go_sem]) rfl ⟨_,rfl,hP.mono (by omega),HB3⟩
end
section
def pwm:Nat->Nat->Nat->Nat->Nat
 | 0,_,_,m=>1%m
 | k+1,a,e,m=>cond (Nat.beq (e%2) 1) (a*pwm k (a*a%m) (e/2) m%m) (pwm k (a*a%m) (e/2) m)
theorem pwm_eq: ∀(k a e m:Nat),e<2^k->pwm k a e m=a^e%m
 | 0,a,e,m,h=>by
  have:e=0:=by simpa using h
  rw[pwm,this,Nat.pow_zero]
 | k+1,a,e,m,h=>by
  have h2:e/2<2^k:=by rw[Nat.pow_succ] at h;omega
  have ih:=pwm_eq k (a*a%m) (e/2) m h2
  have e1:(a*a%m)^(e/2)%m=a^(2*(e/2))%m:=by
   rw[<-Nat.pow_mod,Nat.pow_mul,Nat.pow_two]
  rw[pwm,ih,e1]
  by_cases he:e%2=1
  ·rw[show Nat.beq (e%2) 1=true by rw[he];rfl,cond_true]
   rw[Nat.mul_mod,Nat.mod_mod,<-Nat.mul_mod]
   have:a*a^(2*(e/2))=a^e:=by
    rw[Nat.mul_comm,<-Nat.pow_succ];congr 1;omega
   rw[this]
  ·have h0:e%2=0:=by omega
   rw[show Nat.beq (e%2) 1=false by rw[h0];rfl,cond_false]
   congr 2;omega
theorem pow_of_pwm{a e m r:Nat}(k:Nat)(he:e<2^k)(h:pwm k a e m=r):a^e%m=r:=by rw[<-pwm_eq k a e m he,h]
theorem StR.of(N F A q k x:Nat)(h1:N%2=1)(h2:3<=N)(h3:2<=F)(h4:F*q+1=N)(h5:q<F)(hk:N<2^k)(h6:pwm k A (N -1) N=1)(h7:pwm k A q N=x)(hx:1<=x)(h8:Nat.gcd (x -1) N=1):StR N F A:=by
 have hq:q<2^k:=by
  have:1*q<=F*q:=Nat.mul_le_mul_right q (by omega)
  omega
 have k6:=pow_of_pwm k (by omega) h6
 have k7:=pow_of_pwm k hq h7
 have xl:x<N:=by rw[<-k7];exact Nat.mod_lt _ (by omega)
 have e1:((N:Int) -1)=((N -1:Nat):Int):=by omega
 have e2:N -1=F*q:=by omega
 have e3:((N:Int) -1)/F=((q:Nat):Int):=by
  rw[e1,<-Int.natCast_ediv,e2,Nat.mul_div_cancel_left q (by omega)]
 refine⟨by omega,by omega,by omega,?_,by rw[e3];omega,?_,?_⟩
 ·rw[e1,<-Int.natCast_emod,e2,Nat.mul_mod_right];rfl
 ·rw[e1,Int.toNat_natCast,<-Int.natCast_pow,<-Int.natCast_emod,k6];rfl
 ·rw[e3,Int.toNat_natCast,<-Int.natCast_pow,<-Int.natCast_emod,k7]
  have e4:((x:Int) -1)%(N:Int)=((x -1:Nat):Int):=by
   have:((x:Int) -1)=((x -1:Nat):Int):=by omega
   rw[this,<-Int.natCast_emod,Nat.mod_eq_of_lt (by omega)]
  rw[e4]
  unfold gI
  rw[Int.toNat_natCast,Int.toNat_natCast,h8];rfl
theorem Sm.of(n b:Nat)(h2:2<=n)(hl:n<1048576)(hb:n<b*b)(h:(List.range b).all (fun d=>Nat.blt d 2 || !(Nat.beq (n%d) 0))=true):Sm n:=by
 refine⟨by omega,by omega,fun d hd hq he=>?_⟩
 obtain⟨e,rfl⟩: ∃e:Nat,d=e:=⟨d.toNat,by omega⟩
 have hq':e*e<=n:=by
  have:((e*e:Nat):Int)<=n:=by rw[Int.natCast_mul];exact hq
  omega
 have he':n%e=0:=by
  have:((n%e:Nat):Int)=0:=by rw[Int.natCast_emod];exact he
  omega
 have hlt:e<b:=Nat.lt_of_not_le fun hn=>by
  have:=Nat.mul_le_mul hn hn
  omega
 have:=List.all_eq_true.1 h e (List.mem_range.2 hlt)
 rw[he'] at this
 simp[Nat.blt] at this
 omega
theorem small_131101:smB 131101=true:=smB_t (Sm.of 131101 363 (by omega) (by omega) (by omega) (by decide+kernel))
theorem chain0_1:stB 581039633 131101 2=true:=stB_iff.2 (StR.of 581039633 131101 2 4432 30 554694791 (by decide+kernel) (by decide+kernel) (by decide+kernel) (by decide+kernel) (by decide+kernel) (by decide+kernel) (by decide+kernel) (by decide+kernel) (by decide+kernel) (by decide+kernel))
theorem chain0_2:stB 1162079267 581039633 2=true:=stB_iff.2 (StR.of 1162079267 581039633 2 2 31 4 (by decide+kernel) (by decide+kernel) (by decide+kernel) (by decide+kernel) (by decide+kernel) (by decide+kernel) (by decide+kernel) (by decide+kernel) (by decide+kernel) (by decide+kernel))
end
section
open Go.RowKit
def chain0:List (Int×Int×Int):=[(581039633,131101,2),(1162079267,581039633,2)]
theorem chain0_ok:cfB chain0=true:=by simp[cfB,crB,knB,cat,chain0,small_131101,chain0_1,chain0_2]
theorem chain0_in: ∀j,j<chain0.length->In (cat chain0 j).1/\In (cat chain0 j).2.1/\In (cat chain0 j).2.2:=fun j hj=>by
 have:j=0\/j=1:=by have:chain0.length=2:=rfl;omega
 rcases this with rfl | rfl<;>exact⟨⟨by decide,by decide⟩,⟨by decide,by decide⟩,⟨by decide,by decide⟩⟩
theorem bNat_any(n:Int)(w:World)(h0:0<=n)(h1:n<9223372036854775808):CC 32 #[.int .i64 n] w (NV n):=by
 rw[NV_small h0 (by omega)]
 have hw:IntKind.u64.wrap n=n:=by simp[IntKind.wrap,IntKind.signed,IntKind.bits];omega
 go_enter Tryz.func32,Tryz.ntmps32
 go_wp2
 go_returns
 exact⟨by simp,by go_grown⟩
theorem smB_iff{x:Int}:smB x=true↔Sm x:=by simp[smB]
theorem crB_pr{cs:List (Int×Int×Int)}(hin: ∀j,j<cs.length->In (cat cs j).1/\In (cat cs j).2.1/\In (cat cs j).2.2): ∀k,k<cs.length->crB cs (k+1)=true->Pr (cat cs k).1.toNat
 | 0,hk,h=>by
  rw[crB,Bool.and_eq_true,Bool.and_eq_true] at h
  have hs:smB (cat cs 0).2.1=true:=h.2.1
  exact(stB_iff.1 h.2.2).pr (hin 0 hk).2.2.1 (smB_iff.1 hs).pr
 | k+1,hk,h=>by
  rw[crB,Bool.and_eq_true,Bool.and_eq_true] at h
  have ih:=crB_pr hin k (by omega) h.1
  have e:(cat cs (k+1)).2.1=(cat cs k).1:=by have:=h.2.1;rw[knB] at this;simpa using this
  exact(stB_iff.1 h.2.2).pr (hin (k+1) hk).2.2.1 (by rw[e];exact ih)
theorem cfB_pr{cs:List (Int×Int×Int)}(hin: ∀j,j<cs.length->In (cat cs j).1/\In (cat cs j).2.1/\In (cat cs j).2.2)(h:cfB cs=true):0<cs.length/\Pr (cat cs (cs.length -1)).1.toNat:=by
 rw[cfB,Bool.and_eq_true] at h
 have h0:0<cs.length:=by simpa using h.2
 refine⟨h0,crB_pr hin _ (by omega) ?_⟩
 rw[show cs.length -1+1=cs.length by omega];exact h.1
theorem bdX(x:Int)(h0:0<=x)(h1:x<18446744073709551616)(w:World):(Instr.build 24 [(0,.int .u64 x)].toArray).run Tryz.prog w= .ok (NV x) w:=by
 rw[NV_small h0 h1];kernel_rfl
theorem Sm.not{x d:Int}(h2:2<=d)(hd:d<x)(hr:x%d=0): ¬Sm x:=fun h=>by
 have hp:=h.pr
 have:d.toNat∣x.toNat:=by
  have e:(d:Int)∣x:=Int.dvd_of_emod_eq_zero hr
  rw[<-Int.toNat_of_nonneg (show 0<=d by omega),<-Int.toNat_of_nonneg (show 0<=x by omega)] at e
  exact Int.ofNat_dvd.1 e
 rcases hp.2 _ this with e | e<;>omega
theorem V2(n m:Int)(w:World)(hn:In n)(hm:In m):CC 34 #[NV n,NV m] w (.int .i64 (cmpI n m)):=by
 have k:=V1 _ _ _ _ _ _ _ _ w (W_D0 n) (W_D1 n) (W_D2 n) (W_D3 n) (W_D0 m) (W_D1 m) (W_D2 m) (W_D3 m)
 simp only[V_In hn,V_In hm] at k
 exact k
theorem Zh:EnT 34:=fun _ _=>by kernel_rfl
theorem D0_odd(n:Int):D0 n%2=n%2:=by unfold D0;omega
theorem cmp_lt0(n m:Int):decide (cmpI n m<0)=decide (n<m):=by
 unfold cmpI;split
 ·simp[*]
 ·split<;>simp[*]<;>omega
end
section
open Go.ChangeShapes Go.WideShapes Go.ChangeAt Go.RowKit
theorem Tryz.cells24:Tryz.prog.cellsOf 24=4:=by kernel_rfl
theorem Tryz.cells22:Tryz.prog.cellsOf 22=1:=by kernel_rfl
theorem Zj{x:Int}(h:(Lit.int .u64 x).wf=true):W64 x:=by
 simp[Lit.wf,IntKind.min,IntKind.max,IntKind.signed,IntKind.bits] at h
 exact⟨by omega,by omega⟩
abbrev N4{H:Type}(a b c d:Int):DataW H:= .agg [.lit (.int .u64 a),.lit (.int .u64 b),.lit (.int .u64 c),.lit (.int .u64 d)]
theorem open_nat{H:Type}{enc:TypeId×Value->H}{W:World}{bs base:Nat}{sp:Nat->Bool}{held:Bool}{v:Value}{x:DataW H}{p:List MemPlace}
 (hv:Value.okWide Tryz.prog W .any base 24 v)(h:DataW.Trod enc Tryz.prog W bs sp held 24 v x p):
 ∃a b c d:Int,v=A4 a b c d/\x=N4 a b c d/\p=[]/\W64 a/\W64 b/\W64 c/\W64 d:=by
 obtain⟨cs,rfl,hsz,_⟩: ∃cs,v= .agg cs/\cs.size=Tryz.prog.cellsOf 24/\Row.okWide Tryz.prog W .any base 24 cs:=by
  simpa [Value.okWide,Tryz.underlying24] using hv
 rw[Tryz.cells24] at hsz
 obtain⟨c0,c1,c2,c3,rfl⟩:=Go.Joins.array4 hsz
 obtain⟨fuel,hf⟩:=h
 obtain⟨y0,y1,y2,y3,m,hx,hy0,hy1,hy2,hy3⟩:=trod_array4 Tryz.underlying24 Tryz.cells22 hf
 obtain⟨x0,e0,rfl,w0⟩:=DataW.trod_int Tryz.underlying22 hy0
 obtain⟨x1,e1,rfl,w1⟩:=DataW.trod_int Tryz.underlying22 hy1
 obtain⟨x2,e2,rfl,w2⟩:=DataW.trod_int Tryz.underlying22 hy2
 obtain⟨x3,e3,rfl,w3⟩:=DataW.trod_int Tryz.underlying22 hy3
 simp at e0 e1 e2 e3
 subst e0 e1 e2 e3
 simp only[Prod.mk.injEq] at hx
 obtain⟨rfl,rfl⟩:=hx
 exact⟨x0,x1,x2,x3,rfl,rfl,rfl,Zj w0,Zj w1,Zj w2,Zj w3⟩
section
section
variable {H:Type} {enc:TypeId×Value->H} {P:Program} {w:World} {base:Nat} {spare:Nat->Bool} {held:Bool}
theorem trodAll_five{t0 t1 t2 t3 t4:TypeId}{args:Array Value}{ds:List (DataW H)}{ps:List MemPlace}(h:DataW.TrodAll enc P w base spare held [t0,t1,t2,t3,t4] args.toList ds ps):
 ∃v0 v1 v2 v3 v4 d0 d1 d2 d3 d4 p0 p1 p2 p3 p4,args=#[v0,v1,v2,v3,v4]/\ds=[d0,d1,d2,d3,d4]/\ps=p0++(p1++(p2++(p3++p4)))/\DataW.Trod enc P w base spare held t0 v0 d0 p0/\DataW.Trod enc P w base spare held t1 v1 d1 p1/\DataW.Trod enc P w base spare held t2 v2 d2 p2/\DataW.Trod enc P w base spare held t3 v3 d3 p3/\DataW.Trod enc P w base spare held t4 v4 d4 p4:=by
 obtain⟨v0,r0,d0,e0,p0,q0,hargs,rfl,rfl,k0,h0⟩:=trodAll_cons h
 obtain⟨v1,r1,d1,e1,p1,q1,rfl,rfl,rfl,k1,h1⟩:=trodAll_cons h0
 obtain⟨v2,r2,d2,e2,p2,q2,rfl,rfl,rfl,k2,h2⟩:=trodAll_cons h1
 obtain⟨v3,r3,d3,e3,p3,q3,rfl,rfl,rfl,k3,h3⟩:=trodAll_cons h2
 obtain⟨v4,r4,d4,e4,p4,q4,rfl,rfl,rfl,k4,h4⟩:=trodAll_cons h3
 obtain⟨rfl,rfl,rfl⟩:=trodAll_nil h4
 exact⟨v0,v1,v2,v3,v4,d0,d1,d2,d3,d4,p0,p1,p2,p3,p4,by cases args;simp_all,rfl,by simp,k0,k1,k2,k3,k4⟩
theorem trodAll_mk5{t0 t1 t2 t3 t4:TypeId}{v0 v1 v2 v3 v4:Value}{d0 d1 d2 d3 d4:DataW H}{p0 p1 p2 p3 p4:List MemPlace}(h0:DataW.Trod enc P w base spare held t0 v0 d0 p0)(h1:DataW.Trod enc P w base spare held t1 v1 d1 p1)(h2:DataW.Trod enc P w base spare held t2 v2 d2 p2)(h3:DataW.Trod enc P w base spare held t3 v3 d3 p3)(h4:DataW.Trod enc P w base spare held t4 v4 d4 p4):
 DataW.TrodAll enc P w base spare held [t0,t1,t2,t3,t4] [v0,v1,v2,v3,v4] [d0,d1,d2,d3,d4] (p0++(p1++(p2++(p3++p4)))):=⟨p0,_,h0,trodAll_mk4 h1 h2 h3 h4,rfl⟩
end
end
theorem LN_V{x0 x1 x2 x3:Int}(w0:W64 x0)(w1:W64 x1)(w2:W64 x2)(w3:W64 x3):LN (V x0 x1 x2 x3)=[.int .u64 x0,.int .u64 x1,.int .u64 x2,.int .u64 x3]:=by
 have:=NV_V w0 w1 w2 w3
 unfold NV A4 at this
 injection this with this
 have:=congrArg Array.toList this
 simpa using this
theorem trodN{H:Type}{enc:TypeId×Value->H}{W:World}{bs fuel:Nat}{sp:Nat->Bool}{held:Bool}{c0 c1 c2 c3:Value}{x:DataW H×List MemPlace}(h:DataW.trod enc Tryz.prog W bs sp held fuel 24 [c0,c1,c2,c3]=some x):
 ∃z,In z/\[c0,c1,c2,c3]=LN z:=by
 obtain⟨y0,y1,y2,y3,m,hx,hy0,hy1,hy2,hy3⟩:=trod_array4 Tryz.underlying24 Tryz.cells22 h
 obtain⟨x0,e0,rfl,w0⟩:=DataW.trod_int Tryz.underlying22 hy0
 obtain⟨x1,e1,rfl,w1⟩:=DataW.trod_int Tryz.underlying22 hy1
 obtain⟨x2,e2,rfl,w2⟩:=DataW.trod_int Tryz.underlying22 hy2
 obtain⟨x3,e3,rfl,w3⟩:=DataW.trod_int Tryz.underlying22 hy3
 simp at e0 e1 e2 e3
 subst e0 e1 e2 e3
 exact⟨V x0 x1 x2 x3,In_V (Zj w0) (Zj w1) (Zj w2) (Zj w3),(LN_V (Zj w0) (Zj w1) (Zj w2) (Zj w3)).symm⟩
theorem Tryz.cells26:Tryz.prog.cellsOf 26=16:=by kernel_rfl
abbrev GE(p q g h:Int):List Value:=[.int .u64 (D0 p),.int .u64 (D1 p),.int .u64 (D2 p),.int .u64 (D3 p),.int .u64 (D0 q),.int .u64 (D1 q),.int .u64 (D2 q),.int .u64 (D3 q),.int .u64 (D0 g),.int .u64 (D1 g),.int .u64 (D2 g),.int .u64 (D3 g),.int .u64 (D0 h),.int .u64 (D1 h),.int .u64 (D2 h),.int .u64 (D3 h)]
abbrev GX(p q g h:Int):Value:= .agg #[.int .u64 (D0 p),.int .u64 (D1 p),.int .u64 (D2 p),.int .u64 (D3 p),.int .u64 (D0 q),.int .u64 (D1 q),.int .u64 (D2 q),.int .u64 (D3 q),.int .u64 (D0 g),.int .u64 (D1 g),.int .u64 (D2 g),.int .u64 (D3 g),.int .u64 (D0 h),.int .u64 (D1 h),.int .u64 (D2 h),.int .u64 (D3 h)]
theorem groupCells{H:Type}{enc:TypeId×Value->H}{W:World}{bs fuel:Nat}{sp:Nat->Bool}{held:Bool}{cs:List Value}{x:DataW H×List MemPlace}(h:DataW.trod enc Tryz.prog W bs sp held fuel 26 cs=some x):
 ∃p q g h,In p/\In q/\In g/\In h/\cs=GE p q g h:=by
 obtain⟨y0,y1,y2,y3,m,_,hl,h0,h1,h2,h3⟩:=Go.Joins.trod_struct4 Tryz.underlying26 h
 rw[Tryz.cells26] at hl
 match cs,hl,h0,h1,h2,h3 with
 | [c0,c1,c2,c3,c4,c5,c6,c7,c8,c9,c10,c11,c12,c13,c14,c15],_,h0,h1,h2,h3=>
  have h0:DataW.trod enc Tryz.prog W bs sp held m 24 ((([c0,c1,c2,c3,c4,c5,c6,c7,c8,c9,c10,c11,c12,c13,c14,c15]:List Value).drop 0).take (Tryz.prog.cellsOf 24))=some y0:=h0
  have h1:DataW.trod enc Tryz.prog W bs sp held m 24 ((([c0,c1,c2,c3,c4,c5,c6,c7,c8,c9,c10,c11,c12,c13,c14,c15]:List Value).drop 4).take (Tryz.prog.cellsOf 24))=some y1:=h1
  have h2:DataW.trod enc Tryz.prog W bs sp held m 24 ((([c0,c1,c2,c3,c4,c5,c6,c7,c8,c9,c10,c11,c12,c13,c14,c15]:List Value).drop 8).take (Tryz.prog.cellsOf 24))=some y2:=h2
  have h3:DataW.trod enc Tryz.prog W bs sp held m 24 ((([c0,c1,c2,c3,c4,c5,c6,c7,c8,c9,c10,c11,c12,c13,c14,c15]:List Value).drop 12).take (Tryz.prog.cellsOf 24))=some y3:=h3
  rw[Tryz.cells24] at h0 h1 h2 h3
  obtain⟨n,hn,en⟩:=trodN h0
  obtain⟨f,hf,ef⟩:=trodN h1
  obtain⟨a,ha,ea⟩:=trodN h2
  obtain⟨b,hb,eb⟩:=trodN h3
  refine⟨n,f,a,b,hn,hf,ha,hb,?_⟩
  have e:GE n f a b=LN n++LN f++LN a++LN b:=rfl
  rw[e,<-en,<-ef,<-ea,<-eb];rfl
theorem open_group{H:Type}{enc:TypeId×Value->H}{W:World}{bs base:Nat}{sp:Nat->Bool}{held:Bool}{v:Value}{x:DataW H}{p:List MemPlace}
 (hv:Value.okWide Tryz.prog W .any base 26 v)(h:DataW.Trod enc Tryz.prog W bs sp held 26 v x p):
 ∃p q g h,v=GX p q g h/\In p/\In q/\In g/\In h:=by
 obtain⟨cs,rfl,hsz,_⟩: ∃cs,v= .agg cs/\cs.size=Tryz.prog.cellsOf 26/\Row.okWide Tryz.prog W .any base 26 cs:=by
  simpa [Value.okWide,Tryz.underlying26] using hv
 obtain⟨fuel,hf⟩:=h
 obtain⟨n,f,a,b,hn,hf',ha,hb,e⟩:=groupCells hf
 refine⟨n,f,a,b,?_,hn,hf',ha,hb⟩
 have e:cs.toList=GE n f a b:=by simpa [Value.cells] using e
 have:cs=(GE n f a b).toArray:=by rw[<-e]
 rw[this]
theorem flC_at: ∀(cs:List (Int×Int×Int)) (j:Nat) (v:Value),(flC cs)[j]?=some v->j/12<cs.length/\(CE (cat cs (j/12)).1 (cat cs (j/12)).2.1 (cat cs (j/12)).2.2)[j%12]?=some v
 | [],j,v,h=>by simp[flC] at h
 | n::r,j,v,h=>by
  rw[flC] at h
  by_cases hj:j<12
  ·rw[List.getElem?_append_left (by show j<12;exact hj)] at h
   rw[show j/12=0 by omega,show j%12=j by omega]
   exact⟨by simp,by simpa [cat] using h⟩
  ·rw[List.getElem?_append_right (by show 12<=j;omega)] at h
   have h:(flC r)[j -12]?=some v:=h
   have:=flC_at r (j -12) v h
   rw[show j/12=(j -12)/12+1 by omega,show j%12=(j -12)%12 by omega]
   exact⟨by simpa using this.1,by simpa [cat] using this.2⟩
theorem SCt.of{w:World}{g o:Nat}{cs:List (Int×Int×Int)}(h: ∀i,i<cs.length-> ∀c v,(CE (cat cs i).1 (cat cs i).2.1 (cat cs i).2.2)[c]?=some v->w.cell? ⟨g,o+(i*12+c),none⟩=some v):SCt w g o cs:=fun j v hj=>by
 obtain⟨h1,h2⟩:=flC_at cs j v hj
 have:=h _ h1 _ v h2
 rwa [show j/12*12+j%12=j by omega] at this
end
section
open Go.RowKit
abbrev L0g:List Value:=[.int .u64 0,.int .u64 0,.int .u64 0,.int .u64 0,.int .u64 0,.int .u64 0,.int .u64 0,.int .u64 0,.int .u64 0,.int .u64 0,.int .u64 0,.int .u64 0,.int .u64 0,.int .u64 0,.int .u64 0,.int .u64 0]
theorem al_api_Group(w:World):(Instr.alloc 26 true (.tuple #[])).run Tryz.prog w= .ok (.pointer (some ⟨w.heap.size,0,none⟩)) (w.alloc (.cells L0g.toArray 26)):=by kernel_rfl
theorem Z1:(Tryz.prog.info? 26).map (·.size)=some 16:=by kernel_rfl
theorem fdG0(b:Nat)(w:World):(Instr.fieldAt 26 (.pointer (some ⟨b,0,none⟩)) 0).run Tryz.prog w= .ok (.pointer (some ⟨b,0,none⟩)) w:=by go_simp
theorem fdG1(b:Nat)(w:World):(Instr.fieldAt 26 (.pointer (some ⟨b,0,none⟩)) 1).run Tryz.prog w= .ok (.pointer (some ⟨b,4,none⟩)) w:=by go_simp
theorem fdG2(b:Nat)(w:World):(Instr.fieldAt 26 (.pointer (some ⟨b,0,none⟩)) 2).run Tryz.prog w= .ok (.pointer (some ⟨b,8,none⟩)) w:=by go_simp
theorem fdG3(b:Nat)(w:World):(Instr.fieldAt 26 (.pointer (some ⟨b,0,none⟩)) 3).run Tryz.prog w= .ok (.pointer (some ⟨b,12,none⟩)) w:=by go_simp
theorem bdG(p q g h:Int)(w:World):(Instr.build 26 [(0,NV p),(1,NV q),(2,NV g),(3,NV h)].toArray).run Tryz.prog w= .ok (GX p q g h) w:=by kernel_rfl
def gnB(a p q:Int):Bool:=decide (1<a/\a<p -1/\a^q.toNat%p=1)
end
section
theorem odd_sum(t s:Int): ∀k:Nat,(t+s)∣t^(2*k+1)+s^(2*k+1)
 | 0=>⟨1,by rw[Int.mul_one,show 2*0+1=0+1 from rfl,Int.pow_succ,Int.pow_succ,Int.pow_zero,Int.pow_zero,Int.one_mul,Int.one_mul]⟩
 | k+1=>by
  obtain⟨c,hc⟩:=odd_sum t s k
  generalize t^(2*k+1)=x at hc
  have e1:t^(2*(k+1)+1)=t^(2*k+1)*(t*t):=by rw[show 2*(k+1)+1=(2*k+1)+1+1 by omega,Int.pow_succ,Int.pow_succ,Int.mul_assoc]
  have e2:s^(2*(k+1)+1)=s^(2*k+1)*(s*s):=by rw[show 2*(k+1)+1=(2*k+1)+1+1 by omega,Int.pow_succ,Int.pow_succ,Int.mul_assoc]
  obtain⟨c',hc'⟩:=odd_sum t s k
  rw[e1,e2]
  clear e1 e2 hc c
  generalize t^(2*k+1)=x at *
  generalize s^(2*k+1)=y at *
  exact⟨t*t*c' -y*(t -s),by grind⟩
theorem sq_pow{p q a:Int}(hp:Pr p.toNat)(h2:p=2*q+1)(hq:0<=q)(ha:2<=a)(hs:a*a<p -1):(a*a)^q.toNat%p=1:=by
 have hlt:a<p:=by
  have:a*2<=a*a:=Int.mul_le_mul_of_nonneg_left ha (by omega)
  omega
 have hb: ¬p.toNat∣a.toNat:=fun h=>by have:=Nat.le_of_dvd (by omega) h;omega
 have hf:=hp.fermat hb
 have e1:p.toNat -1=2*q.toNat:=by omega
 rw[e1,Nat.pow_mul] at hf
 have e2:((a.toNat^2:Nat):Int)=a*a:=by
  rw[Int.natCast_pow,Int.toNat_of_nonneg (by omega),Int.pow_succ,Int.pow_succ,Int.pow_zero,Int.one_mul]
 have hf2:(((a.toNat^2)^q.toNat%p.toNat:Nat):Int)=1:=by rw[hf];rfl
 rw[Int.natCast_emod,Int.natCast_pow,e2,Int.toNat_of_nonneg (by omega)] at hf2
 exact hf2
theorem gn_neg{p q a:Int}(hp:Pr p.toNat)(h2:p=2*q+1)(hq:0<=q)(ho:q%2=1)(ha:2<=a)(hs:a*a<p -1):gnB (p -a*a) p q=false:=by
 have h1:=sq_pow hp h2 hq ha hs
 unfold gnB
 refine decide_eq_false fun h=>?_
 have h3:=h.2.2
 have hk:q.toNat=2*(q.toNat/2)+1:=by omega
 have hd:=odd_sum (p -a*a) (a*a) (q.toNat/2)
 rw[<-hk,Int.sub_add_cancel] at hd
 have hz:=Int.emod_eq_zero_of_dvd hd
 rw[Int.add_emod,h1,h3] at hz
 have:(1+1:Int)%p=2:=Int.emod_eq_of_lt (by omega) (by
  have:a*2<=a*a:=Int.mul_le_mul_of_nonneg_left ha (by omega)
  omega)
 omega
end
section
open Go.RowKit
def xt(x:Nat):Nat:=if 256<=2*x then (2*x)^^^283 else 2*x
def tmL:Nat->Nat->Nat->Nat->Nat
 | 0,o,_,_=>o
 | n+1,o,x,y=>tmL n (if y%2=1 then o^^^x else o) (xt x) (y/2)
def tm(a b:Nat):Nat:=tmL 8 0 a b
def sbT:List Nat:=[99,124,119,123,242,107,111,197,48,1,103,43,254,215,171,118,202,130,201,125,250,89,71,240,173,212,162,175,156,164,114,192,183,253,147,38,54,63,247,204,52,165,229,241,113,216,49,21,4,199,35,195,24,150,5,154,7,18,128,226,235,39,178,117,9,131,44,26,27,110,90,160,82,59,214,179,41,227,47,132,83,209,0,237,32,252,177,91,106,203,190,57,74,76,88,207,208,239,170,251,67,77,51,133,69,249,2,127,80,60,159,168,81,163,64,143,146,157,56,245,188,182,218,33,16,255,243,210,205,12,19,236,95,151,68,23,196,167,126,61,100,93,25,115,96,129,79,220,34,42,144,136,70,238,184,20,222,94,11,219,224,50,58,10,73,6,36,92,194,211,172,98,145,149,228,121,231,200,55,109,141,213,78,169,108,86,244,234,101,122,174,8,186,120,37,46,28,166,180,198,232,221,116,31,75,189,139,138,112,62,181,102,72,3,246,14,97,53,87,185,134,193,29,158,225,248,152,17,105,217,142,148,155,30,135,233,206,85,40,223,140,161,137,13,191,230,66,104,65,153,45,15,176,84,187,22]
structure BY(n:Nat)(l:List Nat):Prop where
 len:l.length=n
 lt: ∀j,l.getD j 0<256
theorem gset(l:List Nat)(i j x:Nat):(l.set i x).getD j 0=if i=j/\j<l.length then x else l.getD j 0:=by
 rw[List.getD_eq_getElem?_getD,List.getD_eq_getElem?_getD,List.getElem?_set]
 by_cases h:i=j
 ·subst h
  by_cases h2:i<l.length
  ·simp[h2]
  ·simp[h2]
 ·simp[h]
theorem BY.set{n:Nat}{l:List Nat}(h:BY n l)(i x:Nat)(hx:x<256):BY n (l.set i x) where
 len:=by rw[List.length_set];exact h.len
 lt j:=by
  rw[gset];split
  ·exact hx
  ·exact h.lt j
def rcn:Nat->Nat
 | 0=>1
 | i+1=>tm (rcn i) 2
def lsK(w:List Nat)(n p k:Nat):Nat:=
 if n%4=0 then sbT.getD (w.getD (4*n+12+(k+1)%4) 0) 0^^^(if k=0 then p else 0) else w.getD (4*n+12+k) 0
def kw(key:List Nat):Nat->List Nat
 | 0=>key
 | n+1=>kw key n++[(kw key n).getD (4*n) 0^^^lsK (kw key n) n (rcn ((n+3)/4)) 0,(kw key n).getD (4*n+1) 0^^^lsK (kw key n) n (rcn ((n+3)/4)) 1,
  (kw key n).getD (4*n+2) 0^^^lsK (kw key n) n (rcn ((n+3)/4)) 2,(kw key n).getD (4*n+3) 0^^^lsK (kw key n) n (rcn ((n+3)/4)) 3]
theorem gapp1{a b:List Nat}{j:Nat}(h:j<a.length):(a++b).getD j 0=a.getD j 0:=by
 rw[List.getD_eq_getElem?_getD,List.getD_eq_getElem?_getD,List.getElem?_append_left h]
theorem gapp2{a b:List Nat}{j:Nat}(h:a.length<=j):(a++b).getD j 0=b.getD (j -a.length) 0:=by
 rw[List.getD_eq_getElem?_getD,List.getD_eq_getElem?_getD,List.getElem?_append_right h]
theorem BY.app{n m:Nat}{a b:List Nat}(ha:BY n a)(hb:BY m b):BY (n+m) (a++b):=⟨by rw[List.length_append,ha.len,hb.len],fun j=>by
 by_cases h:j<a.length
 ·rw[gapp1 h];exact ha.lt j
 ·rw[gapp2 (by omega)];exact hb.lt _⟩
theorem gtake(l:List Nat)(n:Nat){j:Nat}(h:j<n):(l.take n).getD j 0=l.getD j 0:=by
 rw[List.getD_eq_getElem?_getD,List.getD_eq_getElem?_getD,List.getElem?_take_of_lt h]
theorem gdrop(l:List Nat)(n j:Nat):(l.drop n).getD j 0=l.getD (n+j) 0:=by
 rw[List.getD_eq_getElem?_getD,List.getD_eq_getElem?_getD,List.getElem?_drop]
theorem gout{l:List Nat}{j:Nat}(h:l.length<=j):l.getD j 0=0:=by
 rw[List.getD_eq_getElem?_getD,List.getElem?_eq_none h];rfl
theorem BY.take{m:Nat}{l:List Nat}(h:BY m l)(n:Nat)(hn:n<=m):BY n (l.take n):=⟨by rw[List.length_take,h.len];omega,fun j=>by
 by_cases hj:j<n
 ·rw[gtake l n hj];exact h.lt j
 ·rw[gout (by rw[List.length_take];omega)];decide⟩
theorem BY.drop{m:Nat}{l:List Nat}(h:BY m l)(n:Nat):BY (m -n) (l.drop n):=⟨by rw[List.length_drop,h.len],fun j=>by rw[gdrop];exact h.lt _⟩
abbrev Fld:=Nat×List Nat
def putF:List Fld->List Nat
 | []=>[]
 | (t,b)::l=>t::b.length/256::b.length%256::(b++putF l)
theorem two(n:Nat):256*(n/256)+n%256=n:=by omega
def num8:List Nat->Nat:=List.foldl (fun n b=>256*n+b) 0
end
section
theorem pow_modG(n m:Int)(k:Nat):(n%m)^k%m=n^k%m:=by
 induction k with
 | zero=>rw[Int.pow_zero,Int.pow_zero]
 | succ k ih=>rw[Int.pow_succ,Int.pow_succ,Int.mul_emod,ih,Int.emod_emod,<-Int.mul_emod]
theorem mul_powG(a b:Int)(k:Nat):(a*b)^k=a^k*b^k:=by
 induction k with
 | zero=>rw[Int.pow_zero,Int.pow_zero,Int.pow_zero,Int.one_mul]
 | succ k ih=>rw[Int.pow_succ,Int.pow_succ,Int.pow_succ,ih];grind
def gOk(p q:Int):Prop:=p=2*q+1/\7<=p
def Mb(p q x:Int):Prop:=0<x/\x<p/\x^q.toNat%p=1
instance (p q:Int):Decidable (gOk p q):=by unfold gOk;infer_instance
instance (p q x:Int):Decidable (Mb p q x):=by unfold Mb;infer_instance
theorem gOk.q3{p q:Int}(h:gOk p q):3<=q:=by have:=h.1;have:=h.2;omega
theorem one_mod{p:Int}(h:1<p):(1:Int)%p=1:=Int.emod_eq_of_lt (by omega) h
theorem Mb.nz{p q x:Int}(hg:gOk p q)(h:x^q.toNat%p=1):x%p≠0:=fun e=>by
 have h3:=hg.q3
 have h2:(x%p)^q.toNat%p=1:=by rw[pow_modG];exact h
 obtain⟨k,hk⟩: ∃k,q.toNat=k+1:=⟨q.toNat -1,by omega⟩
 rw[e,hk,Int.pow_succ,Int.mul_zero,Int.zero_emod] at h2
 cases h2
theorem Mb.of{p q x:Int}(hg:gOk p q)(h:x^q.toNat%p=1):Mb p q (x%p):=by
 have h7:=hg.2
 have h1:=Int.emod_nonneg x (show p≠0 by omega)
 have h2:=Int.emod_lt_of_pos x (show 0<p by omega)
 have h3:=Mb.nz hg h
 exact⟨by omega,h2,by rw[pow_modG];exact h⟩
theorem Mb.mul{p q x y:Int}(hg:gOk p q)(hx:Mb p q x)(hy:Mb p q y):Mb p q (x*y%p):=by
 refine Mb.of hg ?_
 rw[mul_powG,Int.mul_emod,hx.2.2,hy.2.2,Int.one_mul]
 exact one_mod (by have:=hg.2;omega)
theorem IsInv.gcd{a m x:Int}(h:IsInv a m x)(ha:0<=a)(hm:0<m):gI m a=1:=by
 obtain⟨c,hc⟩:=h.2.2
 have h0:=h.1
 have hd1:((Nat.gcd m.toNat a.toNat:Nat):Int)∣m:=by
  have:=Int.ofNat_dvd.2 (Nat.gcd_dvd_left m.toNat a.toNat)
  rwa [Int.toNat_of_nonneg (by omega)] at this
 have hd2:((Nat.gcd m.toNat a.toNat:Nat):Int)∣a:=by
  have:=Int.ofNat_dvd.2 (Nat.gcd_dvd_right m.toNat a.toNat)
  rwa [Int.toNat_of_nonneg ha] at this
 have hd:((Nat.gcd m.toNat a.toNat:Nat):Int)∣1:=by
  have e:(1:Int)=x*a -m*c:=by omega
  rw[e]
  exact Int.dvd_sub (Int.dvd_mul_of_dvd_right hd2) (Int.dvd_mul_of_dvd_left hd1)
 unfold gI
 have:=Int.le_of_dvd (by decide) hd
 have hp:0<Nat.gcd m.toNat a.toNat:=Nat.gcd_pos_of_pos_left _ (by omega)
 omega
end
section
open Go.RowKit
theorem nu_from: ∀(b:List Nat) (n:Nat),b.foldl (fun n b=>256*n+b) n=n*256^b.length+num8 b
 | [],n=>by simp[num8]
 | x::b,n=>by
  have e1:num8 (x::b)=(256*0+x)*256^b.length+num8 b:=nu_from b (256*0+x)
  rw[List.foldl_cons,nu_from b,e1,List.length_cons,Nat.pow_succ];grind
theorem nu_app(a b:List Nat):num8 (a++b)=num8 a*256^b.length+num8 b:=by
 have h:=nu_from b (num8 a)
 unfold num8 at h⊢
 rw[List.foldl_append];exact h
theorem nu_step{bs:List Nat}{i:Nat}(h:i<bs.length):num8 (bs.take (i+1))=256*num8 (bs.take i)+bs.getD i 0:=by
 have e:bs.getD i 0=bs[i]:=by rw[List.getD_eq_getElem?_getD,List.getElem?_eq_getElem h];rfl
 rw[List.take_succ_eq_append_getElem h,nu_app,e]
 simp[num8];omega
theorem nu_lt{bs:List Nat}(hx: ∀i,bs.getD i 0<256): ∀i,num8 (bs.take i)<256^i
 | 0=>by simp[num8]
 | i+1=>by
  have h1:=nu_lt hx i
  have h2:=hx i
  have h3:256^(i+1)=256*256^i:=by rw[Nat.pow_succ,Nat.mul_comm]
  by_cases h:i<bs.length
  ·rw[nu_step h];omega
  ·rw[List.take_of_length_le (by omega)] at h1⊢;omega
def cntL(i c:Nat):Nat:=min 8 (i -8*(7 -c))
def lmb(d:List Nat)(i c:Nat):Nat:=num8 ((d.drop (8*(7 -c))).take (cntL i c))*256^(8 -cntL i c)
def lmbs(d:List Nat)(i:Nat):List Nat:=(List.range 8).map (lmb d i)
theorem U4(d:List Nat)(i:Nat):(lmbs d i).length=8:=by simp[lmbs]
theorem lmbs_get(d:List Nat)(i c:Nat)(h:c<8):(lmbs d i).getD c 0=lmb d i c:=by
 unfold lmbs
 rw[List.getD_eq_getElem?_getD,List.getElem?_map,List.getElem?_range h];rfl
theorem cnt_here{i:Nat}(h:i<64):cntL i (7 -i/8)=i%8/\cntL (i+1) (7 -i/8)=i%8+1:=by unfold cntL;omega
theorem cnt_else{i c:Nat}(h:i<64)(hc:c<8)(hn:c≠7 -i/8):cntL (i+1) c=cntL i c:=by unfold cntL;omega
theorem dr_getD(d:List Nat)(a j:Nat):(d.drop a).getD j 0=d.getD (a+j) 0:=by simp[List.getD_eq_getElem?_getD,List.getElem?_drop]
theorem lmb_here{d:List Nat}{i:Nat}(hd:d.length=64)(h:i<64):lmb d (i+1) (7 -i/8)=lmb d i (7 -i/8)+d.getD i 0*256^((63 -i)%8):=by
 obtain⟨e1,e2⟩:=cnt_here h
 unfold lmb
 rw[e1,e2]
 have hl:i%8<(d.drop (8*(7 -(7 -i/8)))).length:=by rw[List.length_drop];omega
 rw[nu_step hl,dr_getD,show 8*(7 -(7 -i/8))+i%8=i by omega,show 8 -i%8=(8 -(i%8+1))+1 by omega,show (63 -i)%8=8 -(i%8+1) by omega,Nat.pow_succ]
 grind
theorem lmbs_step{d:List Nat}{i:Nat}(hd:d.length=64)(h:i<64):lmbs d (i+1)=(lmbs d i).set (7 -i/8) (lmb d i (7 -i/8)+d.getD i 0*256^((63 -i)%8)):=by
 refine List.ext_getElem (by rw[List.length_set,U4,U4]) fun c h1 h2=>?_
 rw[U4] at h1
 rw[List.getElem_set]
 have g: ∀k (hk:c<(lmbs d k).length),(lmbs d k)[c]=lmb d k c:=fun k hk=>by
  have:=lmbs_get d k c h1
  rwa [List.getD_eq_getElem?_getD,List.getElem?_eq_getElem hk] at this
 rw[g]
 split
 ·rename_i e;rw[<-e];exact lmb_here hd h
 ·rename_i e
  rw[g];unfold lmb;rw[cnt_else h h1 (fun x=>e x.symm)]
theorem lmb_lt{d:List Nat}(hx: ∀i,d.getD i 0<256)(i c:Nat):lmb d i c<18446744073709551616:=by
 unfold lmb
 have h:=nu_lt (bs:=d.drop (8*(7 -c))) (fun j=>by rw[dr_getD];exact hx _) (cntL i c)
 have hc:cntL i c<=8:=by unfold cntL;omega
 have e:256^cntL i c*256^(8 -cntL i c)=18446744073709551616:=by rw[<-Nat.pow_add,show cntL i c+(8 -cntL i c)=8 by omega]
 have:=Nat.mul_lt_mul_of_pos_right h (show 0<256^(8 -cntL i c) from Nat.pow_pos (by decide))
 omega
theorem lmb_0(d:List Nat)(c:Nat):lmb d 0 c=0:=by
 have e:cntL 0 c=0:=by unfold cntL;omega
 unfold lmb;rw[e,List.take_zero,show num8 []=0 from rfl,Nat.zero_mul]
theorem lmbs_0(d:List Nat):lmbs d 0=[0,0,0,0,0,0,0,0]:=by
 have e:lmb d 0=fun _=>0:=funext (lmb_0 d)
 unfold lmbs;rw[e];rfl
theorem Us(d:List Nat)(c:Nat)(h:c<8):lmb d 64 c=num8 ((d.drop (8*(7 -c))).take 8):=by
 have e:cntL 64 c=8:=by unfold cntL;omega
 unfold lmb;rw[e];simp
theorem Ur{d:List Nat}{a:Nat}(h:8+a<=d.length):num8 (d.drop a)=num8 ((d.drop a).take 8)*256^(d.length -a -8)+num8 (d.drop (a+8)):=by
 have:=nu_app ((d.drop a).take 8) ((d.drop a).drop 8)
 rw[List.take_append_drop,List.drop_drop,List.length_drop] at this
 rw[this];try congr 3
theorem lmb_sum{d:List Nat}(hd:d.length=64):(num8 d:Int)=V (lmb d 64 0) (lmb d 64 1) (lmb d 64 2) (lmb d 64 3)+V (lmb d 64 4) (lmb d 64 5) (lmb d 64 6) (lmb d 64 7)*115792089237316195423570985008687907853269984665640564039457584007913129639936:=by
 have h0:=Ur (d:=d) (a:=0) (by omega)
 have h1:=Ur (d:=d) (a:=8) (by omega)
 have h2:=Ur (d:=d) (a:=16) (by omega)
 have h3:=Ur (d:=d) (a:=24) (by omega)
 have h4:=Ur (d:=d) (a:=32) (by omega)
 have h5:=Ur (d:=d) (a:=40) (by omega)
 have h6:=Ur (d:=d) (a:=48) (by omega)
 have h7:=Ur (d:=d) (a:=56) (by omega)
 rw[hd] at h0 h1 h2 h3 h4 h5 h6 h7
 rw[show d.drop (56+8)=[] from List.drop_eq_nil_of_le (by omega)] at h7
 simp only[List.drop_zero] at h0
 rw[Us d 0 (by omega),Us d 1 (by omega),Us d 2 (by omega),Us d 3 (by omega),Us d 4 (by omega),Us d 5 (by omega),Us d 6 (by omega),Us d 7 (by omega)]
 simp only[Nat.reduceSub,Nat.reduceMul,Nat.reducePow,Nat.reduceAdd,List.drop_zero] at *
 have e0:num8 []=0:=rfl
 unfold V
 omega
theorem byp_k(k j:Nat)(hk:k<64)(hj:j<8):byp (k:Int) 0 0 0 (31 -(24+j))=(([0,0,0,0,0,0,0,k].getD j 0:Nat):Int):=by
 match j,hj with
 | 7,_=>show ((k:Int)/1)%256=_;simp;omega
 | 6,_=>show ((k:Int)/2^(1*8))%256=0;omega
 | 5,_=>show ((k:Int)/2^(2*8))%256=0;omega
 | 4,_=>show ((k:Int)/2^(3*8))%256=0;omega
 | 3,_=>show ((k:Int)/2^(4*8))%256=0;omega
 | 2,_=>show ((k:Int)/2^(5*8))%256=0;omega
 | 1,_=>show ((k:Int)/2^(6*8))%256=0;omega
 | 0,_=>show ((k:Int)/2^(7*8))%256=0;omega
theorem cCounted(k:Nat)(bs:List Nat)(v:Value)(w:World)(hk:k<64)(hin:IN w w.heap.size v bs)(hl:bs.length<=900):
 Calls Tryz.prog 77 #[.int .u64 (k:Int),v] w fun e u=> ∃y,e= .returned y/\IN u u.heap.size y ([0,0,0,0,0,0,0,k]++bs)/\Bw w u:=by
 have hO:=of_any (k:Int) w
 have w0:W64 0:=by unfold W64;omega
 have hY:Hid (∀u,_):=fun u=>Bytes_any (k:Int) 0 0 0 u (by unfold W64;omega) w0 w0 w0
 have hin2:Hid (∀u,Bw w u->IN u u.heap.size v bs):=fun u hB=>(IN.below hin hB).mono hB.size
 obtain⟨sl,cap,gb,go,rfl,_⟩:=hin
 obtain⟨n,en⟩: ∃n,bs.length=n:=⟨_,rfl⟩
 rw[en] at hin2
 rw[en]
 have en:Hid _:=en
 have hfin:Hid (∀(u:World) (g:Nat),CB u g 32 (k:Int) 0 0 0->g<u.heap.size->Bw w u->Calls Tryz.prog 109 #[.slice (some ⟨u.heap.size,0,none⟩) 2 2] (u.alloc (.cells #[.slice (some ⟨g,24,none⟩) 8 8,.slice sl n cap] 36)) fun e u'=> ∃y,e= .returned y/\PG u.heap.size 1 (8+n) (U8 ([0,0,0,0,0,0,0,k]++bs)) u' y/\Bw u u'):=fun u g hcb hg hB=>by
  have hBa:Bw u (u.alloc (.cells #[.slice (some ⟨g,24,none⟩) 8 8,.slice sl n cap] 36)):=Z0 (Z5 u) _
  obtain⟨ua,eu⟩: ∃x,u.alloc (.cells #[.slice (some ⟨g,24,none⟩) 8 8,.slice sl n cap] 36)=x:=⟨_,rfl⟩
  have c1:ua.cell? ⟨u.heap.size,0,none⟩=some (.slice (some ⟨g,24,none⟩) 8 8):=by rw[<-eu];simp
  have c2:ua.cell? ⟨u.heap.size,1,none⟩=some (.slice sl n cap):=by rw[<-eu];simp
  have hs:ua.heap.size=u.heap.size+1:=by rw[<-eu];simp
  rw[eu] at hBa⊢
  clear eu
  refine(cConcat2 u.heap.size 8 n 8 cap _ sl [0,0,0,0,0,0,0,k] bs ua c1 c2 (by omega) ⟨_,8,g,24,rfl,by simp,.inr rfl,by omega,fun j hj=>?_⟩ (hin2.out ua (Zt hB hBa)) rfl en.out (by omega) (by omega)).mono ?_
  ·have hj:j<8:=by simpa using hj
   have:=(hcb (24+j) (by omega)).1
   rw[if_pos (by omega),byp_k k j hk hj] at this
   exact(hBa.cell (p:=⟨g,24+j,none⟩) hg).trans this
  ·rintro e u' ⟨y,rfl,h1,h2⟩
   exact⟨y,rfl,h1.mono (by omega),Zt hBa h2⟩
 go_enter Tryz.func77,Tryz.ntmps77
 go_wp2_with (first
  | (go_at_call 55;refine hO.mono ?_;clear hO;rintro e ua ⟨rfl,hBa⟩;replace hY:=hY.out ua)
  | (go_at_call 108;refine hY.mono ?_;clear hY;rintro e ub ⟨g,rfl,hcb,hg1,hg2,hBb⟩;replace hfin:=hfin.out ub g hcb hg2 (Zt hBa hBb);clear hcb)
  | (go_at_call 109;refine hfin.mono ?_;clear hfin;rintro e uc ⟨y,rfl,hpg,hBc⟩))
 have hp0:=hpg
 obtain⟨b,c,z,rfl,-⟩:=hp0
 have hn:8+n=([0,0,0,0,0,0,0,k]++bs).length:=by rw[List.length_append,en.out];rfl
 refine bodyPost_ret (v:= .slice (some ⟨b,0,none⟩) (8+n) c) (by simp[results,Tryz.results77,go_sem]) rfl ⟨_,rfl,?_,Zt (Zt hBa hBb) hBc⟩
 rw[hn] at hpg⊢
 exact PG_in hpg
def LI(d:List Nat):List Int:=d.map fun(x:Nat)=>(x:Int)
theorem LI_len(d:List Nat):(LI d).length=d.length:=List.length_map _
theorem LI_get(d:List Nat)(j:Nat):(LI d).getD j 0=((d.getD j 0:Nat):Int):=by
 unfold LI
 rw[List.getD_eq_getElem?_getD,List.getD_eq_getElem?_getD,List.getElem?_map]
 cases d[j]?<;>rfl
theorem SB_L{u:World}{g o:Nat}{d:List Nat}(h:SB u g o d):SBL u g o (LI d):=fun j hj=>by
 rw[LI_len] at hj
 rw[h j hj,LI_get]
theorem B8_L{d:List Nat}(h: ∀x∈d,x<256):Bytes8 (LI d):=fun x hx=>by
 obtain⟨y,hy,rfl⟩:=List.mem_map.1 hx
 have:=h y hy
 omega
theorem nRead(d:List Nat)(g o c:Nat)(w:World)(hd:d.length=32)(hb: ∀x∈d,x<256)(hg:g<w.heap.size)(hS:SB w g o d):
 CC 82 #[.slice (some ⟨g,o,none⟩) 32 c] w (.tuple #[NV (V (Tk (LI d) 0 32) (Tk (LI d) 1 32) (Tk (LI d) 2 32) (Tk (LI d) 3 32)),.int .i64 0]):=by
 have hl:(LI d).length=32:=by rw[LI_len,hd]
 have hx:=B8_L hb
 have:=Read_any g o c (LI d) w (by omega) hx hg (SB_L hS)
 rw[hl] at this
 rw[NV_V (Tk_W _ hx _ _) (Tk_W _ hx _ _) (Tk_W _ hx _ _) (Tk_W _ hx _ _)]
 exact this
theorem Tk_num(d:List Nat)(hd:d.length=32): ∀k,k<=32->V (Tk (LI d) 0 k) (Tk (LI d) 1 k) (Tk (LI d) 2 k) (Tk (LI d) 3 k)=((num8 (d.drop (32 -k)):Nat):Int)
 | 0,_=>by rw[List.drop_of_length_le (by omega)];rfl
 | k+1,h=>by
  have ih:=Tk_num d hd k (by omega)
  have hb:bv (LI d) k=((d.getD (31 -k) 0:Nat):Int):=by unfold bv;rw[LI_len,hd,LI_get]
  have e1:d.drop (32 -(k+1))=[d.getD (31 -k) 0]++d.drop (32 -k):=by
   rw[show 32 -(k+1)=31 -k by omega,List.drop_eq_getElem_cons (by omega),List.getD_eq_getElem?_getD,List.getElem?_eq_getElem (by omega),show 31 -k+1=32 -k by omega];rfl
  rw[e1,nu_app,List.length_drop,hd,show 32 -(32 -k)=k by omega]
  have e2:num8 [d.getD (31 -k) 0]=d.getD (31 -k) 0:=by simp[num8]
  rw[e2]
  generalize d.getD (31 -k) 0=y at hb
  generalize num8 (d.drop (32 -k))=n at ih
  have e3:(((y*256^k+n:Nat)):Int)=(y:Int)*256^k+(n:Int):=by rw[Int.natCast_add,Int.natCast_mul,Int.natCast_pow];rfl
  rw[e3,<-ih]
  have hk:k<32:=by omega
  have s: ∀q,Tk (LI d) q (k+1)=Tk (LI d) q k+if k/8=q then (y:Int)*2^(k%8*8) else 0:=fun q=>by rw[Tk,hb]
  rw[s,s,s,s]
  clear s hb e3 ih e1 e2 h
  generalize Tk (LI d) 0 k=t0
  generalize Tk (LI d) 1 k=t1
  generalize Tk (LI d) 2 k=t2
  generalize Tk (LI d) 3 k=t3
  have hc: ∃q r,q<4/\r<8/\k=8*q+r:=⟨k/8,k%8,by omega,by omega,by omega⟩
  obtain⟨q,r,hq,hr,rfl⟩:=hc
  rw[show (8*q+r)/8=q by omega,show (8*q+r)%8=r by omega]
  unfold V
  clear hk
  match q,hq,r,hr with
  | 0,_,0,_ | 0,_,1,_ | 0,_,2,_ | 0,_,3,_ | 0,_,4,_ | 0,_,5,_ | 0,_,6,_ | 0,_,7,_=>simp<;>omega
  | 1,_,0,_ | 1,_,1,_ | 1,_,2,_ | 1,_,3,_ | 1,_,4,_ | 1,_,5,_ | 1,_,6,_ | 1,_,7,_=>simp<;>omega
  | 2,_,0,_ | 2,_,1,_ | 2,_,2,_ | 2,_,3,_ | 2,_,4,_ | 2,_,5,_ | 2,_,6,_ | 2,_,7,_=>simp<;>omega
  | 3,_,0,_ | 3,_,1,_ | 3,_,2,_ | 3,_,3,_ | 3,_,4,_ | 3,_,5,_ | 3,_,6,_ | 3,_,7,_=>simp<;>omega
theorem cReadN(d:List Nat)(g o c:Nat)(w:World)(hd:d.length=32)(hb: ∀x∈d,x<256)(hg:g<w.heap.size)(hS:SB w g o d):
 CC 82 #[.slice (some ⟨g,o,none⟩) 32 c] w (.tuple #[NV (num8 d:Nat),.int .i64 0]):=by
 have:=nRead d g o c w hd hb hg hS
 rw[Tk_num d hd 32 (by omega),Nat.sub_self,List.drop_zero] at this
 exact this
theorem num_lt(d:List Nat)(hd:d.length=32)(hb: ∀x∈d,x<256):In (num8 d:Nat):=by
 have hx:=B8_L hb
 have:=Tk_num d hd 32 (by omega)
 rw[Nat.sub_self,List.drop_zero] at this
 rw[<-this]
 exact In_V (Tk_W _ hx _ _) (Tk_W _ hx _ _) (Tk_W _ hx _ _) (Tk_W _ hx _ _)
theorem WV_cat(lo hi:Int)(hl:In lo)(hh:In hi):WV (lo+hi*115792089237316195423570985008687907853269984665640564039457584007913129639936)=A8 (D0 lo) (D1 lo) (D2 lo) (D3 lo) (D0 hi) (D1 hi) (D2 hi) (D3 hi):=by
 have h0:=hl.1
 have h1:=hl.2
 have e4:D4 (lo+hi*115792089237316195423570985008687907853269984665640564039457584007913129639936)=hi:=by unfold D4;omega
 have e0:D0 (lo+hi*115792089237316195423570985008687907853269984665640564039457584007913129639936)=D0 lo:=by unfold D0;omega
 have e1:D1 (lo+hi*115792089237316195423570985008687907853269984665640564039457584007913129639936)=D1 lo:=by unfold D1;omega
 have e2:D2 (lo+hi*115792089237316195423570985008687907853269984665640564039457584007913129639936)=D2 lo:=by unfold D2;omega
 have e3:D3 (lo+hi*115792089237316195423570985008687907853269984665640564039457584007913129639936)=D3 lo:=by unfold D3;omega
 rw[WV,e4,e0,e1,e2,e3]
theorem U64_setG(l:List Nat)(c z:Nat):U64 (l.set c z)=(U64 l).set c (.int .u64 (z:Int)):=by unfold U64;rw[List.map_set]
theorem xDigest_core(vb:Value)(s:ByteArray)(d:List Nat)(m r:Int)(L:Nat->List Nat)(x:Nat->Nat)(w:World)(hm:In m)(hd:d.length=64)(hdx:Hid (∀i,d.getD i 0<256))
 (hL0:Hid (L 0=[0,0,0,0,0,0,0,0]))(hLl:Hid (∀i,(L i).length=8))(hLs:Hid (∀i,i<64->L (i+1)=(L i).set (7 -i/8) ((L i).getD (7 -i/8) 0+d.getD i 0*256^((63 -i)%8))))(hLt:Hid (∀i c,(L i).getD c 0<18446744073709551616))
 (hD:Hid (∀u,Bw w u->Calls Tryz.prog 79 #[vb,.slice none 0 0,.string s,.int .i64 64] u fun e u'=> ∃v,e= .returned v/\PTX 0 d u' v/\Bw u u'))
 (hR:Hid (∀u,CC 38 #[A8 (((L 64).getD 0 0:Nat):Int) (((L 64).getD 1 0:Nat):Int) (((L 64).getD 2 0:Nat):Int) (((L 64).getD 3 0:Nat):Int) (((L 64).getD 4 0:Nat):Int) (((L 64).getD 5 0:Nat):Int) (((L 64).getD 6 0:Nat):Int) (((L 64).getD 7 0:Nat):Int),NV m] u (.tuple #[NV r,.int .i64 0]))):
 CC 50 #[vb,.string s,NV m] w (NV r):=by
 obtain⟨w0,ew0⟩: ∃x,(w.alloc (.cells (LN m).toArray 24)).alloc (.cells #[.int .u64 0,.int .u64 0,.int .u64 0,.int .u64 0] 24)=x:=⟨_,rfl⟩
 have hB0:Bw w w0:=by rw[<-ew0];exact Z0 (Z0 (Z5 w) _) _
 have hDw:=hD.out w0 hB0
 go_enter Tryz.func50,Tryz.ntmps50
 go_wp2_with (first | (go_at_call 79;refine hDw.mono ?_;clear hDw;rintro e ua ⟨y,rfl,⟨yd,rfl,hyd⟩,hBa⟩;obtain⟨sd,cd,gb,go,rfl,q1,q2,q3,q4⟩:=hyd) | fail)
 have hBwa:Bw w ua:=Zt hB0 hBa
 have hsa:=hBa.size
 have hs0:w0.heap.size=w.heap.size+2:=by rw[<-ew0];simp
 have hm0:ua.cell? ⟨w.heap.size,0,none⟩=some (.int .u64 (D0 m)):=(hBa.cell (p:=⟨w.heap.size,0,none⟩) (by simp[hs0])).trans (by rw[<-ew0];simp)
 have hm1:ua.cell? ⟨w.heap.size,1,none⟩=some (.int .u64 (D1 m)):=(hBa.cell (p:=⟨w.heap.size,1,none⟩) (by simp[hs0])).trans (by rw[<-ew0];simp)
 have hm2:ua.cell? ⟨w.heap.size,2,none⟩=some (.int .u64 (D2 m)):=(hBa.cell (p:=⟨w.heap.size,2,none⟩) (by simp[hs0])).trans (by rw[<-ew0];simp)
 have hm3:ua.cell? ⟨w.heap.size,3,none⟩=some (.int .u64 (D3 m)):=(hBa.cell (p:=⟨w.heap.size,3,none⟩) (by simp[hs0])).trans (by rw[<-ew0];simp)
 have hbr:CV ua (w.heap.size+1) [.int .u64 0,.int .u64 0,.int .u64 0,.int .u64 0]:=by
  have h1:CV w0 (w.heap.size+1) [.int .u64 0,.int .u64 0,.int .u64 0,.int .u64 0]:=by
   rw[<-ew0]
   have:=CV.new (w.alloc (.cells (LN m).toArray 24)) [.int .u64 0,.int .u64 0,.int .u64 0,.int .u64 0] 24
   simpa using this
  exact h1.below hBa (by omega)
 replace hm0:Hid _:=hm0
 replace hm1:Hid _:=hm1
 replace hm2:Hid _:=hm2
 replace hm3:Hid _:=hm3
 replace hbr:Hid (CV ua (w.heap.size+1) [.int .u64 0,.int .u64 0,.int .u64 0,.int .u64 0]):=hbr
 replace q4:Hid (SB ua gb go d):=q4
 replace hs0:Hid _:=hs0
 clear hB0 ew0 hBa
 obtain rfl:sd=some ⟨gb,go,none⟩:=q2.resolve_left (by omega)
 try rw[hd]
 go_loopw [10] (fun s10 wr=> ∃i:Nat,i<=64/\s10= .int .i64 (i:Int)/\Hid (CV wr ua.heap.size (U64 (L i)))/\ua.heap.size<wr.heap.size/\Bw ua wr) (fun s10 _=>64 -(intOf s10).toNat)
 case atStart=>exact⟨0,by omega,rfl,(by rw[hL0.out];exact CV.new _ _ _),by simp,Z0 (Z5 ua) _⟩
 case round=>
  obtain⟨i,hi,rfl,Kv,hlt,HBr⟩:=hrel
  by_cases hj:i<64
  ·have hl2:(i:Int)<64:=by omega
   have hc0:wr.cell? ⟨gb,go+i,none⟩=some (.int .u8 ((d.getD i 0:Nat):Int)):=(HBr.cell (p:=⟨gb,go+i,none⟩) q3).trans (q4.out i (by omega))
   have hy:=hdx.out i
   have hs:=hLs.out i hj
   have hlen:=hLl.out i
   obtain⟨pl,epl⟩: ∃x,63 -i=x:=⟨_,rfl⟩
   obtain⟨c,ec⟩: ∃x,7 -i/8=x:=⟨_,rfl⟩
   have hcp:c=pl/8:=by omega
   have hc8:c<8:=by omega
   have hb1:=hLt.out (i+1) c
   rw[epl,ec] at hs
   rw[hs] at hb1
   have hb2:((L i).set c ((L i).getD c 0+d.getD i 0*256^(pl%8))).getD c 0=(L i).getD c 0+d.getD i 0*256^(pl%8):=by
    rw[List.getD_eq_getElem?_getD,List.getElem?_set_self (by omega)];rfl
   rw[hb2] at hb1
   have hcel:=(Kv.out c _ (Xc (L i) c (by omega))).1
   have hfr:=(Kv.out c _ (Xc (L i) c (by omega))).2
   obtain⟨y,ey⟩: ∃x,d.getD i 0=x:=⟨_,rfl⟩
   obtain⟨a,ea⟩: ∃x,(L i).getD c 0=x:=⟨_,rfl⟩
   rw[ey] at hc0 hy hs hb1
   rw[ea] at hs hb1 hcel
   obtain⟨rm,erm⟩: ∃x,pl%8=x:=⟨_,rfl⟩
   rw[erm] at hs hb1
   have hrm:rm<=7:=by omega
   obtain⟨z,ez⟩: ∃x,y*256^rm=x:=⟨_,rfl⟩
   rw[ez] at hs hb1
   have hK2:Hid (CV (wr.setCell ⟨ua.heap.size,c,none⟩ (.int .u64 ((a+z:Nat):Int))) ua.heap.size (U64 (L (i+1)))):=by
    rw[hs,U64_setG];exact Kv.out.setC c (by rw[Up];omega) _
   have w1:IntKind.i64.wrap (63 -(i:Int))=(pl:Int):=by rw[IntKind.wrap_i64];omega
   have w2:IntKind.u64.wrap (y:Int)=(y:Int):=by rw[IntKind.wrap_u64];omega
   have w3:IntKind.u64.wrap ((a:Int)+(z:Int))=((a+z:Nat):Int):=by rw[IntKind.wrap_u64];omega
   have w4:IntKind.i64.wrap ((i:Int)+1)=((i+1:Nat):Int):=by rw[IntKind.wrap_i64];omega
   have r1:Int.tmod (pl:Int) 8=(rm:Int):=by rw[<-erm];rfl
   have r2:Int.tdiv (pl:Int) 8=(c:Int):=by rw[hcp];rfl
   have w5:IntKind.i64.wrap (rm:Int)=(rm:Int):=by rw[IntKind.wrap_i64];omega
   have w6:IntKind.i64.wrap (c:Int)=(c:Int):=by rw[IntKind.wrap_i64];omega
   have hcz:(c:Int)<8:=by omega
   clear ec epl ey ea erm hs hb2 hcp
   go_wp2_with fail
   obtain⟨wo,rfl⟩: ∃x,x=wr:=⟨_,rfl⟩
   go_loopw [13,12] (fun s13 s12 wx=> ∃k:Nat,k<=rm/\s13= .int .i64 (k:Int)/\s12= .int .u64 ((y*256^k:Nat):Int)/\wx=wo) (fun s13 _ _=>rm -(intOf s13).toNat)
   case atStart=>exact⟨0,by omega,rfl,by simp,rfl⟩
   case round=>
    obtain⟨k,hk,rfl,rfl,hw⟩:=hrel
    have hw:=hw.symm
    subst hw
    by_cases hj2:k<rm
    ·have hl3:(k:Int)<(rm:Int):=by omega
     have hp:256^(k+1)<=256^7:=Nat.pow_le_pow_right (by decide) (by omega)
     have hb3:y*256^(k+1)<18446744073709551616:=by
      have:y*256^(k+1)<=255*256^7:=Nat.mul_le_mul (by omega) hp
      omega
     have e4:y*256^(k+1)=y*256^k*256:=by rw[Nat.pow_succ,Nat.mul_assoc]
     obtain⟨g,eg⟩: ∃x,y*256^k=x:=⟨_,rfl⟩
     rw[eg] at e4
     rw[eg]
     have w7:IntKind.u64.wrap ((g:Int)*256)=((y*256^(k+1):Nat):Int):=by rw[IntKind.wrap_u64,e4];omega
     have w8:IntKind.i64.wrap ((k:Int)+1)=((k+1:Nat):Int):=by rw[IntKind.wrap_i64];omega
     obtain⟨g2,eg2⟩: ∃x,y*256^(k+1)=x:=⟨_,rfl⟩
     rw[eg2] at w7
     clear e4 hb3 eg
     go_wp2
     refine⟨⟨k+1,by omega,by simp,by rw[eg2],by first | rfl | trivial⟩,?_⟩
     simp[intOf];omega
    ·have hl3: ¬(k:Int)<(rm:Int):=by omega
     obtain rfl:k=rm:=by omega
     rw[ez]
     go_wp2
     refine⟨⟨i+1,by omega,by simp,hK2,by simpa using hlt,HBr.setCell (Nat.le_refl _) _⟩,?_⟩
     simp[intOf];omega
  ·obtain rfl:i=64:=by omega
   have hl2: ¬(64:Int)<(64:Int):=by omega
   have hlen:=hLl.out 64
   have c0:=(Kv.out 0 _ (Xc (L 64) 0 (by omega))).1
   have c1:=(Kv.out 1 _ (Xc (L 64) 1 (by omega))).1
   have c2:=(Kv.out 2 _ (Xc (L 64) 2 (by omega))).1
   have c3:=(Kv.out 3 _ (Xc (L 64) 3 (by omega))).1
   have c4:=(Kv.out 4 _ (Xc (L 64) 4 (by omega))).1
   have c5:=(Kv.out 5 _ (Xc (L 64) 5 (by omega))).1
   have c6:=(Kv.out 6 _ (Xc (L 64) 6 (by omega))).1
   have c7:=(Kv.out 7 _ (Xc (L 64) 7 (by omega))).1
   have hs0':=hs0.out
   have m0:wr.cell? ⟨w.heap.size,0,none⟩=some (.int .u64 (D0 m)):=(HBr.cell (p:=⟨w.heap.size,0,none⟩) (by show w.heap.size<ua.heap.size;omega)).trans hm0.out
   have m1:wr.cell? ⟨w.heap.size,1,none⟩=some (.int .u64 (D1 m)):=(HBr.cell (p:=⟨w.heap.size,1,none⟩) (by show w.heap.size<ua.heap.size;omega)).trans hm1.out
   have m2:wr.cell? ⟨w.heap.size,2,none⟩=some (.int .u64 (D2 m)):=(HBr.cell (p:=⟨w.heap.size,2,none⟩) (by show w.heap.size<ua.heap.size;omega)).trans hm2.out
   have m3:wr.cell? ⟨w.heap.size,3,none⟩=some (.int .u64 (D3 m)):=(HBr.cell (p:=⟨w.heap.size,3,none⟩) (by show w.heap.size<ua.heap.size;omega)).trans hm3.out
   have hRw:=hR.out wr
   obtain⟨a0,ea0⟩: ∃x,(L 64).getD 0 0=x:=⟨_,rfl⟩
   obtain⟨a1,ea1⟩: ∃x,(L 64).getD 1 0=x:=⟨_,rfl⟩
   obtain⟨a2,ea2⟩: ∃x,(L 64).getD 2 0=x:=⟨_,rfl⟩
   obtain⟨a3,ea3⟩: ∃x,(L 64).getD 3 0=x:=⟨_,rfl⟩
   obtain⟨a4,ea4⟩: ∃x,(L 64).getD 4 0=x:=⟨_,rfl⟩
   obtain⟨a5,ea5⟩: ∃x,(L 64).getD 5 0=x:=⟨_,rfl⟩
   obtain⟨a6,ea6⟩: ∃x,(L 64).getD 6 0=x:=⟨_,rfl⟩
   obtain⟨a7,ea7⟩: ∃x,(L 64).getD 7 0=x:=⟨_,rfl⟩
   rw[ea0,ea1,ea2,ea3,ea4,ea5,ea6,ea7] at hRw
   rw[ea0] at c0
   rw[ea1] at c1
   rw[ea2] at c2
   rw[ea3] at c3
   rw[ea4] at c4
   rw[ea5] at c5
   rw[ea6] at c6
   rw[ea7] at c7
   clear ea0 ea1 ea2 ea3 ea4 ea5 ea6 ea7
   have hBwr:Bw w wr:=Zt hBwa HBr
   have hbw:Hid (CV wr (w.heap.size+1) [.int .u64 0,.int .u64 0,.int .u64 0,.int .u64 0]):=hbr.out.below HBr (by omega)
   have hsr:=HBr.size
   replace hs0':Hid _:=hs0'
   go_wp2_with (first
    | (go_at_call 38;refine hRw.mono ?_;clear hRw;rintro e ub ⟨rfl,hBb⟩;have hbz:=hbw.out.below hBb (by have:=hs0'.out;omega);have k0:=hbz 0 _ rfl;have k1:=hbz 1 _ rfl;have k2:=hbz 2 _ rfl;have k3:=hbz 3 _ rfl;obtain⟨k0,f0⟩:=k0;obtain⟨k1,f1⟩:=k1;obtain⟨k2,f2⟩:=k2;obtain⟨k3,f3⟩:=k3;replace hbz:Hid _:=hbz;have hlz:w.heap.size+1<ub.heap.size:=(by have:=hs0'.out;have:=hBb.size;omega);have hne:w.heap.size+1≠ub.heap.size:=(by omega))
    | fail)
   have hBf:Bw w ub:=Zt hBwr hBb
   exact bodyPost_ret (v:=NV r) (by simp[results,Tryz.results50,go_sem,k0,k1,k2,k3,hlz,hne]) rfl ⟨rfl,Z0 ((((hBf.setCell (Nat.le_succ _) _).setCell (Nat.le_succ _) _).setCell (Nat.le_succ _) _).setCell (Nat.le_succ _) _) _⟩
def dgN(bs:List Nat)(s:ByteArray)(m:Int):Int:=(num8 (exY (mac [] bs) (txt s) 64):Int)%m
theorem exY64(k tx:List Nat):(exY k tx 64).length=64:=by
 unfold exY
 rw[if_neg (by decide),if_neg (by decide)]
 unfold exN
 rw[List.length_take,Wl];decide
theorem xDigest(bs:List Nat)(v:Value)(s:ByteArray)(m:Int)(w:World)(hm:In m)(hm0:m≠0)(h:IN w w.heap.size v bs)(hb: ∀x∈bs,x<256)(hl:bs.length<=1000)(hs:s.size<=1000):
 CC 50 #[v,.string s,NV m] w (NV (dgN bs s m)):=by
 have hd:(exY (mac [] bs) (txt s) 64).length=64:=exY64 _ _
 have hx: ∀i,(exY (mac [] bs) (txt s) 64).getD i 0<256:=fun i=>by
  by_cases hi:i<(exY (mac [] bs) (txt s) 64).length
  ·rw[List.getD_eq_getElem?_getD,List.getElem?_eq_getElem hi];exact exY_m _ _ _ _ (List.getElem_mem hi)
  ·rw[List.getD_eq_getElem?_getD,List.getElem?_eq_none (by omega)];decide
 have hpos:0<w.heap.size:=by obtain⟨_,_,gb,_,_,_,_,h4,_⟩:=h;omega
 obtain⟨d,ed⟩: ∃x,exY (mac [] bs) (txt s) 64=x:=⟨_,rfl⟩
 unfold dgN
 have hD:=fun(u:World) (hB:Bw w u)=>cDeriveR bs [] v (.slice none 0 0) s 64 u (by have:=hB.size;omega) ((h.below hB).mono hB.size) (IN_nil u (by have:=hB.size;omega)) hb (by simp) hl (by simp) hs
 rw[ed] at hd hx⊢
 simp only[ed] at hD
 have g: ∀c,c<8->(lmbs d 64).getD c 0=lmb d 64 c:=fun c hc=>lmbs_get d 64 c hc
 have W: ∀i c,W64 (lmb d i c:Int):=fun i c=>⟨Int.natCast_nonneg _,by have:=lmb_lt hx i c;omega⟩
 refine xDigest_core v s d m _ (lmbs d) (fun _=>0) w hm hd hx (lmbs_0 d) (U4 d) (fun i hi=>?_) (fun i c=>?_) hD (fun u=>?_)
 ·rw[lmbs_step hd hi,lmbs_get d i _ (by omega)]
 ·by_cases hc:c<8
  ·rw[lmbs_get d i c hc];exact lmb_lt hx i c
  ·rw[List.getD_eq_getElem?_getD,List.getElem?_eq_none (by rw[U4];omega)];decide
 ·rw[g 0 (by omega),g 1 (by omega),g 2 (by omega),g 3 (by omega),g 4 (by omega),g 5 (by omega),g 6 (by omega),g 7 (by omega),<-WV_of (num8 d:Int) _ _ _ _ _ _ _ _ (W 64 0) (W 64 1) (W 64 2) (W 64 3) (W 64 4) (W 64 5) (W 64 6) (W 64 7) (lmb_sum hd)]
  refine xReduce (num8 d:Int) m u ⟨Int.natCast_nonneg _,?_⟩ hm hm0
  have h1:=nu_lt hx 64
  rw[List.take_of_length_le (by omega)] at h1
  have h2:(256:Nat)^64=115792089237316195423570985008687907853269984665640564039457584007913129639936*115792089237316195423570985008687907853269984665640564039457584007913129639936:=by decide+kernel
  omega
end
section
open Go.RowKit Go.Extern.Stop Go.Stop Go.Extern Go.Extern.Rtype
inductive EW (n:Int):Value->Prop
 | leaf:EW n (.iface 27 (.int .i64 n))
 | wrap (s:ByteArray) (k:Value):EW n k->EW n (.iface 79 (.agg #[.string s,k]))
theorem EW.some{n:Int}{v:Value}(h:EW n v): ∃T x,v= .iface T x:=by
 cases h with
 | leaf=>exact⟨_,_,rfl⟩
 | wrap s k _=>exact⟨_,_,rfl⟩
theorem cUnF(s:ByteArray)(k:Value)(w:World)(hk: ∃T x,k= .iface T x):CC 194 #[.agg #[.string s,k]] w k:=by
 obtain⟨T,x,rfl⟩:=hk
 go_enter Tryz.func194,Tryz.ntmps194
 go_wp2
 exact bodyPost_ret (v:= .iface T x) (by simp[results,Tryz.results194,go_sem]) rfl ⟨rfl,Z0 (Z5 w) _⟩
theorem Tryz.noIsE(v:Value)(xT:TypeId)(w:World):(Instr.typeAssert (.iface 27 v) xT 141 true).run Tryz.prog w= .ok (.tuple #[.nilIface,.bool false]) w:=run_typeAssert_lacksB Tryz.underlying141 (by kernel_rfl) (by kernel_rfl) v xT w
theorem Tryz.noIsF(v:Value)(xT:TypeId)(w:World):(Instr.typeAssert (.iface 79 v) xT 141 true).run Tryz.prog w= .ok (.tuple #[.nilIface,.bool false]) w:=run_typeAssert_lacksB Tryz.underlying141 (by kernel_rfl) (by kernel_rfl) v xT w
theorem Tryz.noUnE(v:Value)(xT:TypeId)(w:World):(Instr.typeAssert (.iface 27 v) xT 144 true).run Tryz.prog w= .ok (.tuple #[.nilIface,.bool false]) w:=run_typeAssert_lacksB Tryz.underlying144 (by kernel_rfl) (by kernel_rfl) v xT w
theorem Tryz.noUsE(v:Value)(xT:TypeId)(w:World):(Instr.typeAssert (.iface 27 v) xT 146 true).run Tryz.prog w= .ok (.tuple #[.nilIface,.bool false]) w:=run_typeAssert_lacksB Tryz.underlying146 (by kernel_rfl) (by kernel_rfl) v xT w
theorem Tryz.unF(v:Value)(xT:TypeId)(w:World):(Instr.typeAssert (.iface 79 v) xT 144 true).run Tryz.prog w= .ok (.tuple #[.iface 79 v,.bool true]) w:=run_typeAssert_hasB Tryz.underlying144 (by kernel_rfl) v xT w
theorem infoE:(Tryz.prog.info? 27).map (·.comparable)=some true:=by kernel_rfl
theorem eqlE(a b:Int)(w:World):(binOp .eql 58 (.iface 27 (.int .i64 a)) (.iface 27 (.int .i64 b))).run Tryz.prog w= .ok (.bool (a==b)) w:=by
 obtain⟨i,hi,hc⟩:=Option.map_eq_some_iff.1 infoE
 have h1:=run_underlying (w:=w) Tryz.underlying58
 have h2:=run_underlying (w:=w) Tryz.underlying27
 have h3: ∀d,(Op.equalIn (d+2) 58 (.iface 27 (.int .i64 a)) (.iface 27 (.int .i64 b))).run Tryz.prog w= .ok (a==b) w:=fun d=>by
  simp[Op.equalIn,h1,h2,typeInfo,hi,hc]
 simp only[binOp]
 simp[Op.equal,Op.maxDepth,h3 9998]
theorem cIs0(t n:Int)(w:World)(v:Value)(h:EW n v)(r:Bool)(er:(n==t)=r):
 CC 88 #[v,.iface 27 (.int .i64 t),.bool true] w (.bool r):=by
 have nE:=Tryz.noIsE
 have nF:=Tryz.noIsF
 have uE:=Tryz.noUnE
 have sE:=Tryz.noUsE
 have uF:=Tryz.unF
 have qE:=fun(a:Int) (u:World)=>eqlE a t u
 have qF:=fun(x:Value) (u:World)=>run_eql_iface_types (P:=Tryz.prog) 79 27 x (.int .i64 t) Tryz.underlying58 (by decide) u
 go_enter Tryz.func88,Tryz.ntmps88
 go_wp2_with fail
 go_loopw [0] (fun s0 wr=>EW n s0/\Bw w wr) (fun s0 _=>SizeOf.sizeOf s0)
 case atStart=>exact⟨h,Below.refl _ _⟩
 case round=>
  obtain⟨hv,HBr⟩:=hrel
  cases hv with
  | leaf=>
   cases r with
   | true=>
    go_wp2
    exact bodyPost_ret (v:= .bool true) (by simp[results,Tryz.results88,go_sem]) rfl ⟨rfl,HBr⟩
   | false=>
    go_wp2
    exact bodyPost_ret (v:= .bool false) (by simp[results,Tryz.results88,go_sem]) rfl ⟨rfl,HBr⟩
  | wrap s k hk=>
   obtain⟨T,x,rfl⟩:=hk.some
   have hU:=cUnF s (.iface T x) wr ⟨_,_,rfl⟩
   have hk:Hid _:=hk
   go_wp2_with (go_at_call 194;refine hU.mono ?_;clear hU;rintro e ua ⟨rfl,hBa⟩)
   refine⟨⟨hk.out,Zt HBr hBa⟩,?_⟩
   simp;omega
theorem Tryz.isTypeOf(v:Value)(w:World):(Extern.ReflectliteType.typeOf #[.iface 27 v]).run Tryz.prog w= .ok (.iface 139 (.agg #[.pointer (some ⟨8,27,none⟩)])) w:=by kernel_rfl
def cmpX:Array Value->Sem Value:=Extern.ReflectliteType.method fun t=>do noPackHeld "Comparable" t;pure (.bool (<-typeInfo t).comparable)
theorem Tryz.isComparable(w:World):(cmpX #[.agg #[.pointer (some ⟨8,27,none⟩)]]).run Tryz.prog w= .ok (.bool true) w:=by kernel_rfl
theorem cIsN(t:Int)(w:World):CC 60 #[.nilIface,.iface 27 (.int .i64 t)] w (.bool false):=by
 have hn:=run_eql_iface_nil_left (P:=Tryz.prog) w 27 (.int .i64 t) Tryz.underlying58
 go_enter Tryz.func60,Tryz.ntmps60
 go_wp2
 exact bodyPost_ret (v:= .bool false) (by simp[results,Tryz.results60,go_sem]) rfl ⟨rfl,Below.refl _ _⟩
theorem cIs(t n:Int)(w:World)(v:Value)(h:EW n v)(r:Bool)(er:(n==t)=r):CC 60 #[v,.iface 27 (.int .i64 t)] w (.bool r):=by
 have h8:= @run_callFunc_extern Tryz.prog 87 _ Extern.ReflectliteType.typeOf Tryz.func87 (by kernel_rfl) (by kernel_rfl) (by kernel_rfl) (by kernel_rfl)
 have h32:= @run_callFunc_extern Tryz.prog 198 _ cmpX Tryz.func198 (by kernel_rfl) (by kernel_rfl) (by kernel_rfl) (by kernel_rfl)
 have tT:=Tryz.isTypeOf
 have cT:=Tryz.isComparable
 have hI:=cIs0 t n w v h r er
 obtain⟨T,x,rfl⟩:=h.some
 go_enter Tryz.func60,Tryz.ntmps60
 go_wp2_with (go_at_call 88;refine hI.mono ?_;clear hI;rintro e ub ⟨rfl,hBb⟩)
 exact bodyPost_ret (v:= .bool r) (by simp[results,Tryz.results60,go_sem]) rfl ⟨rfl,hBb⟩
theorem ixE0(u:World):(Instr.index 88 (.agg #[.int .i64 2,.int .i64 90]) (.int .i64 0)).run Tryz.prog u= .ok (.int .i64 2) u:=by kernel_rfl
theorem ixE1(u:World):(Instr.index 88 (.agg #[.int .i64 2,.int .i64 90]) (.int .i64 1)).run Tryz.prog u= .ok (.int .i64 90) u:=by kernel_rfl
theorem gTold_core(v:Value)(f2 f9:Bool)(m:Int)(w:World)(hv:v= .nilIface\/ ∃T x,v= .iface T x)(hm:m=if f2 then 2 else if f9 then 90 else 0)
 (hI:Hid (∀u,CC 60 #[v,.iface 27 (.int .i64 2)] u (.bool f2)))
 (hJ:Hid (∀u,CC 60 #[v,.iface 27 (.int .i64 90)] u (.bool f9))):
 CC 36 #[v] w (.int .i64 m):=by
 have hm:Hid _:=hm
 have u3:=Tryz.underlying27
 have a3:=Tryz.isAgg27
 have z3:=Tryz.sizeOf27
 have x0:=fun u:World=>ixE0 u
 have x1:=fun u:World=>ixE1 u
 rcases hv with rfl | ⟨T,x,rfl⟩
 all_goals
  go_enter Tryz.func36,Tryz.ntmps36
  go_wp2_with fail
  go_loopw [6] (fun s6 wr=>(s6= .int .i64 0\/(s6= .int .i64 1/\f2=false)\/(s6= .int .i64 2/\f2=false/\f9=false))/\Bw w wr) (fun s6 _=>2 -(intOf s6).toNat)
  case atStart=>exact⟨.inl rfl,Below.refl _ _⟩
  case round=>
   obtain⟨h,HBr⟩:=hrel
   rcases h with rfl | ⟨rfl,hf⟩ | ⟨rfl,hf,hg⟩
   ·have hI:=hI.out wr
    cases f2 with
    | true=>
     go_wp2_with (go_at_call 60;refine hI.mono ?_;clear hI;rintro e ua ⟨rfl,hBa⟩)
     have hm2:=hm.out
     simp at hm2
     subst hm2
     exact bodyPost_ret (v:= .int .i64 2) (by simp[results,Tryz.results36,go_sem]) rfl ⟨rfl,Zt HBr hBa⟩
    | false=>
     go_wp2_with (go_at_call 60;refine hI.mono ?_;clear hI;rintro e ua ⟨rfl,hBa⟩)
     exact⟨⟨.inr (.inl ⟨by simp,by simp⟩),Zt HBr hBa⟩,by simp[intOf]⟩
   ·subst hf
    have hJ:=hJ.out wr
    cases f9 with
    | true=>
     go_wp2_with (go_at_call 60;refine hJ.mono ?_;clear hJ;rintro e ua ⟨rfl,hBa⟩)
     have hm2:=hm.out
     simp at hm2
     subst hm2
     exact bodyPost_ret (v:= .int .i64 90) (by simp[results,Tryz.results36,go_sem]) rfl ⟨rfl,Zt HBr hBa⟩
    | false=>
     go_wp2_with (go_at_call 60;refine hJ.mono ?_;clear hJ;rintro e ua ⟨rfl,hBa⟩)
     exact⟨⟨.inr (.inr ⟨by simp,by simp,by simp⟩),Zt HBr hBa⟩,by simp[intOf]⟩
   ·subst hf hg
    go_wp2
    have hm2:=hm.out
    simp at hm2
    subst hm2
    exact bodyPost_ret (v:= .int .i64 0) (by simp[results,Tryz.results36,go_sem]) rfl ⟨rfl,HBr⟩
theorem gToldN(w:World):CC 36 #[.nilIface] w (.int .i64 0):=
 gTold_core _ false false 0 w (.inl rfl) rfl (fun u=>cIsN 2 u) (fun u=>cIsN 90 u)
theorem gTold9(v:Value)(w:World)(h:EW 90 v):CC 36 #[v] w (.int .i64 90):=
 gTold_core _ false true 90 w (.inr h.some) rfl (fun u=>cIs 2 90 u v h _ rfl) (fun u=>cIs 90 90 u v h _ rfl)
end
end Go.Proofs.YtknpepgonhdbgaaGreatDoor
