import Derived.Test.YtofcppgfaelloaaGreatDoorMR1
namespace Go.Proofs.YtofcppgfaelloaaGreatDoor
set_option linter.unusedVariables false
set_option linter.unusedSimpArgs false
set_option maxRecDepth 100000
set_option maxHeartbeats 4000000
section
def Pr (p:Nat):Prop:=2<=p/\ ∀d,d∣p->d=1\/d=p
theorem Pr.cop {p a:Nat} (h:Pr p) (ha: ¬p∣a):Nat.gcd p a=1:=by
 rcases h.2 _ (Nat.gcd_dvd_left p a) with e | e
 ·exact e
 ·exact absurd (by rw[<-e];exact Nat.gcd_dvd_right p a) ha
theorem Pr.dvd {p a b:Nat} (h:Pr p) (hd:p∣a*b):p∣a\/p∣b:=by
 by_cases ha:p∣a
 ·exact .inl ha
 ·exact .inr (Nat.Coprime.dvd_of_dvd_mul_left (show Nat.Coprime p a from h.cop ha) hd)
theorem Pr.ex: ∀(n d:Nat),d<=n->2<=d-> ∃p,Pr p/\p∣d
 | 0,d,h,h2=>by omega
 | n+1,d,h,h2=>by
  by_cases hp:Pr d
  ·exact⟨d,hp,Nat.dvd_refl d⟩
  ·have: ∃e,e∣d/\e≠1/\e≠d:=Classical.byContradiction fun hn=>hp ⟨h2,fun e he=>by
    by_cases e1:e=1
    ·exact .inl e1
    ·by_cases e2:e=d
     ·exact .inr e2
     ·exact absurd ⟨e,he,e1,e2⟩ hn⟩
   obtain⟨e,he,e1,e2⟩:=this
   have hpos:0<e:=Nat.pos_of_dvd_of_pos he (by omega)
   have hle:e<=d:=Nat.le_of_dvd (by omega) he
   obtain⟨p,hp,hd⟩:=Pr.ex n e (by omega) (by omega)
   exact⟨p,hp,Nat.dvd_trans hd he⟩
def Vp:List Nat->Nat
 | []=>1
 | a::r=>a*Vp r
theorem prod_erase {a:Nat}: ∀{l:List Nat},a∈l->Vp l=a*Vp (l.erase a)
 | [],h=>by cases h
 | b::r,h=>by
  by_cases e:b=a
  ·subst e;simp[Vp]
  ·have hm:a∈r:=by
    rcases List.mem_cons.1 h with h | h
    ·exact absurd h.symm e
    ·exact h
   rw[List.erase_cons_tail (by simpa using e),Vp,Vp,prod_erase hm]
   rw[<-Nat.mul_assoc,Nat.mul_comm b a,Nat.mul_assoc]
theorem prod_same: ∀{l m:List Nat},l.Nodup->(∀x∈l,x∈m)->l.length=m.length->Vp l=Vp m
 | [],m,_,_,h=>by
  have:m=[]:=List.eq_nil_of_length_eq_zero h.symm
  rw[this]
 | a::t,m,hn,hs,hl=>by
  rw[List.nodup_cons] at hn
  have ha:=hs a List.mem_cons_self
  rw[prod_erase ha,Vp,prod_same (l:=t) (m:=m.erase a) hn.2
   (fun x hx=>(List.mem_erase_of_ne (fun e=>hn.1 (by rw[<-e];exact hx))).2 (hs x (List.mem_cons_of_mem _ hx)))
   (by rw[List.length_erase_of_mem ha,<-hl];simp)]
theorem prod_map (b p:Nat): ∀l:List Nat,Vp (l.map fun i=>b*i%p)%p=b^l.length*Vp l%p
 | []=>by simp[Vp]
 | a::r=>by
  rw[List.map_cons,Vp,Nat.mul_mod,prod_map b p r,Nat.mod_mod,<-Nat.mul_mod,Vp,List.length_cons,Nat.pow_succ]
  congr 1
  rw[Nat.mul_comm (b^r.length) b,Nat.mul_assoc,Nat.mul_assoc]
  congr 1
  rw[<-Nat.mul_assoc,<-Nat.mul_assoc,Nat.mul_comm a (b^r.length)]
theorem prod_not {p:Nat} (hp:Pr p): ∀{l:List Nat},(∀x∈l,0<x/\x<p)-> ¬p∣Vp l
 | [],_,h=>by
  have:=Nat.le_of_dvd (Nat.one_pos) h
  have:=hp.1
  omega
 | a::r,h,hd=>by
  rcases hp.dvd hd with h1 | h1
  ·have:=Nat.le_of_dvd (h a List.mem_cons_self).1 h1
   have:=(h a List.mem_cons_self).2
   omega
  ·exact prod_not hp (fun x hx=>h x (List.mem_cons_of_mem _ hx)) h1
theorem T6 {p a b:Nat} (h:a%p=b%p):p∣a -b:=
 Nat.dvd_of_mod_eq_zero (Nat.sub_mod_eq_zero_of_mod_eq h)
theorem mod_of_dvd {p a b:Nat} (hab:b<=a) (h:p∣a -b):a%p=b%p:=by
 obtain⟨c,hc⟩:=h
 have:a=b+p*c:=by omega
 rw[this,Nat.add_mul_mod_self_left]
theorem Pr.cancel {p c a b:Nat} (hp:Pr p) (hc: ¬p∣c) (h:c*a%p=c*b%p):a%p=b%p:=by
 rcases Nat.le_total b a with hab | hab
 ·have:=T6 h
  rw[<-Nat.mul_sub] at this
  exact mod_of_dvd hab ((hp.dvd this).resolve_left hc)
 ·have:=T6 h.symm
  rw[<-Nat.mul_sub] at this
  exact(mod_of_dvd hab ((hp.dvd this).resolve_left hc)).symm
theorem Pr.fermat {p b:Nat} (hp:Pr p) (hb: ¬p∣b):b^(p -1)%p=1:=by
 have h2:=hp.1
 have hm: ∀x,x∈List.range' 1 (p -1)↔0<x/\x<p:=fun x=>by
  rw[List.mem_range'_1];omega
 have hin: ∀x∈(List.range' 1 (p -1)).map (fun i=>b*i%p),x∈List.range' 1 (p -1):=fun x hx=>by
  obtain⟨i,hi,rfl⟩:=List.mem_map.1 hx
  have hi:=(hm i).1 hi
  refine(hm _).2 ⟨Nat.pos_of_ne_zero fun e=>?_,Nat.mod_lt _ (by omega)⟩
  rcases hp.dvd (Nat.dvd_of_mod_eq_zero e) with h | h
  ·exact hb h
  ·have:=Nat.le_of_dvd hi.1 h
   omega
 have hnd:((List.range' 1 (p -1)).map (fun i=>b*i%p)).Nodup:=by
  refine List.Pairwise.map _ (R:=fun x y=>(0<x/\x<p)/\(0<y/\y<p)/\x≠y) (fun x y h e=>?_) ?_
  ·have:=hp.cancel hb e
   rw[Nat.mod_eq_of_lt h.1.2,Nat.mod_eq_of_lt h.2.1.2] at this
   exact h.2.2 this
  ·refine List.Pairwise.imp_of_mem (fun{x y} hx hy h=>⟨(hm x).1 hx,(hm y).1 hy,h⟩) (List.nodup_range' (step:=1) (by omega))
 have e:=prod_map b p (List.range' 1 (p -1))
 rw[prod_same hnd hin (by simp),List.length_range',Nat.mul_comm] at e
 have:=hp.cancel (c:=Vp (List.range' 1 (p -1))) (a:=1) (b:=b^(p -1))
  (prod_not hp fun x hx=>(hm x).1 hx) (by rw[Nat.mul_one];exact e)
 rw[<-this,Nat.mod_eq_of_lt h2]
theorem pow_one_mod {b m p:Nat} (h:b^m%p=1) (k:Nat):b^(m*k)%p=1%p:=by
 rw[Nat.pow_mul,Nat.pow_mod,h,Nat.one_pow]
theorem pow_gcd {b p:Nat} (h2:2<=p): ∀m n,b^m%p=1->b^n%p=1->b^Nat.gcd m n%p=1:=by
 intro m n
 induction m,n using Nat.gcd.induction with
 | H0 n=>intro _ h;rw[Nat.gcd_zero_left];exact h
 | H1 m n hm ih=>
  intro h1 h3
  rw[Nat.gcd_rec]
  refine ih ?_ h1
  have:=h3
  rw[<-Nat.div_add_mod n m,Nat.pow_add,Nat.mul_mod,pow_one_mod h1,Nat.mod_eq_of_lt h2,Nat.one_mul,Nat.mod_mod] at this
  exact this
theorem pock1 {N F q A r:Nat} (hF:Pr F) (hN:N=F*q+1) (hq:q<F)
 (h1:A^(N -1)%N=1) (hg: ∀d,d∣N->A^q%d=1%d->d=1) (hr:Pr r) (hd:r∣N):F<r:=by
 have h2:=hr.1
 have hq1:N -1=q*F:=by rw[hN,Nat.add_sub_cancel,Nat.mul_comm]
 have m1:1%r=1:=Nat.mod_eq_of_lt h2
 have e1:(A^q)^F%r=1:=by
  rw[<-Nat.pow_mul,<-hq1,<-Nat.mod_mod_of_dvd _ hd,h1,m1]
 have hnd: ¬r∣A^q:=fun h=>by
  have h:A^q%r=0:=Nat.mod_eq_zero_of_dvd h
  rw[Nat.pow_mod,h,Nat.zero_pow (by have:=hF.1;omega)] at e1
  simp at e1
 have e2:=hr.fermat hnd
 have e3:=pow_gcd h2 _ _ e1 e2
 rcases hF.2 _ (Nat.gcd_dvd_left F (r -1)) with g | g
 ·rw[g,Nat.pow_one] at e3
  have:=hg r hd (by rw[e3,m1])
  omega
 ·have:=Nat.le_of_dvd (by omega) (g▸Nat.gcd_dvd_right F (r -1))
  omega
theorem pock {N F q A:Nat} (hF:Pr F) (hN:N=F*q+1) (h3:2<=N) (hq:q<F)
 (h1:A^(N -1)%N=1) (hg: ∀d,d∣N->A^q%d=1%d->d=1):Pr N:=by
 have hF2:=hF.1
 have big: ∀d,d∣N->2<=d->F<d:=fun d hd hd2=>by
  obtain⟨r,hr,hrd⟩:=Pr.ex d d (Nat.le_refl d) hd2
  have:=pock1 hF hN hq h1 hg hr (Nat.dvd_trans hrd hd)
  exact Nat.lt_of_lt_of_le this (Nat.le_of_dvd (by omega) hrd)
 refine⟨h3,fun d hd=>?_⟩
 obtain⟨e,he⟩:=hd
 by_cases d1:d=1
 ·exact .inl d1
 refine .inr ?_
 by_cases e1:e=1
 ·rw[he,e1,Nat.mul_one]
 exfalso
 have d0:d≠0:=fun h=>by rw[h,Nat.zero_mul] at he;omega
 have e0:e≠0:=fun h=>by rw[h,Nat.mul_zero] at he;omega
 have a:=big d ⟨e,he⟩ (by omega)
 have b:=big e ⟨d,by rw[Nat.mul_comm];exact he⟩ (by omega)
 have c:(F+1)*(F+1)<=N:=by rw[he];exact Nat.mul_le_mul a b
 have c2:F*q<=F*F:=Nat.mul_le_mul_left F (by omega)
 rw[Nat.add_mul,Nat.mul_add] at c
 omega
theorem gcd_demand {N q A x:Nat} (hx:x<N) (hs:(x+1)%N=A^q%N) (hg:Nat.gcd x N=1):
 ∀d,d∣N->A^q%d=1%d->d=1:=by
 intro d hd e
 have:(x+1)%d=1%d:=by rw[<-Nat.mod_mod_of_dvd _ hd,hs,Nat.mod_mod_of_dvd _ hd,e]
 have h:=T6 this
 rw[Nat.add_sub_cancel] at h
 exact Nat.eq_one_of_dvd_one (hg▸Nat.dvd_gcd h hd)
theorem trial {n:Nat} (h2:2<=n) (h: ∀d,2<=d->d*d<=n->n%d≠0):Pr n:=by
 refine⟨h2,fun d hd=>?_⟩
 obtain⟨e,he⟩:=hd
 by_cases d1:d=1
 ·exact .inl d1
 refine .inr ?_
 by_cases e1:e=1
 ·rw[he,e1,Nat.mul_one]
 exfalso
 have d0:d≠0:=fun h=>by rw[h,Nat.zero_mul] at he;omega
 have e0:e≠0:=fun h=>by rw[h,Nat.mul_zero] at he;omega
 rcases Nat.le_total d e with hl | hl
 ·exact h d (by omega) (by rw[he];exact Nat.mul_le_mul_left d hl) (by rw[he,Nat.mul_mod_right])
 ·exact h e (by omega) (by rw[he];exact Nat.mul_le_mul_right e hl) (by rw[he,Nat.mul_mod_left])
end
section
open Go.RowKit
theorem nCompare (n m:Int) (w:World) (hn:In n) (hm:In m):CC 77 #[NV n,NV m] w (iI (cmpI n m)):=by
 have k:=Compare_any _ _ _ _ _ _ _ _ w (W_D0 n) (W_D1 n) (W_D2 n) (W_D3 n) (W_D0 m) (W_D1 m) (W_D2 m) (W_D3 m)
 simp only[V_In hn,V_In hm] at k
 exact k
theorem Yc:EnT 77:=fun _ _=>by kernel_rfl
theorem rem_u (p q:Operand) (x y z:Int) (w:World) (h0:0<=x) (hx:x<18446744073709551616) (h1:0<y) (h:x%y=z):(do eqGuard .rem 22 p q (iU x) (iU y);binOp .rem 22 (iU x) (iU y):Sem Value).run Tryz.prog w= .ok (iU z) w:=by
 have hy:y≠0:=by omega
 have hb:(y==0)=false:=by simp[hy]
 have e:x.tmod y=z:=by rw[Int.tmod_eq_emod_of_nonneg h0,h]
 have z0:0<=z:=by rw[<-h];exact Int.emod_nonneg x hy
 have z1:z<=x:=by
  have a:=Int.mul_ediv_add_emod x y
  have b:0<=y*(x/y):=Int.mul_nonneg (by omega) (Int.ediv_nonneg h0 (by omega))
  omega
 have wz:IntKind.u64.wrap z=z:=by simp[IntKind.wrap,IntKind.signed,IntKind.bits];omega
 go_simp
def Sm (x:Int):Prop:=2<=x/\x<1048576/\ ∀d:Int,2<=d->d*d<=x->x%d≠0
open Classical in
noncomputable def smB (x:Int):Bool:=decide (Sm x)
theorem smB_t {x:Int} (h:Sm x):smB x=true:=by simp[smB,h]
theorem Sm.pr {x:Int} (h:Sm x):Pr x.toNat:=trial (by have:=h.1;omega) fun d hd hq he=>h.2.2 d (by omega) (by
 have:=h.1
 have e:((d*d:Nat):Int)<=((x.toNat:Nat):Int):=Int.ofNat_le.2 hq
 rw[Int.toNat_of_nonneg (by omega)] at e
 rw[Int.natCast_mul] at e;exact e) (by
 have:=h.1
 have e:((x.toNat%d:Nat):Int)=0:=by rw[he];rfl
 rw[Int.natCast_emod,Int.toNat_of_nonneg (by omega)] at e;exact e)
end
end Go.Proofs.YtofcppgfaelloaaGreatDoor
