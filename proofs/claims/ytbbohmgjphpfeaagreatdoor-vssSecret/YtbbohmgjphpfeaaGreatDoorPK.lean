import Derived.Test.YtbbohmgjphpfeaaGreatDoorMR1
namespace Go.Proofs.YtbbohmgjphpfeaaGreatDoor
set_option linter.unusedVariables false
set_option linter.unusedSimpArgs false
set_option maxRecDepth 100000
set_option maxHeartbeats 4000000
section
def Pr(p:Nat):Prop:=2<=p/\ ∀d,d∣p->d=1\/d=p
theorem Pr.cop{p a:Nat}(h:Pr p)(ha: ¬p∣a):Nat.gcd p a=1:=by
 rcases h.2 _ (Nat.gcd_dvd_left p a) with e | e
 ·exact e
 ·exact absurd (by rw[<-e];exact Nat.gcd_dvd_right p a) ha
theorem Pr.dvd{p a b:Nat}(h:Pr p)(hd:p∣a*b):p∣a\/p∣b:=by
 by_cases ha:p∣a
 ·exact .inl ha
 ·exact .inr (Nat.Coprime.dvd_of_dvd_mul_left (show Nat.Coprime p a from h.cop ha) hd)
theorem Pr.ex: ∀(n d:Nat),d<=n->2<=d-> ∃p,Pr p/\p∣d
 | 0,d,h,h2=>by omega
 | n+1,d,h,h2=>by
  by_cases hp:Pr d
  ·exact⟨d,hp,Nat.dvd_refl d⟩
  ·have: ∃e,e∣d/\e≠1/\e≠d:=Classical.byContradiction fun hn=>hp ⟨h2,fun e he=>by
    by_cases e1:e=1
    ·exact .inl e1
    ·by_cases e2:e=d
     ·exact .inr e2
     ·exact absurd ⟨e,he,e1,e2⟩ hn⟩
   obtain⟨e,he,e1,e2⟩:=this
   have hpos:0<e:=Nat.pos_of_dvd_of_pos he (by omega)
   have hle:e<=d:=Nat.le_of_dvd (by omega) he
   obtain⟨p,hp,hd⟩:=Pr.ex n e (by omega) (by omega)
   exact⟨p,hp,Nat.dvd_trans hd he⟩
def Vo:List Nat->Nat
 | []=>1
 | a::r=>a*Vo r
theorem prod_erase{a:Nat}: ∀{l:List Nat},a∈l->Vo l=a*Vo (l.erase a)
 | [],h=>by cases h
 | b::r,h=>by
  by_cases e:b=a
  ·subst e;simp[Vo]
  ·have hm:a∈r:=by
    rcases List.mem_cons.1 h with h | h
    ·exact absurd h.symm e
    ·exact h
   rw[List.erase_cons_tail (by simpa using e),Vo,Vo,prod_erase hm]
   rw[<-Nat.mul_assoc,Nat.mul_comm b a,Nat.mul_assoc]
theorem prod_same: ∀{l m:List Nat},l.Nodup->(∀x∈l,x∈m)->l.length=m.length->Vo l=Vo m
 | [],m,_,_,h=>by
  have:m=[]:=List.eq_nil_of_length_eq_zero h.symm
  rw[this]
 | a::t,m,hn,hs,hl=>by
  rw[List.nodup_cons] at hn
  have ha:=hs a List.mem_cons_self
  rw[prod_erase ha,Vo,prod_same (l:=t) (m:=m.erase a) hn.2
   (fun x hx=>(List.mem_erase_of_ne (fun e=>hn.1 (by rw[<-e];exact hx))).2 (hs x (List.mem_cons_of_mem _ hx)))
   (by rw[List.length_erase_of_mem ha,<-hl];simp)]
theorem prod_map(b p:Nat): ∀l:List Nat,Vo (l.map fun i=>b*i%p)%p=b^l.length*Vo l%p
 | []=>by simp[Vo]
 | a::r=>by
  rw[List.map_cons,Vo,Nat.mul_mod,prod_map b p r,Nat.mod_mod,<-Nat.mul_mod,Vo,List.length_cons,Nat.pow_succ]
  congr 1
  rw[Nat.mul_comm (b^r.length) b,Nat.mul_assoc,Nat.mul_assoc]
  congr 1
  rw[<-Nat.mul_assoc,<-Nat.mul_assoc,Nat.mul_comm a (b^r.length)]
theorem prod_not{p:Nat}(hp:Pr p): ∀{l:List Nat},(∀x∈l,0<x/\x<p)-> ¬p∣Vo l
 | [],_,h=>by
  have:=Nat.le_of_dvd (Nat.one_pos) h
  have:=hp.1
  omega
 | a::r,h,hd=>by
  rcases hp.dvd hd with h1 | h1
  ·have:=Nat.le_of_dvd (h a List.mem_cons_self).1 h1
   have:=(h a List.mem_cons_self).2
   omega
  ·exact prod_not hp (fun x hx=>h x (List.mem_cons_of_mem _ hx)) h1
theorem Tc{p a b:Nat}(h:a%p=b%p):p∣a -b:=
 Nat.dvd_of_mod_eq_zero (Nat.sub_mod_eq_zero_of_mod_eq h)
theorem mod_of_dvd{p a b:Nat}(hab:b<=a)(h:p∣a -b):a%p=b%p:=by
 obtain⟨c,hc⟩:=h
 have:a=b+p*c:=by omega
 rw[this,Nat.add_mul_mod_self_left]
theorem Pr.cancel{p c a b:Nat}(hp:Pr p)(hc: ¬p∣c)(h:c*a%p=c*b%p):a%p=b%p:=by
 rcases Nat.le_total b a with hab | hab
 ·have:=Tc h
  rw[<-Nat.mul_sub] at this
  exact mod_of_dvd hab ((hp.dvd this).resolve_left hc)
 ·have:=Tc h.symm
  rw[<-Nat.mul_sub] at this
  exact(mod_of_dvd hab ((hp.dvd this).resolve_left hc)).symm
theorem Pr.fermat{p b:Nat}(hp:Pr p)(hb: ¬p∣b):b^(p -1)%p=1:=by
 have h2:=hp.1
 have hm: ∀x,x∈List.range' 1 (p -1)↔0<x/\x<p:=fun x=>by
  rw[List.mem_range'_1];omega
 have hin: ∀x∈(List.range' 1 (p -1)).map (fun i=>b*i%p),x∈List.range' 1 (p -1):=fun x hx=>by
  obtain⟨i,hi,rfl⟩:=List.mem_map.1 hx
  have hi:=(hm i).1 hi
  refine(hm _).2 ⟨Nat.pos_of_ne_zero fun e=>?_,Nat.mod_lt _ (by omega)⟩
  rcases hp.dvd (Nat.dvd_of_mod_eq_zero e) with h | h
  ·exact hb h
  ·have:=Nat.le_of_dvd hi.1 h
   omega
 have hnd:((List.range' 1 (p -1)).map (fun i=>b*i%p)).Nodup:=by
  refine List.Pairwise.map _ (R:=fun x y=>(0<x/\x<p)/\(0<y/\y<p)/\x≠y) (fun x y h e=>?_) ?_
  ·have:=hp.cancel hb e
   rw[Nat.mod_eq_of_lt h.1.2,Nat.mod_eq_of_lt h.2.1.2] at this
   exact h.2.2 this
  ·refine List.Pairwise.imp_of_mem (fun{x y} hx hy h=>⟨(hm x).1 hx,(hm y).1 hy,h⟩) (List.nodup_range' (step:=1) (by omega))
 have e:=prod_map b p (List.range' 1 (p -1))
 rw[prod_same hnd hin (by simp),List.length_range',Nat.mul_comm] at e
 have:=hp.cancel (c:=Vo (List.range' 1 (p -1))) (a:=1) (b:=b^(p -1))
  (prod_not hp fun x hx=>(hm x).1 hx) (by rw[Nat.mul_one];exact e)
 rw[<-this,Nat.mod_eq_of_lt h2]
theorem pow_one_mod{b m p:Nat}(h:b^m%p=1)(k:Nat):b^(m*k)%p=1%p:=by
 rw[Nat.pow_mul,Nat.pow_mod,h,Nat.one_pow]
theorem pow_gcd{b p:Nat}(h2:2<=p): ∀m n,b^m%p=1->b^n%p=1->b^Nat.gcd m n%p=1:=by
 intro m n
 induction m,n using Nat.gcd.induction with
 | H0 n=>intro _ h;rw[Nat.gcd_zero_left];exact h
 | H1 m n hm ih=>
  intro h1 h3
  rw[Nat.gcd_rec]
  refine ih ?_ h1
  have:=h3
  rw[<-Nat.div_add_mod n m,Nat.pow_add,Nat.mul_mod,pow_one_mod h1,Nat.mod_eq_of_lt h2,Nat.one_mul,Nat.mod_mod] at this
  exact this
theorem pock1{N F q A r:Nat}(hF:Pr F)(hN:N=F*q+1)(hq:q<F)
 (h1:A^(N -1)%N=1)(hg: ∀d,d∣N->A^q%d=1%d->d=1)(hr:Pr r)(hd:r∣N):F<r:=by
 have h2:=hr.1
 have hq1:N -1=q*F:=by rw[hN,Nat.add_sub_cancel,Nat.mul_comm]
 have m1:1%r=1:=Nat.mod_eq_of_lt h2
 have e1:(A^q)^F%r=1:=by
  rw[<-Nat.pow_mul,<-hq1,<-Nat.mod_mod_of_dvd _ hd,h1,m1]
 have hnd: ¬r∣A^q:=fun h=>by
  have h:A^q%r=0:=Nat.mod_eq_zero_of_dvd h
  rw[Nat.pow_mod,h,Nat.zero_pow (by have:=hF.1;omega)] at e1
  simp at e1
 have e2:=hr.fermat hnd
 have e3:=pow_gcd h2 _ _ e1 e2
 rcases hF.2 _ (Nat.gcd_dvd_left F (r -1)) with g | g
 ·rw[g,Nat.pow_one] at e3
  have:=hg r hd (by rw[e3,m1])
  omega
 ·have:=Nat.le_of_dvd (by omega) (g▸Nat.gcd_dvd_right F (r -1))
  omega
theorem pock{N F q A:Nat}(hF:Pr F)(hN:N=F*q+1)(h3:2<=N)(hq:q<F)
 (h1:A^(N -1)%N=1)(hg: ∀d,d∣N->A^q%d=1%d->d=1):Pr N:=by
 have hF2:=hF.1
 have big: ∀d,d∣N->2<=d->F<d:=fun d hd hd2=>by
  obtain⟨r,hr,hrd⟩:=Pr.ex d d (Nat.le_refl d) hd2
  have:=pock1 hF hN hq h1 hg hr (Nat.dvd_trans hrd hd)
  exact Nat.lt_of_lt_of_le this (Nat.le_of_dvd (by omega) hrd)
 refine⟨h3,fun d hd=>?_⟩
 obtain⟨e,he⟩:=hd
 by_cases d1:d=1
 ·exact .inl d1
 refine .inr ?_
 by_cases e1:e=1
 ·rw[he,e1,Nat.mul_one]
 exfalso
 have d0:d≠0:=fun h=>by rw[h,Nat.zero_mul] at he;omega
 have e0:e≠0:=fun h=>by rw[h,Nat.mul_zero] at he;omega
 have a:=big d ⟨e,he⟩ (by omega)
 have b:=big e ⟨d,by rw[Nat.mul_comm];exact he⟩ (by omega)
 have c:(F+1)*(F+1)<=N:=by rw[he];exact Nat.mul_le_mul a b
 have c2:F*q<=F*F:=Nat.mul_le_mul_left F (by omega)
 rw[Nat.add_mul,Nat.mul_add] at c
 omega
theorem gcd_demand{N q A x:Nat}(hx:x<N)(hs:(x+1)%N=A^q%N)(hg:Nat.gcd x N=1):
 ∀d,d∣N->A^q%d=1%d->d=1:=by
 intro d hd e
 have:(x+1)%d=1%d:=by rw[<-Nat.mod_mod_of_dvd _ hd,hs,Nat.mod_mod_of_dvd _ hd,e]
 have h:=Tc this
 rw[Nat.add_sub_cancel] at h
 exact Nat.eq_one_of_dvd_one (hg▸Nat.dvd_gcd h hd)
theorem trial{n:Nat}(h2:2<=n)(h: ∀d,2<=d->d*d<=n->n%d≠0):Pr n:=by
 refine⟨h2,fun d hd=>?_⟩
 obtain⟨e,he⟩:=hd
 by_cases d1:d=1
 ·exact .inl d1
 refine .inr ?_
 by_cases e1:e=1
 ·rw[he,e1,Nat.mul_one]
 exfalso
 have d0:d≠0:=fun h=>by rw[h,Nat.zero_mul] at he;omega
 have e0:e≠0:=fun h=>by rw[h,Nat.mul_zero] at he;omega
 rcases Nat.le_total d e with hl | hl
 ·exact h d (by omega) (by rw[he];exact Nat.mul_le_mul_left d hl) (by rw[he,Nat.mul_mod_right])
 ·exact h e (by omega) (by rw[he];exact Nat.mul_le_mul_right e hl) (by rw[he,Nat.mul_mod_left])
end
section
open Go.RowKit
theorem nCompare(n m:Int)(w:World)(hn:In n)(hm:In m):CC 103 #[NV n,NV m] w (.int .i64 (cmpI n m)):=by
 have k:=Compare_any _ _ _ _ _ _ _ _ w (W_D0 n) (W_D1 n) (W_D2 n) (W_D3 n) (W_D0 m) (W_D1 m) (W_D2 m) (W_D3 m)
 simp only[V_In hn,V_In hm] at k
 exact k
theorem Zl:EnT 103:=fun _ _=>by kernel_rfl
theorem rem_u(p q:Operand)(x y z:Int)(w:World)(h0:0<=x)(hx:x<18446744073709551616)(h1:0<y)(h:x%y=z):(do eqGuard .rem 22 p q (.int .u64 x) (.int .u64 y);binOp .rem 22 (.int .u64 x) (.int .u64 y):Sem Value).run Tryz.prog w= .ok (.int .u64 z) w:=by
 have hy:y≠0:=by omega
 have hb:(y==0)=false:=by simp[hy]
 have e:x.tmod y=z:=by rw[Int.tmod_eq_emod_of_nonneg h0,h]
 have z0:0<=z:=by rw[<-h];exact Int.emod_nonneg x hy
 have z1:z<=x:=by
  have a:=Int.mul_ediv_add_emod x y
  have b:0<=y*(x/y):=Int.mul_nonneg (by omega) (Int.ediv_nonneg h0 (by omega))
  omega
 have wz:IntKind.u64.wrap z=z:=by simp[IntKind.wrap,IntKind.signed,IntKind.bits];omega
 go_simp
def Sm(x:Int):Prop:=2<=x/\x<1048576/\ ∀d:Int,2<=d->d*d<=x->x%d≠0
open Classical in
noncomputable def smB (x:Int):Bool:=decide (Sm x)
theorem smB_t{x:Int}(h:Sm x):smB x=true:=by simp[smB,h]
theorem Sm.pr{x:Int}(h:Sm x):Pr x.toNat:=trial (by have:=h.1;omega) fun d hd hq he=>h.2.2 d (by omega) (by
 have:=h.1
 have e:((d*d:Nat):Int)<=((x.toNat:Nat):Int):=Int.ofNat_le.2 hq
 rw[Int.toNat_of_nonneg (by omega)] at e
 rw[Int.natCast_mul] at e;exact e) (by
 have:=h.1
 have e:((x.toNat%d:Nat):Int)=0:=by rw[he];rfl
 rw[Int.natCast_emod,Int.toNat_of_nonneg (by omega)] at e;exact e)
section
def tx(n:Int):ByteArray:=strOfNums (txl (D0 n) (D1 n) (D2 n) (D3 n) (nd (D0 n) (D1 n) (D2 n) (D3 n)))
theorem nText(n:Int)(w:World):CC 104 #[NV n] w (.string (tx n)):=Text_any _ _ _ _ w (W_D0 n) (W_D1 n) (W_D2 n) (W_D3 n)
theorem tx_sz(n:Int):(tx n).size<=64:=by
 unfold tx
 rw[strOfNums_size]
 unfold txl
 rw[List.length_map,List.length_range]
 have:=blen_bd _ _ _ _ (W_D0 n) (W_D1 n) (W_D2 n) (W_D3 n)
 unfold nd
 split<;>omega
section
variable {R:Rg} {P:Program} {Q:Exit->Act->World->Prop} {ops:Array Oper} {i:Nat} {o:Oper}
theorem g_mi{T:TypeId}{x:Operand}{vx v:Value}(hr: ∀w,(Instr.makeInterface T vx).run P w= .ok v w)(hop:o.op= .makeInterface T x:=by rfl)(hx:evR R i o x=some vx:=by rfl)(hv:some v=Zw i R.G:=by rfl)(hc:R.chk ops i o=true:=by rfl):OG R P ops Q i o:=
 g_op (fun ev u he=>by
  unfold execOp;rw[hop];simp only[he _ _ hx]
  rw[Sem.run_bind,hr,Result.andThen_ok,Sem.run_pure]) hv hc
end
theorem miE(n:Int)(w:World):(Instr.makeInterface 31 (.int .i64 n)).run Tryz.prog w= .ok (.iface 31 (.int .i64 n)) w:=by kernel_rfl
theorem miF(s:ByteArray)(T:TypeId)(x:Value)(w:World):(Instr.makeInterface 143 (.agg #[.string s,.iface T x])).run Tryz.prog w= .ok (.iface 143 (.agg #[.string s,.iface T x])) w:=by kernel_rfl
theorem bdFl(s:ByteArray)(T:TypeId)(x:Value)(w:World):(Instr.build 143 [(0,.string s),(1,.iface T x)].toArray).run Tryz.prog w= .ok (.agg #[.string s,.iface T x]) w:=by kernel_rfl
theorem add_st(p q:Operand)(s t:ByteArray)(w:World)(hs:s.size<=500)(ht:t.size<=500):(do eqGuard .add 9 p q (.string s) (.string t);binOp .add 9 (.string s) (.string t):Sem Value).run Tryz.prog w= .ok (.string (s++t)) w:=by
 have h2: ¬9223372036854775807<s.size+t.size:=by omega
 go_simp
theorem AE.or{b:Bool}{w:World}{x:Value}(h:AE b w x):x= .nilIface\/ ∃T z,x= .iface T z:=h.imp (·.2) fun⟨_,d,h⟩=>h.some
theorem AE.no{w:World}{x:Value}(h:AE false w x):x= .nilIface:=h.elim (·.2) fun h=>by cases h.1
theorem ent_limb_Text:EnT 104:=fun _ _=>by kernel_rfl
theorem Ty:EnT 87:=fun _ _=>by kernel_rfl
theorem modulus_t(q:Int)(w:World)(hq:In q)(hc:decide (cmpI q 2<0)=true):
 CC 94 #[NV q] w (.iface 143 (.agg #[.string (⟨#[109,111,100,117,108,111,32]⟩++tx q),.iface 31 (.int .i64 2)])):=by
 go_enter Tryz.func94,Tryz.ntmps94
 go_upto_region 1 with fail
 obtain⟨v0,hC,HB0,K0⟩:=bx1 w (LN q) 24
 rw[hC]
 clear hC
 apply Rm K0 HB0 [(0,3,_),(1,4,_),(2,5,_),(3,6,_)]
 ·exact oc (g_ld 0 uN iN)<|oc (g_cl Z5 (fun uZ=>nOf 2 uZ (by decide) (by decide)))<|oc (g_cl Zl (fun uZ=>nCompare q 2 uZ hq ⟨by decide,by decide⟩))<|oc (g_bn (fun uZ=>Zk _ _ (cmpI q 2) 0 _ uZ hc)) on
 intro u1 HB1 sz1 K1
 simp only[sQ] at K1⊢
 clear K0 HB0
 go_upto_region 2 with fail
 apply Rp K1 HB1 [] [] [(0,7,_),(1,8,_),(2,9,_),(3,10,_),(4,11,_),(5,12,_),(6,2,_)] [] [] [false]
 ·exact oc (g_ld 0 uN iN)<|oc (g_cl ent_limb_Text (nText q))<|oc (g_bn (fun uZ=>add_st _ _ ⟨#[109,111,100,117,108,111,32]⟩ (tx q) uZ (by decide) (Nat.le_trans (tx_sz q) (by decide))))<|oc (g_mi (miE 2))<|oc (g_bd (bdFl (⟨#[109,111,100,117,108,111,32]⟩++tx q) _ _))<|oc (g_mi (miF (⟨#[109,111,100,117,108,111,32]⟩++tx q) _ _))<|oc g_as on
 intro u2 HB2 sz2 K2
 simp only[sQ] at K2⊢
 clear K1 HB1
 go_wp2
 refine bodyPost_ret (v:= .iface 143 (.agg #[.string (⟨#[109,111,100,117,108,111,32]⟩++tx q),.iface 31 (.int .i64 2)])) (by simp[results,Tryz.results94,go_sem,]) rfl ⟨rfl,HB2⟩
theorem modulus_f(q:Int)(w:World)(hq:In q)(hc:decide (cmpI q 2<0)=false):
 CC 94 #[NV q] w (.nilIface):=by
 go_enter Tryz.func94,Tryz.ntmps94
 go_upto_region 1 with fail
 obtain⟨v0,hC,HB0,K0⟩:=bx1 w (LN q) 24
 rw[hC]
 clear hC
 apply Rd K0 HB0 [] [] [(0,3,_),(1,4,_),(2,5,_),(3,6,_)] [] [] [false]
 ·exact oc (g_ld 0 uN iN)<|oc (g_cl Z5 (fun uZ=>nOf 2 uZ (by decide) (by decide)))<|oc (g_cl Zl (fun uZ=>nCompare q 2 uZ hq ⟨by decide,by decide⟩))<|oc (g_bn (fun uZ=>Zk _ _ (cmpI q 2) 0 _ uZ hc)) on
 intro u1 HB1 sz1 K1
 simp only[sQ] at K1⊢
 clear K0 HB0
 go_upto_region 3 with fail
 apply Rn K1 HB1 [(0,2,_)]
 ·exact oc g_as on
 intro u2 HB2 sz2 K2
 simp only[sQ] at K2⊢
 clear K1 HB1
 go_wp2
 refine bodyPost_ret (v:= .nilIface) (by simp[results,Tryz.results94,go_sem,]) rfl ⟨rfl,HB2⟩
theorem dModulus(q:Int)(w:World)(hq:In q): ∃b,decide (q<2)=b/\ ∃V,AE b w V/\Hid (∀u,CC 94 #[NV q] u V):=by
 by_cases h:q<2
 ·exact⟨true,decide_eq_true h,_,.inr ⟨rfl,1,.flt 0 _ _ (.leaf 0)⟩,fun u=>modulus_t q u hq (by unfold cmpI;simp;(repeat' split)<;>omega)⟩
 ·exact⟨false,decide_eq_false h,_,.inl ⟨rfl,rfl⟩,fun u=>modulus_f q u hq (by unfold cmpI;simp;(repeat' split)<;>omega)⟩
theorem counted_t(s:ByteArray)(n:Nat)(w:World)(hG:GP w)(hs:s.size<=100)(hn:n<=256)(hc:decide ((n:Int)<1)=true):
 CC 95 #[.string s,.int .i64 (n:Int)] w (.iface 143 (.agg #[.string ((s++⟨#[58,32,97,115,32,109,97,110,121,32,97,115,32]⟩)++ia n),.iface 31 (.int .i64 2)])):=by
 have hc2:decide (256<(n:Int))=false:=by simp;omega
 go_enter Tryz.func95,Tryz.ntmps95
 have HB0:Bw w w:=Below.refl _ _
 have K0_1:=Bk.nil (w.heap.size) w
 go_upto_region 1 with fail
 apply Rn K0_1 HB0 [(0,5,_),(1,6,_),(2,7,_),(3,8,undef),(4,9,undef),(5,10,_)]
 ·exact oc g_mv<|oc (g_bn (fun uZ=>Zk _ _ (n:Int) 1 _ uZ hc))<|oc g_mv<|oc g_sk<|oc g_sk<|oc g_pk on
 intro u1 HB1 sz1 K1
 simp only[sQ] at K1⊢
 clear HB0
 go_upto_region 2 with fail
 apply Rn K1 HB1 [(0,11,_),(1,12,_),(2,13,_),(3,14,_),(4,15,_),(5,16,_),(6,17,_),(7,18,_),(8,4,_)]
 ·exact oc g_mv<|oc (g_bn (fun uZ=>add_st _ _ s ⟨#[58,32,97,115,32,109,97,110,121,32,97,115,32]⟩ uZ (Nat.le_trans hs (by decide)) (by decide)))<|oc g_mv<|oc (g_cb Ty (fun uZ bZ=>cItoa n uZ (by omega) (by omega) (hG.below bZ)))<|oc (g_bn (fun uZ=>add_st _ _ (s++⟨#[58,32,97,115,32,109,97,110,121,32,97,115,32]⟩) (ia n) uZ (by rw[ByteArray.size_append];exact Nat.add_le_add (b:=100) (d:=400) hs (by decide)) (Nat.le_trans (ia_sz n (by omega) (by omega)) (by decide))))<|oc (g_mi (miE 2))<|oc (g_bd (bdFl ((s++⟨#[58,32,97,115,32,109,97,110,121,32,97,115,32]⟩)++ia n) _ _))<|oc (g_mi (miF ((s++⟨#[58,32,97,115,32,109,97,110,121,32,97,115,32]⟩)++ia n) _ _))<|oc g_as on
 intro u2 HB2 sz2 K2
 simp only[sQ] at K2⊢
 clear K1 HB1
 go_wp2
 refine bodyPost_ret (v:= .iface 143 (.agg #[.string ((s++⟨#[58,32,97,115,32,109,97,110,121,32,97,115,32]⟩)++ia n),.iface 31 (.int .i64 2)])) (by simp[results,Tryz.results95,go_sem,]) rfl ⟨rfl,HB2⟩
theorem counted_f(s:ByteArray)(n:Nat)(w:World)(hG:GP w)(hs:s.size<=100)(hn:n<=256)(hc:decide ((n:Int)<1)=false):
 CC 95 #[.string s,.int .i64 (n:Int)] w (.nilIface):=by
 have hc2:decide (256<(n:Int))=false:=by simp;omega
 go_enter Tryz.func95,Tryz.ntmps95
 have HB0:Bw w w:=Below.refl _ _
 have K0_1:=Bk.nil (w.heap.size) w
 go_upto_region 1 with fail
 apply Rn K0_1 HB0 [(0,5,_),(1,6,_),(2,7,_),(3,8,_),(4,9,_),(5,10,_)]
 ·exact oc g_mv<|oc (g_bn (fun uZ=>Zk _ _ (n:Int) 1 _ uZ hc))<|oc g_mv<|oc g_mv<|oc (g_bn (fun uZ=>gtr_i _ _ (n:Int) 256 _ uZ hc2))<|oc g_pk on
 intro u1 HB1 sz1 K1
 simp only[sQ] at K1⊢
 clear HB0
 go_upto_region 3 with fail
 apply Rn K1 HB1 [(0,4,_)]
 ·exact oc g_as on
 intro u2 HB2 sz2 K2
 simp only[sQ] at K2⊢
 clear K1 HB1
 go_wp2
 refine bodyPost_ret (v:= .nilIface) (by simp[results,Tryz.results95,go_sem,]) rfl ⟨rfl,HB2⟩
theorem dCounted(s:ByteArray)(n:Nat)(w:World)(hG:GP w)(hs:s.size<=100)(hn:n<=256): ∃b,decide (n<1)=b/\ ∃V,AE b w V/\Hid (∀u,Bw w u->CC 95 #[.string s,.int .i64 (n:Int)] u V):=by
 by_cases h:n<1
 ·exact⟨true,decide_eq_true h,_,.inr ⟨rfl,1,.flt 0 _ _ (.leaf 0)⟩,fun u hB=>counted_t s n u (hG.below hB) hs hn (by simp;omega)⟩
 ·exact⟨false,decide_eq_false h,_,.inl ⟨rfl,rfl⟩,fun u hB=>counted_f s n u (hG.below hB) hs hn (by simp;omega)⟩
theorem pPolynomial_00(q:Int)(sl:Option Addr)(n cap:Nat)(w:World)(a0:AE false w (.nilIface))(a1:AE false w (.nilIface))
 (hM:Hid (∀u,CC 94 #[NV q] u (.nilIface)))(hC:Hid (∀u,Bw w u->CC 95 #[.string ⟨#[99,111,101,102,102,105,99,105,101,110,116,115]⟩,.int .i64 (n:Int)] u (.nilIface))):
 Calls Tryz.prog 67 #[NV q,.slice sl n cap] w fun e u=> ∃y,e= .returned y/\AE (false || false) u y/\Bw w u:=by
 have hB0:Bw w (w.alloc (.cells (LN q:List Value).toArray 24)):=Z1 (Z9 w) _
 go_enter Tryz.func67,Tryz.ntmps67
 go_wp2_with (first
  | (go_at_call 94;refine(hM.out _).mono ?_;clear hM;rintro e ua ⟨rfl,hBa⟩;replace hBa:=Z6 hB0 hBa;clear hB0;replace hC:=hC.out ua hBa)
  | (go_at_call 95;refine hC.mono ?_;clear hC;rintro e ub ⟨rfl,hBb⟩;replace hBb:=Z6 hBa hBb;clear hBa)
  | (go_at_call 93;refine(Tr ub.heap.size 2 (.nilIface) (.nilIface) false false (ub.alloc (.cells #[.nilIface,.nilIface] 90)) (by simp) (by simp) (by simp) (a0.up (Z1 hBb _)) (a1.up (Z1 hBb _))).mono ?_;clear a0 a1;rintro e uc ⟨y2,rfl,hy2,hBc⟩;replace hBc:=Z6 (Z1 hBb (.cells #[.nilIface,.nilIface] 90)) hBc))
 exact bodyPost_ret (v:=y2) (by rcases hy2.or with rfl | ⟨T,z,rfl⟩<;>simp[results,Tryz.results67,go_sem]) rfl ⟨y2,rfl,hy2,hBc⟩
theorem pPolynomial_01(q:Int)(sl:Option Addr)(n cap:Nat)(T1:TypeId)(z1:Value)(w:World)(a0:AE false w (.nilIface))(a1:AE true w (.iface T1 z1))
 (hM:Hid (∀u,CC 94 #[NV q] u (.nilIface)))(hC:Hid (∀u,Bw w u->CC 95 #[.string ⟨#[99,111,101,102,102,105,99,105,101,110,116,115]⟩,.int .i64 (n:Int)] u (.iface T1 z1))):
 Calls Tryz.prog 67 #[NV q,.slice sl n cap] w fun e u=> ∃y,e= .returned y/\AE (false || true) u y/\Bw w u:=by
 have hB0:Bw w (w.alloc (.cells (LN q:List Value).toArray 24)):=Z1 (Z9 w) _
 go_enter Tryz.func67,Tryz.ntmps67
 go_wp2_with (first
  | (go_at_call 94;refine(hM.out _).mono ?_;clear hM;rintro e ua ⟨rfl,hBa⟩;replace hBa:=Z6 hB0 hBa;clear hB0;replace hC:=hC.out ua hBa)
  | (go_at_call 95;refine hC.mono ?_;clear hC;rintro e ub ⟨rfl,hBb⟩;replace hBb:=Z6 hBa hBb;clear hBa)
  | (go_at_call 93;refine(Tr ub.heap.size 2 (.nilIface) (.iface T1 z1) false true (ub.alloc (.cells #[.nilIface,.iface T1 z1] 90)) (by simp) (by simp) (by simp) (a0.up (Z1 hBb _)) (a1.up (Z1 hBb _))).mono ?_;clear a0 a1;rintro e uc ⟨y2,rfl,hy2,hBc⟩;replace hBc:=Z6 (Z1 hBb (.cells #[.nilIface,.iface T1 z1] 90)) hBc))
 exact bodyPost_ret (v:=y2) (by rcases hy2.or with rfl | ⟨T,z,rfl⟩<;>simp[results,Tryz.results67,go_sem]) rfl ⟨y2,rfl,hy2,hBc⟩
theorem pPolynomial_10(q:Int)(sl:Option Addr)(n cap:Nat)(T0:TypeId)(z0:Value)(w:World)(a0:AE true w (.iface T0 z0))(a1:AE false w (.nilIface))
 (hM:Hid (∀u,CC 94 #[NV q] u (.iface T0 z0)))(hC:Hid (∀u,Bw w u->CC 95 #[.string ⟨#[99,111,101,102,102,105,99,105,101,110,116,115]⟩,.int .i64 (n:Int)] u (.nilIface))):
 Calls Tryz.prog 67 #[NV q,.slice sl n cap] w fun e u=> ∃y,e= .returned y/\AE (true || false) u y/\Bw w u:=by
 have hB0:Bw w (w.alloc (.cells (LN q:List Value).toArray 24)):=Z1 (Z9 w) _
 go_enter Tryz.func67,Tryz.ntmps67
 go_wp2_with (first
  | (go_at_call 94;refine(hM.out _).mono ?_;clear hM;rintro e ua ⟨rfl,hBa⟩;replace hBa:=Z6 hB0 hBa;clear hB0;replace hC:=hC.out ua hBa)
  | (go_at_call 95;refine hC.mono ?_;clear hC;rintro e ub ⟨rfl,hBb⟩;replace hBb:=Z6 hBa hBb;clear hBa)
  | (go_at_call 93;refine(Tr ub.heap.size 2 (.iface T0 z0) (.nilIface) true false (ub.alloc (.cells #[.iface T0 z0,.nilIface] 90)) (by simp) (by simp) (by simp) (a0.up (Z1 hBb _)) (a1.up (Z1 hBb _))).mono ?_;clear a0 a1;rintro e uc ⟨y2,rfl,hy2,hBc⟩;replace hBc:=Z6 (Z1 hBb (.cells #[.iface T0 z0,.nilIface] 90)) hBc))
 exact bodyPost_ret (v:=y2) (by rcases hy2.or with rfl | ⟨T,z,rfl⟩<;>simp[results,Tryz.results67,go_sem]) rfl ⟨y2,rfl,hy2,hBc⟩
theorem pPolynomial_11(q:Int)(sl:Option Addr)(n cap:Nat)(T0:TypeId)(z0:Value)(T1:TypeId)(z1:Value)(w:World)(a0:AE true w (.iface T0 z0))(a1:AE true w (.iface T1 z1))
 (hM:Hid (∀u,CC 94 #[NV q] u (.iface T0 z0)))(hC:Hid (∀u,Bw w u->CC 95 #[.string ⟨#[99,111,101,102,102,105,99,105,101,110,116,115]⟩,.int .i64 (n:Int)] u (.iface T1 z1))):
 Calls Tryz.prog 67 #[NV q,.slice sl n cap] w fun e u=> ∃y,e= .returned y/\AE (true || true) u y/\Bw w u:=by
 have hB0:Bw w (w.alloc (.cells (LN q:List Value).toArray 24)):=Z1 (Z9 w) _
 go_enter Tryz.func67,Tryz.ntmps67
 go_wp2_with (first
  | (go_at_call 94;refine(hM.out _).mono ?_;clear hM;rintro e ua ⟨rfl,hBa⟩;replace hBa:=Z6 hB0 hBa;clear hB0;replace hC:=hC.out ua hBa)
  | (go_at_call 95;refine hC.mono ?_;clear hC;rintro e ub ⟨rfl,hBb⟩;replace hBb:=Z6 hBa hBb;clear hBa)
  | (go_at_call 93;refine(Tr ub.heap.size 2 (.iface T0 z0) (.iface T1 z1) true true (ub.alloc (.cells #[.iface T0 z0,.iface T1 z1] 90)) (by simp) (by simp) (by simp) (a0.up (Z1 hBb _)) (a1.up (Z1 hBb _))).mono ?_;clear a0 a1;rintro e uc ⟨y2,rfl,hy2,hBc⟩;replace hBc:=Z6 (Z1 hBb (.cells #[.iface T0 z0,.iface T1 z1] 90)) hBc))
 exact bodyPost_ret (v:=y2) (by rcases hy2.or with rfl | ⟨T,z,rfl⟩<;>simp[results,Tryz.results67,go_sem]) rfl ⟨y2,rfl,hy2,hBc⟩
theorem pPolynomial(q:Int)(sl:Option Addr)(n cap:Nat)(w:World)(hG:GP w)(hq:In q)(hn:n<=256):
 Calls Tryz.prog 67 #[NV q,.slice sl n cap] w fun e u=> ∃y,e= .returned y/\AE (decide (q<2) || decide (n<1)) u y/\Bw w u:=by
 obtain⟨b0,h0,V0,a0,hM⟩:=dModulus q w hq
 obtain⟨b1,h1,V1,a1,hC⟩:=dCounted ⟨#[99,111,101,102,102,105,99,105,101,110,116,115]⟩ n w hG (by decide) hn
 rw[h0,h1]
 have a0':=a0
 have a1':=a1
 rcases a0' with⟨rfl,rfl⟩ | ⟨rfl,d0,k0⟩
 ·rcases a1' with⟨rfl,rfl⟩ | ⟨rfl,d1,k1⟩
  ·exact pPolynomial_00 q sl n cap w a0 a1 hM hC
  ·obtain⟨T1,z1,rfl⟩:=k1.some
   exact pPolynomial_01 q sl n cap T1 z1 w a0 a1 hM hC
 ·obtain⟨T0,z0,rfl⟩:=k0.some
  rcases a1' with⟨rfl,rfl⟩ | ⟨rfl,d1,k1⟩
  ·exact pPolynomial_10 q sl n cap T0 z0 w a0 a1 hM hC
  ·obtain⟨T1,z1,rfl⟩:=k1.some
   exact pPolynomial_11 q sl n cap T0 z0 T1 z1 w a0 a1 hM hC
theorem pPointsOf_00(q:Int)(n:Nat)(w:World)(a0:AE false w (.nilIface))(a1:AE false w (.nilIface))
 (hM:Hid (∀u,CC 94 #[NV q] u (.nilIface)))(hC:Hid (∀u,Bw w u->CC 95 #[.string ⟨#[112,111,105,110,116,115]⟩,.int .i64 (n:Int)] u (.nilIface))):
 Calls Tryz.prog 76 #[NV q,.int .i64 (n:Int)] w fun e u=> ∃y,e= .returned y/\AE (false || false) u y/\Bw w u:=by
 have hB0:Bw w (w.alloc (.cells (LN q:List Value).toArray 24)):=Z1 (Z9 w) _
 go_enter Tryz.func76,Tryz.ntmps76
 go_wp2_with (first
  | (go_at_call 94;refine(hM.out _).mono ?_;clear hM;rintro e ua ⟨rfl,hBa⟩;replace hBa:=Z6 hB0 hBa;clear hB0;replace hC:=hC.out ua hBa)
  | (go_at_call 95;refine hC.mono ?_;clear hC;rintro e ub ⟨rfl,hBb⟩;replace hBb:=Z6 hBa hBb;clear hBa)
  | (go_at_call 93;refine(Tr ub.heap.size 2 (.nilIface) (.nilIface) false false (ub.alloc (.cells #[.nilIface,.nilIface] 90)) (by simp) (by simp) (by simp) (a0.up (Z1 hBb _)) (a1.up (Z1 hBb _))).mono ?_;clear a0 a1;rintro e uc ⟨y2,rfl,hy2,hBc⟩;replace hBc:=Z6 (Z1 hBb (.cells #[.nilIface,.nilIface] 90)) hBc))
 exact bodyPost_ret (v:=y2) (by rcases hy2.or with rfl | ⟨T,z,rfl⟩<;>simp[results,Tryz.results76,go_sem]) rfl ⟨y2,rfl,hy2,hBc⟩
theorem pPointsOf_01(q:Int)(n:Nat)(T1:TypeId)(z1:Value)(w:World)(a0:AE false w (.nilIface))(a1:AE true w (.iface T1 z1))
 (hM:Hid (∀u,CC 94 #[NV q] u (.nilIface)))(hC:Hid (∀u,Bw w u->CC 95 #[.string ⟨#[112,111,105,110,116,115]⟩,.int .i64 (n:Int)] u (.iface T1 z1))):
 Calls Tryz.prog 76 #[NV q,.int .i64 (n:Int)] w fun e u=> ∃y,e= .returned y/\AE (false || true) u y/\Bw w u:=by
 have hB0:Bw w (w.alloc (.cells (LN q:List Value).toArray 24)):=Z1 (Z9 w) _
 go_enter Tryz.func76,Tryz.ntmps76
 go_wp2_with (first
  | (go_at_call 94;refine(hM.out _).mono ?_;clear hM;rintro e ua ⟨rfl,hBa⟩;replace hBa:=Z6 hB0 hBa;clear hB0;replace hC:=hC.out ua hBa)
  | (go_at_call 95;refine hC.mono ?_;clear hC;rintro e ub ⟨rfl,hBb⟩;replace hBb:=Z6 hBa hBb;clear hBa)
  | (go_at_call 93;refine(Tr ub.heap.size 2 (.nilIface) (.iface T1 z1) false true (ub.alloc (.cells #[.nilIface,.iface T1 z1] 90)) (by simp) (by simp) (by simp) (a0.up (Z1 hBb _)) (a1.up (Z1 hBb _))).mono ?_;clear a0 a1;rintro e uc ⟨y2,rfl,hy2,hBc⟩;replace hBc:=Z6 (Z1 hBb (.cells #[.nilIface,.iface T1 z1] 90)) hBc))
 exact bodyPost_ret (v:=y2) (by rcases hy2.or with rfl | ⟨T,z,rfl⟩<;>simp[results,Tryz.results76,go_sem]) rfl ⟨y2,rfl,hy2,hBc⟩
theorem pPointsOf_10(q:Int)(n:Nat)(T0:TypeId)(z0:Value)(w:World)(a0:AE true w (.iface T0 z0))(a1:AE false w (.nilIface))
 (hM:Hid (∀u,CC 94 #[NV q] u (.iface T0 z0)))(hC:Hid (∀u,Bw w u->CC 95 #[.string ⟨#[112,111,105,110,116,115]⟩,.int .i64 (n:Int)] u (.nilIface))):
 Calls Tryz.prog 76 #[NV q,.int .i64 (n:Int)] w fun e u=> ∃y,e= .returned y/\AE (true || false) u y/\Bw w u:=by
 have hB0:Bw w (w.alloc (.cells (LN q:List Value).toArray 24)):=Z1 (Z9 w) _
 go_enter Tryz.func76,Tryz.ntmps76
 go_wp2_with (first
  | (go_at_call 94;refine(hM.out _).mono ?_;clear hM;rintro e ua ⟨rfl,hBa⟩;replace hBa:=Z6 hB0 hBa;clear hB0;replace hC:=hC.out ua hBa)
  | (go_at_call 95;refine hC.mono ?_;clear hC;rintro e ub ⟨rfl,hBb⟩;replace hBb:=Z6 hBa hBb;clear hBa)
  | (go_at_call 93;refine(Tr ub.heap.size 2 (.iface T0 z0) (.nilIface) true false (ub.alloc (.cells #[.iface T0 z0,.nilIface] 90)) (by simp) (by simp) (by simp) (a0.up (Z1 hBb _)) (a1.up (Z1 hBb _))).mono ?_;clear a0 a1;rintro e uc ⟨y2,rfl,hy2,hBc⟩;replace hBc:=Z6 (Z1 hBb (.cells #[.iface T0 z0,.nilIface] 90)) hBc))
 exact bodyPost_ret (v:=y2) (by rcases hy2.or with rfl | ⟨T,z,rfl⟩<;>simp[results,Tryz.results76,go_sem]) rfl ⟨y2,rfl,hy2,hBc⟩
theorem pPointsOf_11(q:Int)(n:Nat)(T0:TypeId)(z0:Value)(T1:TypeId)(z1:Value)(w:World)(a0:AE true w (.iface T0 z0))(a1:AE true w (.iface T1 z1))
 (hM:Hid (∀u,CC 94 #[NV q] u (.iface T0 z0)))(hC:Hid (∀u,Bw w u->CC 95 #[.string ⟨#[112,111,105,110,116,115]⟩,.int .i64 (n:Int)] u (.iface T1 z1))):
 Calls Tryz.prog 76 #[NV q,.int .i64 (n:Int)] w fun e u=> ∃y,e= .returned y/\AE (true || true) u y/\Bw w u:=by
 have hB0:Bw w (w.alloc (.cells (LN q:List Value).toArray 24)):=Z1 (Z9 w) _
 go_enter Tryz.func76,Tryz.ntmps76
 go_wp2_with (first
  | (go_at_call 94;refine(hM.out _).mono ?_;clear hM;rintro e ua ⟨rfl,hBa⟩;replace hBa:=Z6 hB0 hBa;clear hB0;replace hC:=hC.out ua hBa)
  | (go_at_call 95;refine hC.mono ?_;clear hC;rintro e ub ⟨rfl,hBb⟩;replace hBb:=Z6 hBa hBb;clear hBa)
  | (go_at_call 93;refine(Tr ub.heap.size 2 (.iface T0 z0) (.iface T1 z1) true true (ub.alloc (.cells #[.iface T0 z0,.iface T1 z1] 90)) (by simp) (by simp) (by simp) (a0.up (Z1 hBb _)) (a1.up (Z1 hBb _))).mono ?_;clear a0 a1;rintro e uc ⟨y2,rfl,hy2,hBc⟩;replace hBc:=Z6 (Z1 hBb (.cells #[.iface T0 z0,.iface T1 z1] 90)) hBc))
 exact bodyPost_ret (v:=y2) (by rcases hy2.or with rfl | ⟨T,z,rfl⟩<;>simp[results,Tryz.results76,go_sem]) rfl ⟨y2,rfl,hy2,hBc⟩
theorem pPointsOf(q:Int)(n:Nat)(w:World)(hG:GP w)(hq:In q)(hn:n<=256):
 Calls Tryz.prog 76 #[NV q,.int .i64 (n:Int)] w fun e u=> ∃y,e= .returned y/\AE (decide (q<2) || decide (n<1)) u y/\Bw w u:=by
 obtain⟨b0,h0,V0,a0,hM⟩:=dModulus q w hq
 obtain⟨b1,h1,V1,a1,hC⟩:=dCounted ⟨#[112,111,105,110,116,115]⟩ n w hG (by decide) hn
 rw[h0,h1]
 have a0':=a0
 have a1':=a1
 rcases a0' with⟨rfl,rfl⟩ | ⟨rfl,d0,k0⟩
 ·rcases a1' with⟨rfl,rfl⟩ | ⟨rfl,d1,k1⟩
  ·exact pPointsOf_00 q n w a0 a1 hM hC
  ·obtain⟨T1,z1,rfl⟩:=k1.some
   exact pPointsOf_01 q n T1 z1 w a0 a1 hM hC
 ·obtain⟨T0,z0,rfl⟩:=k0.some
  rcases a1' with⟨rfl,rfl⟩ | ⟨rfl,d1,k1⟩
  ·exact pPointsOf_10 q n T0 z0 w a0 a1 hM hC
  ·obtain⟨T1,z1,rfl⟩:=k1.some
   exact pPointsOf_11 q n T0 z0 T1 z1 w a0 a1 hM hC
end
def IL(u:World)(v:Value)(xs:List Int):Prop:= ∃sl gb go cap,v= .slice sl xs.length cap/\xs.length<=cap/\(sl=none->cap=0)/\(xs=[]\/sl=some ⟨gb,go,none⟩)/\(xs.length=0\/gb<u.heap.size)/\ ∀j,j<xs.length->u.cell? ⟨gb,go+j,none⟩=some (.int .i64 (xs.getD j 0))
theorem IL.up{w u:World}{v:Value}{xs:List Int}(h:IL w v xs)(hB:Bw w u):IL u v xs:=by
 obtain⟨sl,gb,go,cap,h1,h2,h3,h4,h5,h6⟩:=h
 refine⟨sl,gb,go,cap,h1,h2,h3,h4,h5.imp id fun e=>Nat.lt_of_lt_of_le e hB.size,fun j hj=>?_⟩
 exact(hB.cell (p:=⟨gb,go+j,none⟩) (h5.resolve_left (by omega))).trans (h6 j hj)
theorem IL.stab{xs:List Int}{u u2:World}{x:Value}(hB:Bw u u2)(h:IL u x xs):IL u2 x xs:=h.up hB
end
end Go.Proofs.YtbbohmgjphpfeaaGreatDoor
