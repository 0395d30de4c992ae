import Derived.Test.YtmoimodkopjeeaaGreatDoorMR1
import Derived.Test.YtmoimodkopjeeaaGreatDoorAPA
import Derived.Test.YtmoimodkopjeeaaGreatDoorRows
import Derived.Test.YtmoimodkopjeeaaGreatDoorTie
import Derived.Test.YtmoimodkopjeeaaGreatDoorCards
import Derived.LaidMore
import Derived.SevenTiedAt
namespace Go.Proofs.YtmoimodkopjeeaaGreatDoor
set_option linter.unusedVariables false
set_option linter.unusedSimpArgs false
set_option maxRecDepth 100000
set_option maxHeartbeats 4000000
section
def Pr(p:Nat):Prop:=2<=p/\ ∀d,d∣p->d=1\/d=p
theorem Pr.cop{p a:Nat}(h:Pr p)(ha: ¬p∣a):Nat.gcd p a=1:=by
 rcases h.2 _ (Nat.gcd_dvd_left p a) with e | e
 ·exact e
 ·exact absurd (by rw[<-e];exact Nat.gcd_dvd_right p a) ha
theorem Pr.dvd{p a b:Nat}(h:Pr p)(hd:p∣a*b):p∣a\/p∣b:=by
 by_cases ha:p∣a
 ·exact .inl ha
 ·exact .inr (Nat.Coprime.dvd_of_dvd_mul_left (show Nat.Coprime p a from h.cop ha) hd)
theorem Pr.ex: ∀(n d:Nat),d<=n->2<=d-> ∃p,Pr p/\p∣d
 | 0,d,h,h2=>by omega
 | n+1,d,h,h2=>by
  by_cases hp:Pr d
  ·exact⟨d,hp,Nat.dvd_refl d⟩
  ·have: ∃e,e∣d/\e≠1/\e≠d:=Classical.byContradiction fun hn=>hp ⟨h2,fun e he=>by
    by_cases e1:e=1
    ·exact .inl e1
    ·by_cases e2:e=d
     ·exact .inr e2
     ·exact absurd ⟨e,he,e1,e2⟩ hn⟩
   obtain⟨e,he,e1,e2⟩:=this
   have hpos:0<e:=Nat.pos_of_dvd_of_pos he (by omega)
   have hle:e<=d:=Nat.le_of_dvd (by omega) he
   obtain⟨p,hp,hd⟩:=Pr.ex n e (by omega) (by omega)
   exact⟨p,hp,Nat.dvd_trans hd he⟩
def V6:List Nat->Nat
 | []=>1
 | a::r=>a*V6 r
theorem prod_erase{a:Nat}: ∀{l:List Nat},a∈l->V6 l=a*V6 (l.erase a)
 | [],h=>by cases h
 | b::r,h=>by
  by_cases e:b=a
  ·subst e;simp[V6]
  ·have hm:a∈r:=by
    rcases List.mem_cons.1 h with h | h
    ·exact absurd h.symm e
    ·exact h
   rw[List.erase_cons_tail (by simpa using e),V6,V6,prod_erase hm]
   rw[<-Nat.mul_assoc,Nat.mul_comm b a,Nat.mul_assoc]
theorem prod_same: ∀{l m:List Nat},l.Nodup->(∀x∈l,x∈m)->l.length=m.length->V6 l=V6 m
 | [],m,_,_,h=>by
  have:m=[]:=List.eq_nil_of_length_eq_zero h.symm
  rw[this]
 | a::t,m,hn,hs,hl=>by
  rw[List.nodup_cons] at hn
  have ha:=hs a List.mem_cons_self
  rw[prod_erase ha,V6,prod_same (l:=t) (m:=m.erase a) hn.2
   (fun x hx=>(List.mem_erase_of_ne (fun e=>hn.1 (by rw[<-e];exact hx))).2 (hs x (List.mem_cons_of_mem _ hx)))
   (by rw[List.length_erase_of_mem ha,<-hl];simp)]
theorem prod_map(b p:Nat): ∀l:List Nat,V6 (l.map fun i=>b*i%p)%p=b^l.length*V6 l%p
 | []=>by simp[V6]
 | a::r=>by
  rw[List.map_cons,V6,Nat.mul_mod,prod_map b p r,Nat.mod_mod,<-Nat.mul_mod,V6,List.length_cons,Nat.pow_succ]
  congr 1
  rw[Nat.mul_comm (b^r.length) b,Nat.mul_assoc,Nat.mul_assoc]
  congr 1
  rw[<-Nat.mul_assoc,<-Nat.mul_assoc,Nat.mul_comm a (b^r.length)]
theorem prod_not{p:Nat}(hp:Pr p): ∀{l:List Nat},(∀x∈l,0<x/\x<p)-> ¬p∣V6 l
 | [],_,h=>by
  have:=Nat.le_of_dvd (Nat.one_pos) h
  have:=hp.1
  omega
 | a::r,h,hd=>by
  rcases hp.dvd hd with h1 | h1
  ·have:=Nat.le_of_dvd (h a List.mem_cons_self).1 h1
   have:=(h a List.mem_cons_self).2
   omega
  ·exact prod_not hp (fun x hx=>h x (List.mem_cons_of_mem _ hx)) h1
theorem Uj{p a b:Nat}(h:a%p=b%p):p∣a -b:=
 Nat.dvd_of_mod_eq_zero (Nat.sub_mod_eq_zero_of_mod_eq h)
theorem mod_of_dvd{p a b:Nat}(hab:b<=a)(h:p∣a -b):a%p=b%p:=by
 obtain⟨c,hc⟩:=h
 have:a=b+p*c:=by omega
 rw[this,Nat.add_mul_mod_self_left]
theorem Pr.cancel{p c a b:Nat}(hp:Pr p)(hc: ¬p∣c)(h:c*a%p=c*b%p):a%p=b%p:=by
 rcases Nat.le_total b a with hab | hab
 ·have:=Uj h
  rw[<-Nat.mul_sub] at this
  exact mod_of_dvd hab ((hp.dvd this).resolve_left hc)
 ·have:=Uj h.symm
  rw[<-Nat.mul_sub] at this
  exact(mod_of_dvd hab ((hp.dvd this).resolve_left hc)).symm
theorem Pr.fermat{p b:Nat}(hp:Pr p)(hb: ¬p∣b):b^(p -1)%p=1:=by
 have h2:=hp.1
 have hm: ∀x,x∈List.range' 1 (p -1)↔0<x/\x<p:=fun x=>by
  rw[List.mem_range'_1];omega
 have hin: ∀x∈(List.range' 1 (p -1)).map (fun i=>b*i%p),x∈List.range' 1 (p -1):=fun x hx=>by
  obtain⟨i,hi,rfl⟩:=List.mem_map.1 hx
  have hi:=(hm i).1 hi
  refine(hm _).2 ⟨Nat.pos_of_ne_zero fun e=>?_,Nat.mod_lt _ (by omega)⟩
  rcases hp.dvd (Nat.dvd_of_mod_eq_zero e) with h | h
  ·exact hb h
  ·have:=Nat.le_of_dvd hi.1 h
   omega
 have hnd:((List.range' 1 (p -1)).map (fun i=>b*i%p)).Nodup:=by
  refine List.Pairwise.map _ (R:=fun x y=>(0<x/\x<p)/\(0<y/\y<p)/\x≠y) (fun x y h e=>?_) ?_
  ·have:=hp.cancel hb e
   rw[Nat.mod_eq_of_lt h.1.2,Nat.mod_eq_of_lt h.2.1.2] at this
   exact h.2.2 this
  ·refine List.Pairwise.imp_of_mem (fun{x y} hx hy h=>⟨(hm x).1 hx,(hm y).1 hy,h⟩) (List.nodup_range' (step:=1) (by omega))
 have e:=prod_map b p (List.range' 1 (p -1))
 rw[prod_same hnd hin (by simp),List.length_range',Nat.mul_comm] at e
 have:=hp.cancel (c:=V6 (List.range' 1 (p -1))) (a:=1) (b:=b^(p -1))
  (prod_not hp fun x hx=>(hm x).1 hx) (by rw[Nat.mul_one];exact e)
 rw[<-this,Nat.mod_eq_of_lt h2]
theorem pow_one_mod{b m p:Nat}(h:b^m%p=1)(k:Nat):b^(m*k)%p=1%p:=by
 rw[Nat.pow_mul,Nat.pow_mod,h,Nat.one_pow]
theorem pow_gcd{b p:Nat}(h2:2<=p): ∀m n,b^m%p=1->b^n%p=1->b^Nat.gcd m n%p=1:=by
 intro m n
 induction m,n using Nat.gcd.induction with
 | H0 n=>intro _ h;rw[Nat.gcd_zero_left];exact h
 | H1 m n hm ih=>
  intro h1 h3
  rw[Nat.gcd_rec]
  refine ih ?_ h1
  have:=h3
  rw[<-Nat.div_add_mod n m,Nat.pow_add,Nat.mul_mod,pow_one_mod h1,Nat.mod_eq_of_lt h2,Nat.one_mul,Nat.mod_mod] at this
  exact this
theorem pock1{N F q A r:Nat}(hF:Pr F)(hN:N=F*q+1)(hq:q<F)
 (h1:A^(N -1)%N=1)(hg: ∀d,d∣N->A^q%d=1%d->d=1)(hr:Pr r)(hd:r∣N):F<r:=by
 have h2:=hr.1
 have hq1:N -1=q*F:=by rw[hN,Nat.add_sub_cancel,Nat.mul_comm]
 have m1:1%r=1:=Nat.mod_eq_of_lt h2
 have e1:(A^q)^F%r=1:=by
  rw[<-Nat.pow_mul,<-hq1,<-Nat.mod_mod_of_dvd _ hd,h1,m1]
 have hnd: ¬r∣A^q:=fun h=>by
  have h:A^q%r=0:=Nat.mod_eq_zero_of_dvd h
  rw[Nat.pow_mod,h,Nat.zero_pow (by have:=hF.1;omega)] at e1
  simp at e1
 have e2:=hr.fermat hnd
 have e3:=pow_gcd h2 _ _ e1 e2
 rcases hF.2 _ (Nat.gcd_dvd_left F (r -1)) with g | g
 ·rw[g,Nat.pow_one] at e3
  have:=hg r hd (by rw[e3,m1])
  omega
 ·have:=Nat.le_of_dvd (by omega) (g▸Nat.gcd_dvd_right F (r -1))
  omega
theorem pock{N F q A:Nat}(hF:Pr F)(hN:N=F*q+1)(h3:2<=N)(hq:q<F)
 (h1:A^(N -1)%N=1)(hg: ∀d,d∣N->A^q%d=1%d->d=1):Pr N:=by
 have hF2:=hF.1
 have big: ∀d,d∣N->2<=d->F<d:=fun d hd hd2=>by
  obtain⟨r,hr,hrd⟩:=Pr.ex d d (Nat.le_refl d) hd2
  have:=pock1 hF hN hq h1 hg hr (Nat.dvd_trans hrd hd)
  exact Nat.lt_of_lt_of_le this (Nat.le_of_dvd (by omega) hrd)
 refine⟨h3,fun d hd=>?_⟩
 obtain⟨e,he⟩:=hd
 by_cases d1:d=1
 ·exact .inl d1
 refine .inr ?_
 by_cases e1:e=1
 ·rw[he,e1,Nat.mul_one]
 exfalso
 have d0:d≠0:=fun h=>by rw[h,Nat.zero_mul] at he;omega
 have e0:e≠0:=fun h=>by rw[h,Nat.mul_zero] at he;omega
 have a:=big d ⟨e,he⟩ (by omega)
 have b:=big e ⟨d,by rw[Nat.mul_comm];exact he⟩ (by omega)
 have c:(F+1)*(F+1)<=N:=by rw[he];exact Nat.mul_le_mul a b
 have c2:F*q<=F*F:=Nat.mul_le_mul_left F (by omega)
 rw[Nat.add_mul,Nat.mul_add] at c
 omega
theorem gcd_demand{N q A x:Nat}(hx:x<N)(hs:(x+1)%N=A^q%N)(hg:Nat.gcd x N=1):
 ∀d,d∣N->A^q%d=1%d->d=1:=by
 intro d hd e
 have:(x+1)%d=1%d:=by rw[<-Nat.mod_mod_of_dvd _ hd,hs,Nat.mod_mod_of_dvd _ hd,e]
 have h:=Uj this
 rw[Nat.add_sub_cancel] at h
 exact Nat.eq_one_of_dvd_one (hg▸Nat.dvd_gcd h hd)
theorem trial{n:Nat}(h2:2<=n)(h: ∀d,2<=d->d*d<=n->n%d≠0):Pr n:=by
 refine⟨h2,fun d hd=>?_⟩
 obtain⟨e,he⟩:=hd
 by_cases d1:d=1
 ·exact .inl d1
 refine .inr ?_
 by_cases e1:e=1
 ·rw[he,e1,Nat.mul_one]
 exfalso
 have d0:d≠0:=fun h=>by rw[h,Nat.zero_mul] at he;omega
 have e0:e≠0:=fun h=>by rw[h,Nat.mul_zero] at he;omega
 rcases Nat.le_total d e with hl | hl
 ·exact h d (by omega) (by rw[he];exact Nat.mul_le_mul_left d hl) (by rw[he,Nat.mul_mod_right])
 ·exact h e (by omega) (by rw[he];exact Nat.mul_le_mul_right e hl) (by rw[he,Nat.mul_mod_left])
end
section
open Go.RowKit
theorem nCompare(n m:Int)(w:World)(hn:In n)(hm:In m):CC 103 #[NV n,NV m] w (iI (cmpI n m)):=by
 have k:=Compare_any _ _ _ _ _ _ _ _ w (W_D0 n) (W_D1 n) (W_D2 n) (W_D3 n) (W_D0 m) (W_D1 m) (W_D2 m) (W_D3 m)
 simp only[V_In hn,V_In hm] at k
 exact k
theorem Zu:EnT 103:=fun _ _=>by kernel_rfl
theorem rem_u(p q:Operand)(x y z:Int)(w:World)(h0:0<=x)(hx:x<18446744073709551616)(h1:0<y)(h:x%y=z):(do eqGuard .rem 22 p q (iU x) (iU y);binOp .rem 22 (iU x) (iU y):Sem Value).run Tryz.prog w= .ok (iU z) w:=by
 have hy:y≠0:=by omega
 have hb:(y==0)=false:=by simp[hy]
 have e:x.tmod y=z:=by rw[Int.tmod_eq_emod_of_nonneg h0,h]
 have z0:0<=z:=by rw[<-h];exact Int.emod_nonneg x hy
 have z1:z<=x:=by
  have a:=Int.mul_ediv_add_emod x y
  have b:0<=y*(x/y):=Int.mul_nonneg (by omega) (Int.ediv_nonneg h0 (by omega))
  omega
 have wz:IntKind.u64.wrap z=z:=by simp[IntKind.wrap,IntKind.signed,IntKind.bits];omega
 go_simp
def Sm(x:Int):Prop:=2<=x/\x<1048576/\ ∀d:Int,2<=d->d*d<=x->x%d≠0
open Classical in
noncomputable def smB (x:Int):Bool:=decide (Sm x)
theorem smB_t{x:Int}(h:Sm x):smB x=true:=by simp[smB,h]
theorem Sm.pr{x:Int}(h:Sm x):Pr x.toNat:=trial (by have:=h.1;omega) fun d hd hq he=>h.2.2 d (by omega) (by
 have:=h.1
 have e:((d*d:Nat):Int)<=((x.toNat:Nat):Int):=Int.ofNat_le.2 hq
 rw[Int.toNat_of_nonneg (by omega)] at e
 rw[Int.natCast_mul] at e;exact e) (by
 have:=h.1
 have e:((x.toNat%d:Nat):Int)=0:=by rw[he];rfl
 rw[Int.natCast_emod,Int.toNat_of_nonneg (by omega)] at e;exact e)
section
def tx(n:Int):ByteArray:=strOfNums (txl (D0 n) (D1 n) (D2 n) (D3 n) (nd (D0 n) (D1 n) (D2 n) (D3 n)))
theorem nText(n:Int)(w:World):CC 104 #[NV n] w (.string (tx n)):=Text_any _ _ _ _ w (W_D0 n) (W_D1 n) (W_D2 n) (W_D3 n)
theorem tx_sz(n:Int):(tx n).size<=64:=by
 unfold tx
 rw[strOfNums_size]
 unfold txl
 rw[List.length_map,List.length_range]
 have:=blen_bd _ _ _ _ (W_D0 n) (W_D1 n) (W_D2 n) (W_D3 n)
 unfold nd
 split<;>omega
section
variable {R:Rg} {P:Program} {Q:Exit->Act->World->Prop} {ops:Array Oper} {i:Nat} {o:Oper}
theorem g_mi{T:TypeId}{x:Operand}{vx v:Value}(hr: ∀w,(Instr.makeInterface T vx).run P w= .ok v w)(hop:o.op= .makeInterface T x:=by rfl)(hx:evR R i o x=some vx:=by rfl)(hv:some v=Zv i R.G:=by rfl)(hc:R.chk ops i o=true:=by rfl):OG R P ops Q i o:=
 g_op (fun ev u he=>by
  unfold execOp;rw[hop];simp only[he _ _ hx]
  rw[Sem.run_bind,hr,Result.andThen_ok,Sem.run_pure]) hv hc
end
theorem miE(n:Int)(w:World):(Instr.makeInterface 31 (iI n)).run Tryz.prog w= .ok (.iface 31 (iI n)) w:=by kernel_rfl
theorem miF(s:ByteArray)(T:TypeId)(x:Value)(w:World):(Instr.makeInterface 143 (.agg #[.string s,.iface T x])).run Tryz.prog w= .ok (.iface 143 (.agg #[.string s,.iface T x])) w:=by kernel_rfl
theorem bdFl(s:ByteArray)(T:TypeId)(x:Value)(w:World):(Instr.build 143 [(0,.string s),(1,.iface T x)].toArray).run Tryz.prog w= .ok (.agg #[.string s,.iface T x]) w:=by kernel_rfl
theorem add_st(p q:Operand)(s t:ByteArray)(w:World)(hs:s.size<=500)(ht:t.size<=500):(do eqGuard .add 9 p q (.string s) (.string t);binOp .add 9 (.string s) (.string t):Sem Value).run Tryz.prog w= .ok (.string (s++t)) w:=by
 have h2: ¬9223372036854775807<s.size+t.size:=by omega
 go_simp
theorem AE.or{b:Bool}{w:World}{x:Value}(h:AE b w x):x= .nilIface\/ ∃T z,x= .iface T z:=h.imp (·.2) fun⟨_,d,h⟩=>h.some
theorem AE.no{w:World}{x:Value}(h:AE false w x):x= .nilIface:=h.elim (·.2) fun h=>by cases h.1
theorem ent_limb_Text:EnT 104:=fun _ _=>by kernel_rfl
theorem T5:EnT 87:=fun _ _=>by kernel_rfl
theorem modulus_t(q:Int)(w:World)(hq:In q)(hc:decide (cmpI q 2<0)=true):
 CC 94 #[NV q] w (.iface 143 (.agg #[.string (⟨#[109,111,100,117,108,111,32]⟩++tx q),.iface 31 (iI 2)])):=by
 go_enter Tryz.func94,Tryz.ntmps94
 go_upto_region 1 with fail
 obtain⟨v0,hC,HB0,K0⟩:=bx1 w (LN q) 24
 rw[hC]
 clear hC
 refine Rm K0 HB0 (cG 0 3 [_,_,_,_] []) (oc (g_ld 0 uN iN)<|oc (g_cl Z7 (fun uZ=>nOf 2 uZ (by decide) (by decide)))<|oc (g_cl Zu (fun uZ=>nCompare q 2 uZ hq ⟨by decide,by decide⟩))<|oc (g_bn (fun uZ=>Z6 _ _ (cmpI q 2) 0 _ uZ hc)) on) fun u1 HB1 _ K1=>?_
 simp only[sQ] at K1⊢
 go_upto_region 2 with fail
 refine Rp K1 HB1 [] [] (cG 0 7 [_,_,_,_,_,_] [(6,2,_)]) [] [] [false] (oc (g_ld 0 uN iN)<|oc (g_cl ent_limb_Text (nText q))<|oc (g_bn (fun uZ=>add_st _ _ ⟨#[109,111,100,117,108,111,32]⟩ (tx q) uZ (by decide) (Nat.le_trans (tx_sz q) (by decide))))<|oc (g_mi (miE 2))<|oc (g_bd (bdFl (⟨#[109,111,100,117,108,111,32]⟩++tx q) _ _))<|oc (g_mi (miF (⟨#[109,111,100,117,108,111,32]⟩++tx q) _ _))<|oc g_as on) fun u2 HB2 _ K2=>?_
 simp only[sQ] at K2⊢
 go_wp2
 refine bodyPost_ret (v:= .iface 143 (.agg #[.string (⟨#[109,111,100,117,108,111,32]⟩++tx q),.iface 31 (iI 2)])) (by simp[results,Tryz.results94,go_sem,]) rfl ⟨rfl,HB2⟩
theorem modulus_f(q:Int)(w:World)(hq:In q)(hc:decide (cmpI q 2<0)=false):
 CC 94 #[NV q] w (.nilIface):=by
 go_enter Tryz.func94,Tryz.ntmps94
 go_upto_region 1 with fail
 obtain⟨v0,hC,HB0,K0⟩:=bx1 w (LN q) 24
 rw[hC]
 clear hC
 refine Rd K0 HB0 [] [] (cG 0 3 [_,_,_,_] []) [] [] [false] (oc (g_ld 0 uN iN)<|oc (g_cl Z7 (fun uZ=>nOf 2 uZ (by decide) (by decide)))<|oc (g_cl Zu (fun uZ=>nCompare q 2 uZ hq ⟨by decide,by decide⟩))<|oc (g_bn (fun uZ=>Z6 _ _ (cmpI q 2) 0 _ uZ hc)) on) fun u1 HB1 _ K1=>?_
 simp only[sQ] at K1⊢
 go_upto_region 3 with fail
 refine Rn K1 HB1 [(0,2,_)] (oc g_as on) fun u2 HB2 _ K2=>?_
 simp only[sQ] at K2⊢
 go_wp2
 refine bodyPost_ret (v:= .nilIface) (by simp[results,Tryz.results94,go_sem,]) rfl ⟨rfl,HB2⟩
theorem dModulus(q:Int)(w:World)(hq:In q): ∃b,decide (q<2)=b/\ ∃V,AE b w V/\Hid (∀u,CC 94 #[NV q] u V):=by
 by_cases h:q<2
 ·exact⟨true,decide_eq_true h,_,.inr ⟨rfl,1,.flt 0 _ _ (.leaf 0)⟩,fun u=>modulus_t q u hq (by unfold cmpI;simp;(repeat' split)<;>omega)⟩
 ·exact⟨false,decide_eq_false h,_,.inl ⟨rfl,rfl⟩,fun u=>modulus_f q u hq (by unfold cmpI;simp;(repeat' split)<;>omega)⟩
theorem counted_t(s:ByteArray)(n:Nat)(w:World)(hG:GP w)(hs:s.size<=100)(hn:n<=256)(hc:decide ((n:Int)<1)=true):
 CC 95 #[.string s,iI (n:Int)] w (.iface 143 (.agg #[.string ((s++⟨#[58,32,97,115,32,109,97,110,121,32,97,115,32]⟩)++ia n),.iface 31 (iI 2)])):=by
 have hc2:decide (256<(n:Int))=false:=by simp;omega
 go_enter Tryz.func95,Tryz.ntmps95
 have HB0:Bw w w:=Below.refl _ _
 have K0_1:=Bk.nil (w.heap.size) w
 go_upto_region 1 with fail
 refine Rn K0_1 HB0 (cG 0 5 [_,_,_,undef,undef,_] []) (oc g_mv<|oc (g_bn (fun uZ=>Z6 _ _ (n:Int) 1 _ uZ hc))<|oc g_mv<|oc g_sk<|oc g_sk<|oc g_pk on) fun u1 HB1 _ K1=>?_
 simp only[sQ] at K1⊢
 go_upto_region 2 with fail
 refine Rn K1 HB1 (cG 0 11 [_,_,_,_,_,_,_,_] [(8,4,_)]) (oc g_mv<|oc (g_bn (fun uZ=>add_st _ _ s ⟨#[58,32,97,115,32,109,97,110,121,32,97,115,32]⟩ uZ (Nat.le_trans hs (by decide)) (by decide)))<|oc g_mv<|oc (g_cb T5 (fun uZ bZ=>cItoa n uZ (by omega) (by omega) (hG.below bZ)))<|oc (g_bn (fun uZ=>add_st _ _ (s++⟨#[58,32,97,115,32,109,97,110,121,32,97,115,32]⟩) (ia n) uZ (by rw[ByteArray.size_append];exact Nat.add_le_add (b:=100) (d:=400) hs (by decide)) (Nat.le_trans (ia_sz n (by omega) (by omega)) (by decide))))<|oc (g_mi (miE 2))<|oc (g_bd (bdFl ((s++⟨#[58,32,97,115,32,109,97,110,121,32,97,115,32]⟩)++ia n) _ _))<|oc (g_mi (miF ((s++⟨#[58,32,97,115,32,109,97,110,121,32,97,115,32]⟩)++ia n) _ _))<|oc g_as on) fun u2 HB2 _ K2=>?_
 simp only[sQ] at K2⊢
 go_wp2
 refine bodyPost_ret (v:= .iface 143 (.agg #[.string ((s++⟨#[58,32,97,115,32,109,97,110,121,32,97,115,32]⟩)++ia n),.iface 31 (iI 2)])) (by simp[results,Tryz.results95,go_sem,]) rfl ⟨rfl,HB2⟩
theorem counted_f(s:ByteArray)(n:Nat)(w:World)(hG:GP w)(hs:s.size<=100)(hn:n<=256)(hc:decide ((n:Int)<1)=false):
 CC 95 #[.string s,iI (n:Int)] w (.nilIface):=by
 have hc2:decide (256<(n:Int))=false:=by simp;omega
 go_enter Tryz.func95,Tryz.ntmps95
 have HB0:Bw w w:=Below.refl _ _
 have K0_1:=Bk.nil (w.heap.size) w
 go_upto_region 1 with fail
 refine Rn K0_1 HB0 (cG 0 5 [_,_,_,_,_,_] []) (oc g_mv<|oc (g_bn (fun uZ=>Z6 _ _ (n:Int) 1 _ uZ hc))<|oc g_mv<|oc g_mv<|oc (g_bn (fun uZ=>gtr_i _ _ (n:Int) 256 _ uZ hc2))<|oc g_pk on) fun u1 HB1 _ K1=>?_
 simp only[sQ] at K1⊢
 go_upto_region 3 with fail
 refine Rn K1 HB1 [(0,4,_)] (oc g_as on) fun u2 HB2 _ K2=>?_
 simp only[sQ] at K2⊢
 go_wp2
 refine bodyPost_ret (v:= .nilIface) (by simp[results,Tryz.results95,go_sem,]) rfl ⟨rfl,HB2⟩
theorem dCounted(s:ByteArray)(n:Nat)(w:World)(hG:GP w)(hs:s.size<=100)(hn:n<=256): ∃b,decide (n<1)=b/\ ∃V,AE b w V/\Hid (∀u,Bw w u->CC 95 #[.string s,iI (n:Int)] u V):=by
 by_cases h:n<1
 ·exact⟨true,decide_eq_true h,_,.inr ⟨rfl,1,.flt 0 _ _ (.leaf 0)⟩,fun u hB=>counted_t s n u (hG.below hB) hs hn (by simp;omega)⟩
 ·exact⟨false,decide_eq_false h,_,.inl ⟨rfl,rfl⟩,fun u hB=>counted_f s n u (hG.below hB) hs hn (by simp;omega)⟩
theorem pPolynomial_0(q:Int)(sl:Option Addr)(n cap:Nat)(y0 y1:Value)(b0 b1:Bool)(w:World)(a0:AE b0 w y0)(a1:AE b1 w y1)
 (hM:Hid (∀u,CC 94 #[NV q] u y0))(hC:Hid (∀u,Bw w u->CC 95 #[.string ⟨#[99,111,101,102,102,105,99,105,101,110,116,115]⟩,iI (n:Int)] u y1)):
 Calls Tryz.prog 67 #[NV q,.slice sl n cap] w fun e u=> ∃y,e= .returned y/\AE (b0 || b1) u y/\Bw w u:=by
 have hB0:Bw w (w.alloc (.cells (LN q:List Value).toArray 24)):=Z1 (Z5 w) _
 rcases a0.or with rfl | ⟨T0,z0,rfl⟩<;>rcases a1.or with rfl | ⟨T1,z1,rfl⟩
 all_goals
  go_enter Tryz.func67,Tryz.ntmps67
  go_wp2_with (first
   | (go_at_call 94;refine(hM.out _).mono ?_;clear hM;rintro e ua ⟨rfl,hBa⟩;replace hBa:=Zg hB0 hBa;clear hB0;replace hC:=hC.out ua hBa)
   | (go_at_call 95;refine hC.mono ?_;clear hC;rintro e ub ⟨rfl,hBb⟩;replace hBb:=Zg hBa hBb;clear hBa)
   | (go_at_call 93;refine(cJoin2 ub.heap.size 2 _ _ b0 b1 _ (by simp) (by simp) (by simp) (a0.up (Z1 hBb _)) (a1.up (Z1 hBb _))).mono ?_;clear a0 a1;rintro e uc ⟨y2,rfl,hy2,hBc⟩;replace hBc:=Zg (Z1 hBb _) hBc))
  exact bodyPost_ret (v:=y2) (by rcases hy2.or with rfl | ⟨T,z,rfl⟩<;>simp[results,Tryz.results67,go_sem]) rfl ⟨y2,rfl,hy2,hBc⟩
theorem pPolynomial(q:Int)(sl:Option Addr)(n cap:Nat)(w:World)(hG:GP w)(hq:In q)(hn:n<=256):
 Calls Tryz.prog 67 #[NV q,.slice sl n cap] w fun e u=> ∃y,e= .returned y/\AE (decide (q<2) || decide (n<1)) u y/\Bw w u:=by
 obtain⟨b0,h0,V0,a0,hM⟩:=dModulus q w hq
 obtain⟨b1,h1,V1,a1,hC⟩:=dCounted ⟨#[99,111,101,102,102,105,99,105,101,110,116,115]⟩ n w hG (by decide) hn
 rw[h0,h1]
 exact pPolynomial_0 q sl n cap V0 V1 b0 b1 w a0 a1 hM hC
theorem pPointsOf_0(q:Int)(n:Nat)(y0 y1:Value)(b0 b1:Bool)(w:World)(a0:AE b0 w y0)(a1:AE b1 w y1)
 (hM:Hid (∀u,CC 94 #[NV q] u y0))(hC:Hid (∀u,Bw w u->CC 95 #[.string ⟨#[112,111,105,110,116,115]⟩,iI (n:Int)] u y1)):
 Calls Tryz.prog 76 #[NV q,iI (n:Int)] w fun e u=> ∃y,e= .returned y/\AE (b0 || b1) u y/\Bw w u:=by
 have hB0:Bw w (w.alloc (.cells (LN q:List Value).toArray 24)):=Z1 (Z5 w) _
 rcases a0.or with rfl | ⟨T0,z0,rfl⟩<;>rcases a1.or with rfl | ⟨T1,z1,rfl⟩
 all_goals
  go_enter Tryz.func76,Tryz.ntmps76
  go_wp2_with (first
   | (go_at_call 94;refine(hM.out _).mono ?_;clear hM;rintro e ua ⟨rfl,hBa⟩;replace hBa:=Zg hB0 hBa;clear hB0;replace hC:=hC.out ua hBa)
   | (go_at_call 95;refine hC.mono ?_;clear hC;rintro e ub ⟨rfl,hBb⟩;replace hBb:=Zg hBa hBb;clear hBa)
   | (go_at_call 93;refine(cJoin2 ub.heap.size 2 _ _ b0 b1 _ (by simp) (by simp) (by simp) (a0.up (Z1 hBb _)) (a1.up (Z1 hBb _))).mono ?_;clear a0 a1;rintro e uc ⟨y2,rfl,hy2,hBc⟩;replace hBc:=Zg (Z1 hBb _) hBc))
  exact bodyPost_ret (v:=y2) (by rcases hy2.or with rfl | ⟨T,z,rfl⟩<;>simp[results,Tryz.results76,go_sem]) rfl ⟨y2,rfl,hy2,hBc⟩
theorem pPointsOf(q:Int)(n:Nat)(w:World)(hG:GP w)(hq:In q)(hn:n<=256):
 Calls Tryz.prog 76 #[NV q,iI (n:Int)] w fun e u=> ∃y,e= .returned y/\AE (decide (q<2) || decide (n<1)) u y/\Bw w u:=by
 obtain⟨b0,h0,V0,a0,hM⟩:=dModulus q w hq
 obtain⟨b1,h1,V1,a1,hC⟩:=dCounted ⟨#[112,111,105,110,116,115]⟩ n w hG (by decide) hn
 rw[h0,h1]
 exact pPointsOf_0 q n V0 V1 b0 b1 w a0 a1 hM hC
end
def IL(u:World)(v:Value)(xs:List Int):Prop:= ∃sl gb go cap,v= .slice sl xs.length cap/\xs.length<=cap/\(sl=none->cap=0)/\(xs=[]\/sl=some ⟨gb,go,none⟩)/\(xs.length=0\/gb<u.heap.size)/\ ∀j,j<xs.length->u.cell? ⟨gb,go+j,none⟩=some (iI (xs.getD j 0))
theorem IL.up{w u:World}{v:Value}{xs:List Int}(h:IL w v xs)(hB:Bw w u):IL u v xs:=by
 obtain⟨sl,gb,go,cap,h1,h2,h3,h4,h5,h6⟩:=h
 refine⟨sl,gb,go,cap,h1,h2,h3,h4,h5.imp id fun e=>Nat.lt_of_lt_of_le e hB.size,fun j hj=>?_⟩
 exact(hB.cell (p:=⟨gb,go+j,none⟩) (h5.resolve_left (by omega))).trans (h6 j hj)
theorem IL.stab{xs:List Int}{u u2:World}{x:Value}(hB:Bw u u2)(h:IL u x xs):IL u2 x xs:=h.up hB
section
theorem neq_no(p:Operand)(c:Value)(w:World):(do eqGuard .neq 90 p (.const c) .nilIface .nilIface;binOp .neq 90 .nilIface .nilIface:Sem Value).run Tryz.prog w= .ok (.bool false) w:=by go_simp
theorem neq_er(p q:Operand)(T:TypeId)(x:Value)(w:World):(do eqGuard .neq 90 p q (.iface T x) .nilIface;binOp .neq 90 (.iface T x) .nilIface:Sem Value).run Tryz.prog w= .ok (.bool true) w:=by go_simp
theorem cviP{o:Oper}{ev:Operand->Value}{x:Operand}{n:Int}(u:World)(h0:0<=n)(h1:n<=9223372036854775807)(ho:o.op= .convert 3 22 x)(hx:ev x=iI n):(execOp ev o).run Tryz.prog u= .ok (.value (iU n)) u:=by
 have e1:IntKind.u64.wrap n=n:=by simp[IntKind.wrap,IntKind.signed,IntKind.bits];omega
 unfold execOp;rw[ho];simp only[hx];go_simp
def PE0(u:World)(v:Value):Prop:= ∃b,v= .slice (some ⟨b,0,none⟩) 2 2/\b<u.heap.size/\u.cell? ⟨b,0,none⟩=some .nilIface/\u.cell? ⟨b,1,none⟩=some .nilIface
theorem PE0.stab{u u2:World}{x:Value}(hB:Bw u u2)(h:PE0 u x):PE0 u2 x:=by
 obtain⟨b,e,h1,h2,h3⟩:=h
 exact⟨b,e,Nat.lt_of_lt_of_le h1 hB.size,(hB.cell (p:=⟨b,0,none⟩) h1).trans h2,(hB.cell (p:=⟨b,1,none⟩) h1).trans h3⟩
theorem PE0.new(u:World):PE0 (u.alloc (.cells [Value.nilIface,.nilIface].toArray 90)) (.slice (some ⟨u.heap.size,0,none⟩) 2 2):=⟨_,rfl,by simp,by simp,by simp⟩
def PRy(lo n:Nat)(u:World)(v:Value):Prop:= ∃b,v= .slice (some ⟨b,0,none⟩) n n/\lo<=b/\b<u.heap.size/\CV u b (flN (List.replicate (2*n) 0))
theorem PRy.stab{lo n:Nat}{u u2:World}{x:Value}(hB:Bw u u2)(h:PRy lo n u x):PRy lo n u2 x:=by
 obtain⟨b,e,h1,h2,h3⟩:=h
 exact⟨b,e,h1,Nat.lt_of_lt_of_le h2 hB.size,h3.below hB h2⟩
theorem PRy.new{lo n:Nat}{T:TypeId}(u:World)(h:lo<=u.heap.size):PRy lo n (u.alloc (.cells (flN (List.replicate (2*n) 0)).toArray T)) (.slice (some ⟨u.heap.size,0,none⟩) n n):=
 ⟨_,rfl,h,by simp,CV.new u _ _⟩
section
variable {R:Rg} {P:Program} {Q:Exit->Act->World->Prop} {ops:Array Oper} {i:Nat} {o:Oper}
theorem g_lgp(gb c:Nat){T:TypeId}{x:Operand}{v:Value}(hr: ∀w,w.cell? ⟨gb,c,none⟩=some v->(Instr.loadAt T (.pointer (some ⟨gb,c,none⟩))).run P w= .ok v w)(hc0:R.w.cell? ⟨gb,c,none⟩=some v)(hb:gb<R.lo)(hop:o.op= .load T x:=by rfl)(hx:evR R i o x=some (.pointer (some ⟨gb,c,none⟩)):=by rfl)(hv:some v=Zv i R.G:=by rfl)(hc:R.chk ops i o=true:=by rfl):OG R P ops Q i o:=
 Y1 hv hc fun f t u a X K hK=>wp_load hop (X.ev hx) (hr u ((X.I.1.bel.cell (p:=⟨gb,c,none⟩) hb).trans hc0)) hK
end
theorem Vm:EnT 67:=fun _ _=>by kernel_rfl
theorem ent_poly_value:EnT 69:=fun _ _=>by kernel_rfl
theorem eval_ok(q x r:Int)(sl:Option Addr)(n cap:Nat)(w:World)(hP:Hid (∀u,Bw w u->CC 67 #[NV q,.slice sl n cap] u (.nilIface)))(hV:Hid (∀u,Bw w u->CC 69 #[NV q,.slice sl n cap,NV x] u (NV r))):
 CC 42 #[NV q,.slice sl n cap,NV x] w (.tuple #[NV r,iI 0]):=by
 go_enter Tryz.func42,Tryz.ntmps42
 go_upto_region 1 with fail
 obtain⟨v0,hC,HB0,K0⟩:=bx3 w (LN q) 24 (LN x) 24 L0s 24
 rw[hC]
 clear hC
 refine Rn K0 HB0 (cG 0 9 [_,_,_] [(3,8,_)]) (oc (g_ld 0 uN iN)<|oc g_mv<|oc (g_cb Vm hP.out)<|oc g_as on) fun u1 HB1 _ K1=>?_
 simp only[sQ] at K1⊢
 go_upto_region 2 with fail
 refine Rn K1 HB1 [(0,12,_),(1,13,_)] (oc g_mv<|oc (g_bn (neq_no _ _)) on) fun u2 HB2 _ K2=>?_
 simp only[sQ] at K2⊢
 go_upto_region 4 with fail
 refine Rp K2 HB2 [.no,.no,.all 4 (LN r)] [] (cG 0 17 [_,_,_,_] [(5,7,_)]) [] [] [false,false] (oc (g_ld 0 uN iN)<|oc g_mv<|oc (g_ld 1 uN iN)<|oc (g_cb ent_poly_value hV.out)<|oc (g_st 2 iN)<|oc g_as on) fun u3 HB3 _ K3=>?_
 simp only[sQ] at K3⊢
 have c6:=(K3.cv 0).n4
 go_wp2
 refine bodyPost_ret (v:= .tuple #[NV r,iI 0]) (by simp[results,Tryz.results42,go_sem,c6]) rfl ⟨rfl,HB3⟩
end
theorem set6_K{u:World}{b:Nat}{v0 v1 v2 v3 v4 v5 c0 c1 c2 c3 c4 c5:Value}(h:CV u b [c0,c1,c2,c3,c4,c5]):CV ((((((u.setCell ⟨b,0,none⟩ v0).setCell ⟨b,1,none⟩ v1).setCell ⟨b,2,none⟩ v2).setCell ⟨b,3,none⟩ v3).setCell ⟨b,4,none⟩ v4).setCell ⟨b,5,none⟩ v5) b [v0,v1,v2,v3,v4,v5]:=
 (((((h.setC 0 (by simp) v0).setC 1 (by simp) v1).setC 2 (by simp) v2).setC 3 (by simp) v3).setC 4 (by simp) v4).setC 5 (by simp) v5
theorem CV.oset{u:World}{c:Nat}{l:List Value}(h:CV u c l)(a:Addr)(v:Value)(hne:c≠a.block):CV (u.setCell a v) c l:=h.blk (Below.heap_setCell u a v c hne)
theorem Ut{u:World}{b c:Nat}{v0 v1 v2 v3 v4 v5:Value}{l:List Value}(h:CV u c l)(hne:c≠b):CV ((((((u.setCell ⟨b,0,none⟩ v0).setCell ⟨b,1,none⟩ v1).setCell ⟨b,2,none⟩ v2).setCell ⟨b,3,none⟩ v3).setCell ⟨b,4,none⟩ v4).setCell ⟨b,5,none⟩ v5) c l:=
 (((((h.oset ⟨b,0,none⟩ v0 hne).oset ⟨b,1,none⟩ v1 hne).oset ⟨b,2,none⟩ v2 hne).oset ⟨b,3,none⟩ v3 hne).oset ⟨b,4,none⟩ v4 hne).oset ⟨b,5,none⟩ v5 hne
theorem set6_B{m b:Nat}{w u:World}{v0 v1 v2 v3 v4 v5:Value}(h:Below m w u)(hb:m<=b):Below m w ((((((u.setCell ⟨b,0,none⟩ v0).setCell ⟨b,1,none⟩ v1).setCell ⟨b,2,none⟩ v2).setCell ⟨b,3,none⟩ v3).setCell ⟨b,4,none⟩ v4).setCell ⟨b,5,none⟩ v5):=
 (((((h.setCell hb v0).setCell hb v1).setCell hb v2).setCell hb v3).setCell hb v4).setCell hb v5
set_option maxHeartbeats 8000000 in
theorem combineOk(q t r:Int)(sl:Option Addr)(n cap:Nat)(xs vs:List Int)(w:World)
 (hP:Hid (∀u,Bw w u->CC 76 #[NV q,iI (n:Int)] u .nilIface))
 (hA:Hid (∀u,Bw w u->Calls Tryz.prog 78 #[.slice sl n cap] u fun e u'=> ∃y,e= .returned y/\PRw u.heap.size xs u' y/\Bw u u'))
 (hO:Hid (∀u bx,Bw w u->bx<u.heap.size->CV u bx (flN xs)->Calls Tryz.prog 77 #[NV q,.slice (some ⟨bx,0,none⟩) xs.length xs.length] u fun e u'=> ∃vd,e= .returned (.tuple #[BX q (.slice (some ⟨bx,0,none⟩) xs.length xs.length) vd,.nilIface])/\PRw u.heap.size vs u' vd/\Bw u u'))
 (hS:Hid (∀u bx bd,Bw w u->bx<u.heap.size->bd<u.heap.size->CV u bx (flN xs)->CV u bd (flN vs)->CC 79 #[BX q (.slice (some ⟨bx,0,none⟩) xs.length xs.length) (.slice (some ⟨bd,0,none⟩) vs.length vs.length),NV t,.slice sl n cap] u (NV r))):
 CC 55 #[NV q,NV t,.slice sl n cap] w (.tuple #[NV r,iI 0]):=by
 go_enter Tryz.func55,Tryz.ntmps55
 go_upto_region 1 with fail
 generalize e2:((w.alloc (.cells (LN q:List Value).toArray 24)).alloc (.cells (LN t:List Value).toArray 24)).alloc (.cells (L0s:List Value).toArray 24)=w2 at *
 have hB2:Bw w w2:=by rw[<-e2];exact Z1 (Z1 (Z1 (Z5 w) _) _) _
 have hs2:w2.heap.size=w.heap.size+3:=by rw[<-e2];simp
 have KQ:CV w2 w.heap.size (LN q):=by rw[<-e2];exact((CV.new w (LN q) 24).below (Z1 (Z5 _) _) (by simp)).below (Z1 (Z5 _) _) (by first | omega | (simp<;>omega))
 have KT:CV w2 (w.heap.size+1) (LN t):=by rw[<-e2];exact(CV.newAt _ _ _ _ (by simp)).below (Z1 (Z5 _) _) (by simp)
 have KR:CV w2 (w.heap.size+2) L0s:=by rw[<-e2];exact CV.newAt _ _ _ _ (by simp)
 clear e2
 have a0:=(KQ 0 _ rfl).1
 have a1:=(KQ 1 _ rfl).1
 have a2:=(KQ 2 _ rfl).1
 have a3:=(KQ 3 _ rfl).1
 have KQ:Hid (CV w2 w.heap.size (LN q)):=KQ
 have KT:Hid (CV w2 (w.heap.size+1) (LN t)):=KT
 have KR:Hid (CV w2 (w.heap.size+2) L0s):=KR
 have hP:=hP.out w2 hB2
 go_upto_region 4 with(go_at_call 76;refine hP.mono ?_;clear hP a0 a1 a2 a3;rintro e ua ⟨rfl,hBa⟩;replace KQ:Hid (CV ua w.heap.size (LN q)):=CV.below KQ.out hBa (by omega);replace KT:Hid (CV ua (w.heap.size+1) (LN t)):=CV.below KT.out hBa (by omega);replace KR:Hid (CV ua (w.heap.size+2) L0s):=CV.below KR.out hBa (by omega);have hsa:=hBa.size;replace hBa:=Zg hB2 hBa;have a0:=(KQ.out 0 _ rfl).1;have a1:=(KQ.out 1 _ rfl).1;have a2:=(KQ.out 2 _ rfl).1;have a3:=(KQ.out 3 _ rfl).1;have b0:=fun o=>(CV.below KQ.out (Z1 (Z5 ua) o) (by omega) 0 _ rfl).1;have b1:=fun o=>(CV.below KQ.out (Z1 (Z5 ua) o) (by omega) 1 _ rfl).1;have b2:=fun o=>(CV.below KQ.out (Z1 (Z5 ua) o) (by omega) 2 _ rfl).1;have b3:=fun o=>(CV.below KQ.out (Z1 (Z5 ua) o) (by omega) 3 _ rfl).1)
 go_cut [9,10] (fun s9 s10 wx=> ∃b bx bd,s9= .pointer (some ⟨b,0,none⟩)/\s10= .nilIface/\Bw w wx/\b<wx.heap.size/\w.heap.size+2<b/\bx<wx.heap.size/\bd<wx.heap.size/\CV wx b (BE q (.slice (some ⟨bx,0,none⟩) xs.length xs.length) (.slice (some ⟨bd,0,none⟩) vs.length vs.length))/\CV wx bx (flN xs)/\CV wx bd (flN vs)/\CV wx (w.heap.size+1) (LN t)/\CV wx (w.heap.size+2) L0s)
 case first=>
  go_region_with (first | (go_at_call 78;refine(hA.out ua.drew hBa.drew).mono ?_;go_must (clear a0 a1 a2 a3 b0 b1 b2 b3;rintro e ub ⟨y,rfl,⟨bx,rfl,x1,x2,x3⟩,hBb⟩;replace KQ:Hid (CV ub w.heap.size (LN q)):=CV.below (CV.drew KQ.out) hBb (by first | omega | (simp<;>omega));replace KT:Hid (CV ub (w.heap.size+1) (LN t)):=CV.below (CV.drew KT.out) hBb (by first | omega | (simp<;>omega));replace KR:Hid (CV ub (w.heap.size+2) L0s):=CV.below (CV.drew KR.out) hBb (by first | omega | (simp<;>omega));have hsb:ua.heap.size<=ub.heap.size:=(by have:=hBb.size;first | omega | (simp at this;omega));skip;replace hBb:=Zg hBa.drew hBb;have x3:Hid (CV ub bx (flN xs)):=x3;have a0:=(KQ.out 0 _ rfl).1;have a1:=(KQ.out 1 _ rfl).1;have a2:=(KQ.out 2 _ rfl).1;have a3:=(KQ.out 3 _ rfl).1;have b0:=fun o=>(CV.below KQ.out (Z1 (Z5 ub) o) (by omega) 0 _ rfl).1;have b1:=fun o=>(CV.below KQ.out (Z1 (Z5 ub) o) (by omega) 1 _ rfl).1;have b2:=fun o=>(CV.below KQ.out (Z1 (Z5 ub) o) (by omega) 2 _ rfl).1;have b3:=fun o=>(CV.below KQ.out (Z1 (Z5 ub) o) (by omega) 3 _ rfl).1)) | (go_at_call 78;refine(hA.out (ua.alloc (.cells (L0b:List Value).toArray 105)).drew (Z1 hBa (.cells (L0b:List Value).toArray 105)).drew).mono ?_;go_must (clear a0 a1 a2 a3 b0 b1 b2 b3;rintro e ub ⟨y,rfl,⟨bx,rfl,x1,x2,x3⟩,hBb⟩;replace KQ:=CV.below KQ.out (Z1 (Z5 ua) (.cells (L0b:List Value).toArray 105)) (by omega);replace KT:=CV.below KT.out (Z1 (Z5 ua) (.cells (L0b:List Value).toArray 105)) (by omega);replace KR:=CV.below KR.out (Z1 (Z5 ua) (.cells (L0b:List Value).toArray 105)) (by omega);have KZ:CV ub ua.heap.size L0b:=CV.below (CV.drew (CV.new ua L0b 105)) hBb (by simp);replace KQ:Hid (CV ub w.heap.size (LN q)):=CV.below (CV.drew KQ) hBb (by first | omega | (simp<;>omega));replace KT:Hid (CV ub (w.heap.size+1) (LN t)):=CV.below (CV.drew KT) hBb (by first | omega | (simp<;>omega));replace KR:Hid (CV ub (w.heap.size+2) L0s):=CV.below (CV.drew KR) hBb (by first | omega | (simp<;>omega));have hsb:ua.heap.size<=ub.heap.size:=(by have:=hBb.size;first | omega | (simp at this;omega));have hx0:ua.heap.size<bx:=(by first | omega | (simp at x1;omega));have KZ:Hid (CV ub ua.heap.size L0b):=KZ;replace hBb:=Zg (Z1 hBa (.cells (L0b:List Value).toArray 105)).drew hBb;have x3:Hid (CV ub bx (flN xs)):=x3;have a0:=(KQ.out 0 _ rfl).1;have a1:=(KQ.out 1 _ rfl).1;have a2:=(KQ.out 2 _ rfl).1;have a3:=(KQ.out 3 _ rfl).1;have b0:=fun o=>(CV.below KQ.out (Z1 (Z5 ub) o) (by omega) 0 _ rfl).1;have b1:=fun o=>(CV.below KQ.out (Z1 (Z5 ub) o) (by omega) 1 _ rfl).1;have b2:=fun o=>(CV.below KQ.out (Z1 (Z5 ub) o) (by omega) 2 _ rfl).1;have b3:=fun o=>(CV.below KQ.out (Z1 (Z5 ub) o) (by omega) 3 _ rfl).1)) | (go_at_call 77;have _:=KZ;refine(hO.out ub bx hBb (by first | omega | (simp<;>omega)) (x3.out)).mono ?_;go_must (clear a0 a1 a2 a3 b0 b1 b2 b3;rintro e uc ⟨vd,rfl,⟨bd,rfl,d1,d2,d3⟩,hBc⟩;replace KZ:Hid (CV uc ua.heap.size L0b):=CV.below KZ.out hBc (by omega);replace KQ:Hid (CV uc w.heap.size (LN q)):=CV.below KQ.out hBc (by omega);replace KT:Hid (CV uc (w.heap.size+1) (LN t)):=CV.below KT.out hBc (by omega);replace KR:Hid (CV uc (w.heap.size+2) L0s):=CV.below KR.out hBc (by omega);replace x3:Hid (CV uc bx (flN xs)):=CV.below x3.out hBc x2;have hsc:ub.heap.size<=uc.heap.size:=(by have:=hBc.size;first | omega | (simp at this;omega));replace hBc:=Zg hBb hBc;have z0:=(KZ.out 0 _ rfl).1;have zf0:=(KZ.out 0 _ rfl).2;have z1:=(KZ.out 1 _ rfl).1;have zf1:=(KZ.out 1 _ rfl).2;have z2:=(KZ.out 2 _ rfl).1;have zf2:=(KZ.out 2 _ rfl).2;have z3:=(KZ.out 3 _ rfl).1;have zf3:=(KZ.out 3 _ rfl).2;have z4:=(KZ.out 4 _ rfl).1;have zf4:=(KZ.out 4 _ rfl).2;have z5:=(KZ.out 5 _ rfl).1;have zf5:=(KZ.out 5 _ rfl).2;have d3:Hid (CV uc bd (flN vs)):=d3)) | (go_at_call 77;refine(hO.out ub bx hBb (by first | omega | (simp<;>omega)) (x3.out)).mono ?_;go_must (clear a0 a1 a2 a3 b0 b1 b2 b3;rintro e uc ⟨vd,rfl,⟨bd,rfl,d1,d2,d3⟩,hBc⟩;replace KQ:Hid (CV uc w.heap.size (LN q)):=CV.below KQ.out hBc (by omega);replace KT:Hid (CV uc (w.heap.size+1) (LN t)):=CV.below KT.out hBc (by omega);replace KR:Hid (CV uc (w.heap.size+2) L0s):=CV.below KR.out hBc (by omega);replace x3:Hid (CV uc bx (flN xs)):=CV.below x3.out hBc x2;have hsc:ub.heap.size<=uc.heap.size:=(by have:=hBc.size;first | omega | (simp at this;omega));replace hBc:=Zg hBb hBc;have d3:Hid (CV uc bd (flN vs)):=d3)) | (go_at_call 77;refine(hO.out (ub.alloc (.cells (L0b:List Value).toArray 105)) bx (Z1 hBb (.cells (L0b:List Value).toArray 105)) (by first | omega | (simp<;>omega)) (CV.below x3.out (Z1 (Z5 ub) (.cells (L0b:List Value).toArray 105)) x2)).mono ?_;go_must (clear a0 a1 a2 a3 b0 b1 b2 b3;rintro e uc ⟨vd,rfl,⟨bd,rfl,d1,d2,d3⟩,hBc⟩;have KZ:Hid (CV uc ub.heap.size L0b):=CV.below (CV.new ub L0b 105) hBc (by simp);replace x3:Hid (CV uc bx (flN xs)):=CV.below (CV.below x3.out (Z1 (Z5 ub) (.cells (L0b:List Value).toArray 105)) x2) hBc (by first | omega | (simp<;>omega));replace KT:Hid (CV uc (w.heap.size+1) (LN t)):=CV.below (CV.below KT.out (Z1 (Z5 ub) (.cells (L0b:List Value).toArray 105)) (by omega)) hBc (by first | omega | (simp<;>omega));replace KR:Hid (CV uc (w.heap.size+2) L0s):=CV.below (CV.below KR.out (Z1 (Z5 ub) (.cells (L0b:List Value).toArray 105)) (by omega)) hBc (by first | omega | (simp<;>omega));have hsc:ub.heap.size<=uc.heap.size:=(by have:=hBc.size;first | omega | (simp at this;omega));replace hBc:=Zg (Z1 hBb (.cells (L0b:List Value).toArray 105)) hBc;have hd0:ub.heap.size<bd:=(by first | omega | (simp at d1;omega));have z0:=(KZ.out 0 _ rfl).1;have zf0:=(KZ.out 0 _ rfl).2;have z1:=(KZ.out 1 _ rfl).1;have zf1:=(KZ.out 1 _ rfl).2;have z2:=(KZ.out 2 _ rfl).1;have zf2:=(KZ.out 2 _ rfl).2;have z3:=(KZ.out 3 _ rfl).1;have zf3:=(KZ.out 3 _ rfl).2;have z4:=(KZ.out 4 _ rfl).1;have zf4:=(KZ.out 4 _ rfl).2;have z5:=(KZ.out 5 _ rfl).1;have zf5:=(KZ.out 5 _ rfl).2;have d3:Hid (CV uc bd (flN vs)):=d3)))
  all_goals (go_wp2_with fail;go_meet;first | (refine⟨uc.heap.size,bx,bd,rfl,rfl,?_⟩;exact⟨Z1 hBc _,by simp,by omega,(by first | omega | (simp<;>omega)),(by first | omega | (simp<;>omega)),CV.new uc _ _,CV.below x3.out (Z1 (Z5 uc) _) (by omega),CV.below d3.out (Z1 (Z5 uc) _) d2,CV.below KT.out (Z1 (Z5 uc) _) (by omega),CV.below KR.out (Z1 (Z5 uc) _) (by omega)⟩) | (refine⟨ua.heap.size,bx,bd,rfl,rfl,?_⟩;exact⟨set6_B hBc (by omega),(by first | omega | (simp<;>omega)),by omega,(by first | omega | (simp<;>omega)),(by first | omega | (simp<;>omega)),set6_K KZ.out,Ut x3.out (by omega),Ut d3.out (by omega),Ut KT.out (by omega),Ut KR.out (by omega)⟩) | (refine⟨ub.heap.size,bx,bd,rfl,rfl,?_⟩;exact⟨set6_B hBc (by omega),(by first | omega | (simp<;>omega)),by omega,(by first | omega | (simp<;>omega)),(by first | omega | (simp<;>omega)),set6_K KZ.out,Ut x3.out (by omega),Ut d3.out (by omega),Ut KT.out (by omega),Ut KR.out (by omega)⟩))
 case rest=>
  obtain⟨b,bx,bd,rfl,rfl,hBw,hb,hbw,hbx,hbd,KB,KX,KD,KT,KR⟩:=hcut
  have hS:=hS.out wc bx bd hBw hbx hbd KX KD
  have c0:=(KB 0 _ rfl).1
  have c1:=(KB 1 _ rfl).1
  have c2:=(KB 2 _ rfl).1
  have c3:=(KB 3 _ rfl).1
  have c4:=(KB 4 _ rfl).1
  have c5:=(KB 5 _ rfl).1
  have t0:=(KT 0 _ rfl).1
  have t1:=(KT 1 _ rfl).1
  have t2:=(KT 2 _ rfl).1
  have t3:=(KT 3 _ rfl).1
  have KR:Hid (CV wc (w.heap.size+2) L0s):=KR
  clear KB KX KD KT
  go_wp2_with (go_at_call 79;refine hS.mono ?_;go_must (clear hS c0 c1 c2 c3 c4 c5 t0 t1 t2 t3;rintro e ue ⟨rfl,hBe⟩;have KR:=CV.below KR.out hBe (by omega);have r0:=KR 0 _ rfl;have r1:=KR 1 _ rfl;have r2:=KR 2 _ rfl;have r3:=KR 3 _ rfl;obtain⟨r0,f0⟩:=r0;obtain⟨r1,f1⟩:=r1;obtain⟨r2,f2⟩:=r2;obtain⟨r3,f3⟩:=r3;replace hBe:=Zg hBw hBe))
  exact bodyPost_ret (v:= .tuple #[NV r,iI 0]) (by simp[results,Tryz.results55,go_sem,r0,r1,r2,r3]) rfl ⟨rfl,(((hBe.setCell (by simp;omega) _).setCell (by simp;omega) _).setCell (by simp;omega) _).setCell (by simp;omega) _⟩
def tab(n:Nat)(f:Nat->Int):List Int:=(List.range n).map f
theorem W6(n:Nat)(f:Nat->Int):(tab n f).length=n:=by simp[tab]
theorem Xg{n:Nat}{f:Nat->Int}{i:Nat}(h:i<n):(tab n f).getD i 0=f i:=by simp[tab,List.getElem?_map,List.getElem?_range h]
def fa1(q t:Int)(ns vs:List Int):List Int:=tab ns.length fun i=>vs.getD i 0*ahN q t ns i%q
def fac(q t:Int)(ns vs:List Int):List Int:=tab ns.length fun i=>(vs.getD i 0*ahN q t ns i%q)*bhN q t ns (ns.length -1 -i)%q
theorem fac_len(q t:Int)(ns vs:List Int):(fac q t ns vs).length=ns.length:=W6 _ _
theorem fac_get{q t:Int}{ns vs:List Int}{i:Nat}(h:i<ns.length):(fac q t ns vs).getD i 0=(vs.getD i 0*ahN q t ns i%q)*bhN q t ns (ns.length -1 -i)%q:=Xg h
theorem Yc{ns:List Int}(h: ∀z∈ns,In z): ∀k,k<ns.length->In (ns.getD k 0):=fun k hk=>h _ (by simp[List.getElem?_eq_getElem hk])
theorem NL.ix{u:World}{sl:Option Addr}{gb go cap:Nat}{ns:List Int}(h:ns=[]\/sl=some ⟨gb,go,none⟩): ∀j,j<ns.length-> ∀W,(Instr.indexAt 27 (.slice sl ns.length cap) (iI j)).run Tryz.prog W= .ok (.pointer (some ⟨gb,go+4*j,none⟩)) W:=fun j hj W=>by
 obtain rfl:=h.resolve_left (fun e=>by subst e;simp at hj)
 exact ixS gb go ns.length cap j hj W
theorem PtL.ix{sl:Option Addr}{gb go cap:Nat}{ps:List (Int×Int)}(h:ps=[]\/sl=some ⟨gb,go,none⟩): ∀j,j<ps.length-> ∀W,(Instr.indexAt 73 (.slice sl ps.length cap) (iI j)).run Tryz.prog W= .ok (.pointer (some ⟨gb,go+8*j,none⟩)) W:=fun j hj W=>by
 obtain rfl:=h.resolve_left (fun e=>by subst e;simp at hj)
 exact ixP gb go ps.length cap j hj W
theorem cPolyn{q:Int}{sl:Option Addr}{n cap:Nat}{w:World}(hG:GP w)(hq:In q)(hq2:2<=q)(hn:n<=256)(h1:1<=n): ∀u,Bw w u->CC 67 #[NV q,.slice sl n cap] u .nilIface:=fun u hB=>by
 refine(pPolynomial q sl n cap u (hG.below hB) hq hn).mono ?_
 rintro e u' ⟨y,rfl,hy,hB'⟩
 rw[decide_eq_false (show ¬q<2 by omega),decide_eq_false (show ¬n<1 by omega)] at hy
 obtain rfl:=hy.no
 exact⟨rfl,hB'⟩
theorem cPtsOf{q:Int}{n:Nat}{w:World}(hG:GP w)(hq:In q)(hq2:2<=q)(hn:n<=256)(h1:1<=n): ∀u,Bw w u->CC 76 #[NV q,iI (n:Int)] u .nilIface:=fun u hB=>by
 refine(pPointsOf q n u (hG.below hB) hq hn).mono ?_
 rintro e u' ⟨y,rfl,hy,hB'⟩
 rw[decide_eq_false (show ¬q<2 by omega),decide_eq_false (show ¬n<1 by omega)] at hy
 obtain rfl:=hy.no
 exact⟨rfl,hB'⟩
theorem pValue(q x:Int)(ns:List Int)(v:Value)(w:World)(hq:In q)(hq0:q≠0)(hx:In x)(hv:NL w v ns)(hns: ∀z∈ns,In z)(hl:ns.length<=1000):
 CC 69 #[NV q,v,NV x] w (NV (hoN q x ns ns.length)):=by
 obtain⟨sl,gb,go,cap,rfl,h2,h3,h4,h5,h6⟩:=hv
 exact pValue_core q x sl gb go cap ns w hq hq0 hx (NL.ix (u:=w) h4) h5 h6 (Yc hns) hl
theorem cEval(q x:Int)(ns:List Int)(v:Value)(w:World)(hG:GP w)(hq:In q)(hq2:2<=q)(hx:In x)(hv:NL w v ns)(hns: ∀z∈ns,In z)(h1:1<=ns.length)(hl:ns.length<=256):
 CC 42 #[NV q,v,NV x] w (.tuple #[NV (hoN q x ns ns.length),iI 0]):=by
 have hv':=hv
 obtain⟨sl,gb,go,cap,rfl,_⟩:=hv
 exact eval_ok q x _ sl _ cap w (cPolyn hG hq hq2 hl h1) (fun u hB=>pValue q x ns _ u hq (by omega) hx (hv'.up hB) hns (by omega))
theorem inv_In{q a v:Int}(hq:In q)(h:IsInv a q v):In v:=Vu hq h.1 (by have:=h.2.1;omega)
theorem cBaseOf(q:Int)(ns vs:List Int)(sl:Option Addr)(cap:Nat)(w:World)(hq:In q)(hq2:2<=q)(hv:NL w (.slice sl ns.length cap) ns)(hns: ∀z∈ns,In z)(hl:ns.length<=256)(hi:Invs q ns vs):
 Calls Tryz.prog 77 #[NV q,.slice sl ns.length cap] w fun e u=> ∃vd,e= .returned (.tuple #[BX q (.slice sl ns.length cap) vd,.nilIface])/\PRw w.heap.size vs u vd/\Bw w u:=by
 obtain⟨sl',gb,go,cap',e,h2,h3,h4,h5,h6⟩:=hv
 cases e
 exact baseOf_core q sl gb go cap ns vs w hq (by omega) hi.1 hi.2 (NL.ix (u:=w) h4) h5 h6 (Yc hns) (by omega)
theorem cFactorsB(q t:Int)(ns vs:List Int)(sx:Option Addr)(cx bd:Nat)(w:World)(hq:In q)(hq2:2<=q)(ht:In t)(hv:NL w (.slice sx ns.length cx) ns)(hns: ∀z∈ns,In z)(hl:ns.length<=256)(hi:Invs q ns vs)(hb:bd<w.heap.size)(hK:CV w bd (flN vs)):
 Calls Tryz.prog 107 #[BX q (.slice sx ns.length cx) (.slice (some ⟨bd,0,none⟩) vs.length vs.length),NV t] w fun e u=> ∃y,e= .returned y/\PRw w.heap.size (fac q t ns vs) u y/\Bw w u:=by
 obtain⟨sl',gx,ox,cap',e,h2,h3,h4,h5,h6⟩:=hv
 cases e
 obtain⟨hil,hii⟩:=hi
 rw[hil]
 refine factors_core q t sx (some ⟨bd,0,none⟩) gx ox cx bd 0 ns.length ns vs (fa1 q t ns vs) (fac q t ns vs) w hq (by omega) ht (NL.ix (u:=w) h4) h5 h6 (Yc hns) (by omega) (fun j hj W=>?_) (.inr hb) (fun j v hj=>by rw[Nat.zero_add];exact(hK j v hj).1) (fun k hk=>inv_In hq (hii k hk)) hil (W6 _ _) (by rw[fac_len];exact(W6 _ _).symm) (fun i hi=>Xg hi) (fun i hi=>?_)
 ·rw[Nat.zero_add];exact ixZ bd ns.length ns.length j hj W
 ·rw[fac_get hi,fa1,Xg hi]
theorem row_nl{u:World}{b:Nat}{ns:List Int}(h2:b<u.heap.size)(h3:CV u b (flN ns)):NL u (.slice (some ⟨b,0,none⟩) ns.length ns.length) ns:=
 ⟨_,b,0,_,rfl,Nat.le_refl _,(by simp),.inr rfl,.inr h2,fun j v hj=>by rw[Nat.zero_add];exact(h3 j v hj).1⟩
theorem fac_In{q t:Int}{ns vs:List Int}(hq:In q)(hq0:q≠0): ∀k,k<(fac q t ns vs).length->In ((fac q t ns vs).getD k 0):=fun k hk=>by
 rw[fac_len] at hk
 rw[fac_get hk];exact Zi hq hq0
theorem cSumB(q t:Int)(ns vs:List Int)(ps:List (Int×Int))(v:Value)(sx:Option Addr)(cx bd:Nat)(w:World)(hq:In q)(hq2:2<=q)(ht:In t)(hx:NL w (.slice sx ns.length cx) ns)(hns: ∀z∈ns,In z)(hl:ns.length<=256)(hi:Invs q ns vs)(hb:bd<w.heap.size)(hK:CV w bd (flN vs))(hv:PtL w v ps)(hps: ∀p∈ps,In p.2)(hpl:ns.length=ps.length):
 CC 79 #[BX q (.slice sx ns.length cx) (.slice (some ⟨bd,0,none⟩) vs.length vs.length),NV t,v] w (NV (smN q (fac q t ns vs) ps ps.length)):=by
 have hq0:q≠0:=by omega
 have hp1:ps.length<=1000:=by omega
 obtain⟨sl,gb,go,cap,rfl,h2,h3,h4,h5,h6⟩:=hv
 have hfl:(fac q t ns vs).length=ps.length:=by rw[fac_len,hpl]
 have hc:=fun u (hB:Bw w u)=>cFactorsB q t ns vs sx cx bd u hq hq2 ht (hx.up hB) hns hl hi (Nat.lt_of_lt_of_le hb hB.size) (hK.below hB hb)
 rw[hi.1] at hc⊢
 have hz:=sum_core q t sx (some ⟨bd,0,none⟩) sl cx ns.length gb go cap ns (fac q t ns vs) ps w hq hq0 (PtL.ix h4) h5 h6 hp1 hc hfl (fac_In hq hq0) (fun k hk=>hps _ (by simp[List.getElem?_eq_getElem hk]))
 rw[hfl] at hz
 exact hz
theorem cCombine(q t:Int)(vs:List Int)(ps:List (Int×Int))(v:Value)(w:World)(hG:GP w)(hq:In q)(hq2:2<=q)(ht:In t)(hv:PtL w v ps)(hps: ∀p∈ps,In p.1/\In p.2)(h1:1<=ps.length)(hl:ps.length<=256)(hi:Invs q (ps.map Prod.fst) vs):
 CC 55 #[NV q,NV t,v] w (.tuple #[NV (smN q (fac q t (ps.map Prod.fst) vs) ps ps.length),iI 0]):=by
 have hv':=hv
 obtain⟨sl,gb,go,cap,rfl,_⟩:=hv
 have hxl:(ps.map Prod.fst).length=ps.length:=by simp
 have hxs: ∀z∈ps.map Prod.fst,In z:=fun z hz=>by
  obtain⟨p,hp,rfl⟩:=List.mem_map.1 hz
  exact(hps p hp).1
 refine combineOk q t _ sl _ cap (ps.map Prod.fst) vs w (cPtsOf hG hq hq2 hl h1) (fun u hB=>?_) (fun u bx hB hb hK=>?_) (fun u bx bd hB hb hd hKx hKd=>?_)
 ·obtain⟨sl',gb',go',cap',e,h2,h3,h4,h5,h6⟩:=hv'.up hB
  cases e
  exact allX_core sl gb' go' cap ps (ps.map Prod.fst) u hxl (fun k hk=>by simp[List.getElem?_map,List.getElem?_eq_getElem hk]) (PtL.ix h4) h5 h6 (by omega)
 ·exact cBaseOf q _ vs _ _ u hq hq2 (row_nl hb hK) hxs (by omega) hi
 ·exact cSumB q t _ vs ps _ _ _ bd u hq hq2 ht (row_nl hb hKx) hxs (by omega) hi hd hKd (hv'.up hB) (fun p hp=>(hps p hp).2) hxl
end
section
open Go.ChangeShapes Go.WideShapes Go.ChangeAt Go.RowKit
theorem Tryz.cells24:Tryz.prog.cellsOf 24=4:=by kernel_rfl
theorem Tryz.cells22:Tryz.prog.cellsOf 22=1:=by kernel_rfl
theorem Yj{x:Int}(h:(Lit.int .u64 x).wf=true):W64 x:=by
 simp[Lit.wf,IntKind.min,IntKind.max,IntKind.signed,IntKind.bits] at h
 exact⟨by omega,by omega⟩
section
section
variable {H:Type} {enc:TypeId×Value->H} {P:Program} {w:World} {base:Nat} {spare:Nat->Bool} {held:Bool}
end
end
theorem own4:ownKnob Tryz.prog.godebug=none:=by kernel_rfl
theorem laid4:laidOutB Tryz.prog=true:=by kernel_rfl
abbrev lstP:List (String×DataW Unit):=[("math/bits.deBruijn32tab",Rows.laid_math_bits_deBruijn32tab),("math/bits.deBruijn64tab",Rows.laid_math_bits_deBruijn64tab),("internal/strconv.uint64pow10",Rows.laid_internal_strconv_uint64pow10),("errors.errorType",Rows.laid_errors_errorType)]
theorem gEt:Tryz.prog.globalNamed "errors.errorType" =some 0:=by kernel_rfl
theorem rtW:(Tryz.prog.cutTypes.find? (·.1== "internal/reflectlite.rtype")).map (·.2)=some 186:=by kernel_rfl
theorem szW:Tryz.prog.types.size=272:=by kernel_rfl
theorem oneW:((List.range 272).filter fun t=>Tryz.prog.rowNamed t [101,114,114,111,114])=[90]:=by kernel_rfl
theorem tPow:(Tryz.prog.globals[1]?).map (·.type)=some 226:=by kernel_rfl
theorem powIs:(Rows.laid_internal_strconv_uint64pow10:DataW Unit)=Lib.tabData .u64 Lib.pow10Tab:=by kernel_rfl
theorem of_laidP{W:World}(h:laidMetH Tryz.prog lstP W):GP W:=by
 have h':laidMet Tryz.prog [("math/bits.deBruijn32tab",Rows.laid_math_bits_deBruijn32tab),("math/bits.deBruijn64tab",Rows.laid_math_bits_deBruijn64tab),("internal/strconv.uint64pow10",Rows.laid_internal_strconv_uint64pow10)] W/\handlesMet Tryz.prog [("errors.errorType",Rows.laid_errors_errorType)] W:=h
 obtain⟨hd,hh⟩:=h'
 obtain⟨ps,⟨g0,t0,cs0,f0,p0,q0,hg0,ht0,hv0,hd0,⟨g1,t1,cs1,f1,p1,q1,hg1,ht1,hv1,hd1,⟨g2,t2,cs2,f2,p2,q2,hg2,ht2,hv2,hd2,_,_⟩,_⟩,_⟩,_,_⟩:=hd
 obtain rfl:=Option.some.inj (gPow.symm.trans hg2)
 obtain rfl:=Option.some.inj (tPow.symm.trans ht2)
 rw[powIs] at hd2
 have htab:Lib.TabIs Tryz.prog W "internal/strconv.uint64pow10" .u64 Lib.pow10Tab:=by
  unfold Lib.TabIs
  rw[hv2,<-Lib.cells_of_tab Tryz.underlying226 Tryz.underlying22 (by kernel_rfl) (by kernel_rfl) hd2]
 obtain⟨name,u,ty,e1,e2,e3,e4,e5⟩:=hh _ (List.mem_singleton.2 rfl)
 have en:name=[101,114,114,111,114]:=(Option.some.inj e1).symm
 subst en
 obtain rfl:=Option.some.inj (rtW.symm.trans e2)
 have hm:ty∈(List.range 272).filter fun t=>Tryz.prog.rowNamed t [101,114,114,111,114]:=List.mem_filter.2 ⟨List.mem_range.2 (by rw[<-szW];exact e3),e4⟩
 rw[oneW] at hm
 obtain rfl:=List.mem_singleton.1 hm
 have hth:typeHandle Tryz.prog 90= .pointer (some ⟨6,90,none⟩):=by kernel_rfl
 rw[hth] at e5
 have hc:W.cell? ⟨0,0,none⟩=some (.iface 186 (.agg #[.pointer (some ⟨6,90,none⟩)])):=by simpa using World.var?_cell gEt e5 0
 have hc2:=htab.cell gPow 0 (by rw[Lib.pow10Tab_length];omega)
 exact⟨World.block_lt_of_cell? W _ hc2,htab,hc⟩
theorem doorP(os:Go.Os)(args:Array Value):laidMetH Tryz.prog lstP ((World.doorLaid Tryz.prog 400 os).forCall (fun _ _=>0) ⟨#[],args,[]⟩).memory:=
 laidMetH_of_parts3 (fuel:=8) (laidMet_of_run' 8 (by kernel_rfl) (by kernel_rfl)) (by kernel_rfl) (by kernel_rfl)
theorem flN_atg: ∀(ns:List Int) (j:Nat) (v:Value),(flN ns)[j]?=some v->j/4<ns.length/\(LN (ns.getD (j/4) 0))[j%4]?=some v
 | [],j,v,h=>by simp[flN] at h
 | n::r,j,v,h=>by
  rw[flN] at h
  by_cases hj:j<4
  ·rw[List.getElem?_append_left (by show j<4;exact hj)] at h
   rw[show j/4=0 by omega,show j%4=j by omega]
   exact⟨by simp,by simpa using h⟩
  ·rw[List.getElem?_append_right (by show 4<=j;omega)] at h
   have h:(flN r)[j -4]?=some v:=h
   have:=flN_atg r (j -4) v h
   rw[show j/4=(j -4)/4+1 by omega,show j%4=(j -4)%4 by omega]
   exact⟨by simpa using this.1,by simpa using this.2⟩
theorem SN.of{w:World}{g o:Nat}{ns:List Int}(h: ∀i,i<ns.length-> ∀c v,(LN (ns.getD i 0))[c]?=some v->w.cell? ⟨g,o+(i*4+c),none⟩=some v):SN w g o ns:=fun j v hj=>by
 obtain⟨h1,h2⟩:=flN_atg ns j v hj
 have:=h _ h1 _ v h2
 rwa [show j/4*4+j%4=j by omega] at this
theorem cellsI:Tryz.prog.cellsOf 3=1:=by kernel_rfl
end
section
open Go.RowKit
theorem xaddG_lt(a b m0 m1 m2 m3 r0 r1 r2 r3 ec:Int)(w:World)(ha:In a)(hb:In b)(hR:Hid (∀u,CC 60 #[WV (a+b),A4 m0 m1 m2 m3] u (.tuple #[A4 r0 r1 r2 r3,iI ec])))(hl:a+b<0x10000000000000000000000000000000000000000000000000000000000000000):CC 30 #[NV a,NV b,A4 m0 m1 m2 m3] w (.tuple #[A4 r0 r1 r2 r3,iI ec]):=by
 have hi:In (a+b):=⟨by have:=ha.1;have:=hb.1;omega,hl⟩
 go_enter Tryz.func30,Tryz.ntmps30
 go_upto_region 1 with fail
 obtain⟨v0,hC,HB0,K0⟩:=bx4 w (LN a) 24 (LN b) 24 ([iU m0,iU m1,iU m2,iU m3]) 24 L0s 24
 rw[hC]
 clear hC
 refine Rp K0 HB0 [] [(6,8,L0s,some (7,LN (a+b)))] (cG 0 12 [_,_,_] [(3,11,_),(4,15,_),(5,16,_),(8,9,_)]) [(7,6)] [] [false,false] (oc (g_ld 0 uN iN)<|oc (g_ld 1 uN iN)<|oc (g_cl Z2 (fun uZ=>W9 a b uZ ha hb hl))<|oc g_mv<|oc g_ex<|oc g_ex<|oc (g_al 0 aN)<|oc (g_sn 0 iN)<|oc g_as on) fun u1 b1_6 HB1 _ K1=>?_
 simp only[sQ] at K1⊢
 go_upto_region 2 with fail
 refine Rp K1 HB1 [] [(2,10,L0w,some (3,LW (a+b)))] [(0,17,_),(1,18,_)] [(3,2)] [] [true,true,false] (oc (g_ld 2 uN iN)<|oc (g_cl Za (fun uZ=>Ud (a+b) uZ hi))<|oc (g_al 0 aW)<|oc (g_sn 0 iW) on) fun u2 b2_2 HB2 _ K2=>?_
 simp only[sQ] at K2⊢
 go_upto_region 5 with fail
 refine Rp K2 HB2 [.no,.all 5 ([iU r0,iU r1,iU r2,iU r3])] [] (cG 0 21 [_,_,_,_,_] [(6,7,_)]) [] [] [false,true,false] (oc (g_ld 2 uW iW)<|oc (g_ld 0 uN iN)<|oc (g_cl Z8 hR.out)<|oc g_ex<|oc g_ex<|oc (g_st 1 iN)<|oc g_as on) fun u3 HB3 _ K3=>?_
 simp only[sQ] at K3⊢
 have c6:=(K3.cv 0).n4
 go_wp2
 refine bodyPost_ret (v:= .tuple #[A4 r0 r1 r2 r3,iI ec]) (by simp[results,Tryz.results30,go_sem,c6]) rfl ⟨rfl,HB3⟩
theorem xaddG_ge(a b m0 m1 m2 m3 r0 r1 r2 r3 ec:Int)(w:World)(ha:In a)(hb:In b)(hR:Hid (∀u,CC 60 #[WV (a+b),A4 m0 m1 m2 m3] u (.tuple #[A4 r0 r1 r2 r3,iI ec])))(hl:0x10000000000000000000000000000000000000000000000000000000000000000<=a+b):CC 30 #[NV a,NV b,A4 m0 m1 m2 m3] w (.tuple #[A4 r0 r1 r2 r3,iI ec]):=by
 have ha2:=ha.2;have hb2:=hb.2
 obtain⟨s,hs⟩: ∃s,a+b -0x10000000000000000000000000000000000000000000000000000000000000000=s:=⟨_,rfl⟩
 have hA:WV (a+b)=A8 (D0 s) (D1 s) (D2 s) (D3 s) 1 0 0 0:=WV_of (a+b) (D0 s) (D1 s) (D2 s) (D3 s) 1 0 0 0 (W_D0 s) (W_D1 s) (W_D2 s) (W_D3 s) ⟨by omega,by omega⟩ W_0 W_0 W_0 (by rw[V_In ⟨by omega,by omega⟩];simp[V];omega)
 rw[hA] at hR
 have nA:Hid (∀u,CC 58 #[NV a,NV b] u (.tuple #[NV s,.bool true])):=fun u=>by rw[<-hs];exact nrAdd_ge a b u ha hb hl
 clear hs hA ha2 hb2
 go_enter Tryz.func30,Tryz.ntmps30
 go_upto_region 1 with fail
 obtain⟨v0,hC,HB0,K0⟩:=bx4 w (LN a) 24 (LN b) 24 ([iU m0,iU m1,iU m2,iU m3]) 24 L0s 24
 rw[hC]
 clear hC
 refine Rp K0 HB0 [] [(6,8,L0s,some (7,LN s))] (cG 0 12 [_,_,_] [(3,11,_),(4,15,_),(5,16,_),(8,9,_)]) [(7,6)] [] [false,false] (oc (g_ld 0 uN iN)<|oc (g_ld 1 uN iN)<|oc (g_cl Z2 nA.out)<|oc g_mv<|oc g_ex<|oc g_ex<|oc (g_al 0 aN)<|oc (g_sn 0 iN)<|oc g_as on) fun u1 b1_6 HB1 _ K1=>?_
 simp only[sQ] at K1⊢
 go_upto_region 2 with fail
 refine Rp K1 HB1 [] [(2,10,L0w,some (3,[iU (D0 s),iU (D1 s),iU (D2 s),iU (D3 s),iU (0),iU (0),iU (0),iU (0)]))] [(0,17,_),(1,18,_)] [(3,2)] [] [true,true,false] (oc (g_ld 2 uN iN)<|oc (g_cl Za (fun uZ=>rWiden_any (D0 s) (D1 s) (D2 s) (D3 s) uZ (W_D0 s) (W_D1 s) (W_D2 s) (W_D3 s)))<|oc (g_al 0 aW)<|oc (g_sn 0 iW) on) fun u2 b2_2 HB2 _ K2=>?_
 simp only[sQ] at K2⊢
 go_upto_region 4 with fail
 refine Rp K2 HB2 [.no,.no,.cs [(4,1,(Go.Value.int Go.IntKind.u64 1))]] [] [(0,20,_)] [] [] [] (oc (g_ix (jW 4))<|oc (g_sc 2 0 sU) on) fun u3 HB3 _ K3=>?_
 simp only[fX,nK,nP,Wr.f,aK,pM,List.foldl,List.set_cons_zero,List.set_cons_succ] at K3
 simp only[sQ]
 go_upto_region 5 with fail
 refine Rp K3 HB3 [.no,.all 5 ([iU r0,iU r1,iU r2,iU r3])] [] (cG 0 21 [_,_,_,_,_] [(6,7,_)]) [] [] [false,true,false] (oc (g_ld 2 uW iW)<|oc (g_ld 0 uN iN)<|oc (g_cl Z8 hR.out)<|oc g_ex<|oc g_ex<|oc (g_st 1 iN)<|oc g_as on) fun u4 HB4 _ K4=>?_
 simp only[sQ] at K4⊢
 have c6:=(K4.cv 0).n4
 go_wp2
 refine bodyPost_ret (v:= .tuple #[A4 r0 r1 r2 r3,iI ec]) (by simp[results,Tryz.results30,go_sem,c6]) rfl ⟨rfl,HB4⟩
theorem xaddG(a b m0 m1 m2 m3 r0 r1 r2 r3 ec:Int)(w:World)(ha:In a)(hb:In b)(hR:Hid (∀u,CC 60 #[WV (a+b),A4 m0 m1 m2 m3] u (.tuple #[A4 r0 r1 r2 r3,iI ec]))):CC 30 #[NV a,NV b,A4 m0 m1 m2 m3] w (.tuple #[A4 r0 r1 r2 r3,iI ec]):=by
 by_cases hl:a+b<0x10000000000000000000000000000000000000000000000000000000000000000
 ·exact xaddG_lt a b m0 m1 m2 m3 r0 r1 r2 r3 ec w ha hb hR hl
 ·exact xaddG_ge a b m0 m1 m2 m3 r0 r1 r2 r3 ec w ha hb hR (by omega)
theorem xAdd(a b m:Int)(w:World)(ha:In a)(hb:In b)(hm:In m)(h:m≠0):CC 30 #[NV a,NV b,NV m] w (.tuple #[NV ((a+b)%m),iI 0]):=
 xaddG a b _ _ _ _ _ _ _ _ 0 w ha hb (fun u=>Vg (a+b) m u ⟨by have:=ha.1;have:=hb.1;omega,by have:=ha.2;have:=hb.2;omega⟩ hm h)
def gat(op:Int->Int->Int)(x:Int)(ns:List Int):Nat->Int
 | 0=>x
 | k+1=>op (gat op x ns k) (ns.getD k 0)
theorem gat_In{op:Int->Int->Int}{x:Int}{ns:List Int}(hx:In x)(ho: ∀a b,In a->In b->In (op a b))(hn: ∀k,k<ns.length->In (ns.getD k 0)): ∀k,k<=ns.length->In (gat op x ns k)
 | 0,_=>hx
 | k+1,h=>ho _ _ (gat_In hx ho hn k (by omega)) (hn k (by omega))
theorem mgather(N:FuncId)(op:Int->Int->Int)(x m:Int)(sl:Option Addr)(gb go cap:Nat)(ns:List Int)(w:World)(hns:ns.length<=50)(hx:In x)(hm:In m)(h:m≠0)(hN: ∀(vs:Array Value) (w:World),(callFunc N vs).run Tryz.prog w= .ok (.enter N vs) w)(hT:Hid (∀a b,In a->In b-> ∀u,Calls Tryz.prog N #[NV a,NV b,NV m] u fun e u'=>e= .returned (.tuple #[NV (op a b),iI 0])/\Bw u u'))(ho: ∀a b,In a->In b->In (op a b))(hn:Hid (∀k,k<ns.length->In (ns.getD k 0)))(hix:Hid (∀j,j<ns.length-> ∀W,(Instr.indexAt 27 (.slice sl ns.length cap) (iI j)).run Tryz.prog W= .ok (.pointer (some ⟨gb,go+4*j,none⟩)) W))(hg:ns.length=0\/gb<w.heap.size)(hS:Hid (SN w gb go ns)):
 CC 117 #[.func (.func N) #[] #[],NV x,NV m,.slice sl ns.length cap] w (.tuple #[NV (gat op (x%m) ns ns.length),iI 0]):=by
 have hI:Hid (∀k,k<=ns.length->In (gat op (x%m) ns k)):=gat_In (Zi hm h) ho hn.out
 go_enter Tryz.func117,Tryz.ntmps117
 go_upto_region 1 with fail
 obtain⟨v0,hC,HB0,K0⟩:=bx3 w (LN x) 24 (LN m) 24 L0s 24
 rw[hC]
 clear hC
 refine Rd K0 HB0 [] [(7,10,L0s,some (8,LN (x%m)))] (cG 0 15 [_,_,_,_] [(4,14,_),(5,19,_),(6,20,_),(9,11,_)]) [(8,7)] [] [false] (oc (g_ld 0 uN iN)<|oc (g_cl Z9 (fun uZ=>Xi x uZ hx))<|oc (g_ld 1 uN iN)<|oc (g_cl Zc (fun uZ=>Yu x m uZ hx.wide hm h))<|oc g_mv<|oc g_ex<|oc g_ex<|oc (g_al 0 aN)<|oc (g_sn 0 iN)<|oc g_as on) fun u1 b1_7 HB1 _ K1=>?_
 simp only[sQ] at K1⊢
 go_upto_region 2 with fail
 refine Rn K1 HB1 [(0,21,_),(1,22,_)] (oc g_mv<|oc (g_bn (fun uZ=>Zw _ _ _ 0 0 _ uZ rfl)) on) fun u2 HB2 _ K2=>?_
 simp only[sQ] at K2⊢
 go_upto_region 4 with fail
 refine Rn K2 HB2 (cG 0 25 [_,_,_] []) (oc g_mv<|oc (g_ln Tryz.underlying27)<|oc g_mv on) fun u3 HB3 _ K3=>?_
 simp only[sQ] at K3⊢
 go_wp2_with fail
 go_loopw [27] (fun s27 wr=> ∃(k:Nat),k<=ns.length/\s27=iI (k:Int)/\Bw w wr/\CV wr (w.heap.size+1) (LN m)/\CV wr (w.heap.size+1+1) L0s/\CV wr b1_7 (LN (gat op (x%m) ns k))/\b1_7<wr.heap.size/\w.heap.size+1+1<wr.heap.size) (fun s27 _=>ns.length -(intOf s27).toNat)
 case atStart=>exact⟨0,by omega,rfl,HB3,(K3.cv 0),(K3.cv 1),(K3.cv 2),(K3.lt 2),(K3.lt 1)⟩
 case round=>
  obtain⟨k,hk,rfl,HBr,Km,Kr,Kg,lg,lr⟩:=hrel
  have hnK:=K3.n
  simp at hnK
  have hoK2:=K3.lo 2
  by_cases hj:k<ns.length
  ·have hl:decide ((k:Int)<(ns.length:Int))=true:=by simp;omega
   have ik:=hI.out k hk
   have iy:=hn.out k hj
   have hC:=hT.out (gat op (x%m) ns k) (ns.getD k 0) ik iy
   have hC:Hid _:=hC
   have hX:=hix.out k hj
   have hX:Hid _:=hX
   have hR:=hS.out.at k hj
   have hR:Hid _:=hR
   have hlen:(k:Int)<1000:=by omega
   obtain⟨y,ey⟩: ∃y,ns.getD k 0=y:=⟨_,rfl⟩
   obtain⟨z,ez⟩: ∃z,gat op (x%m) ns k=z:=⟨_,rfl⟩
   rw[ey] at iy hR
   rw[ey,ez] at hC
   rw[ez] at ik Kg
   have EY:Hid _:=ey
   have EZ:Hid _:=ez
   clear ey ez
   have K3_1:Bk w.heap.size wr [(false,w.heap.size+1,LN m),(false,w.heap.size+1+1,L0s),(true,b1_7,LN z)]:=⟨.c (by omega) Km<| .c lr Kr<| .o lg (K3.lo 2) Kg<|trivial,by simp;omega⟩
   go_upto_region 5 with fail
   refine Rn K3_1 HBr [(0,28,_)] (oc (g_bn (fun uZ=>Z6 _ _ (k:Int) (ns.length:Int) _ uZ hl)) on) fun u4 HB4 sz4 K4=>?_
   simp only[sQ] at K4⊢
   go_upto_region 6 with fail
   refine Rp K4 HB4 [] [(2,13,L0s,some (3,LN y))] [(0,29,_),(1,30,_)] [(3,2)] [] [] (oc (g_ix hX.out)<|oc (g_lf hR.out (hg.resolve_left (by omega)) uN iN)<|oc (g_al 0 aN)<|oc (g_sn 0 iN) on) fun u5 b5_2 HB5 sz5 K5=>?_
   simp only[sQ] at K5⊢
   go_upto_region 7 with fail
   refine Rp K5 HB5 [.no,.no,.all 8 (LN (op z y))] [] (cG 0 32 [_,_,_,_,_] [(5,31,_),(6,37,_),(7,38,_)]) [(8,1)] [] [true,true,true,false] (oc g_mv<|oc (g_ld 2 uN iN)<|oc (g_ld 3 uN iN)<|oc (g_ld 0 uN iN)<|oc (g_cv (first:=[]) hN (fun fZ uZ kZ sZ=>hC.out uZ))<|oc g_mv<|oc g_ex<|oc g_ex<|oc (g_st 2 iN) on) fun u6 HB6 _ K6=>?_
   simp only[sQ] at K6⊢
   go_upto_region 8 with fail
   refine Rp K6 HB6 [] [] [(0,39,_),(1,27,_)] [(1,0)] [(1,27)] [] (oc (g_bn (fun uZ=>Zm _ _ (k:Int) 1 ((k+1:Nat):Int) uZ (by omega) (by omega) (by omega)))<|oc g_mv on) fun u7 HB7 _ K7=>?_
   simp only[sQ] at K7⊢
   go_wp2
   refine⟨⟨k+1,by omega,rfl,HB7,(K7.cv 0),(K7.cv 1),by rw[gat,EY.out,EZ.out];exact(K7.cv 2),(K7.lt 2),(K7.lt 1)⟩,?_⟩
   simp[intOf]<;>omega
  ·have hl:decide ((k:Int)<(ns.length:Int))=false:=by simp;omega
   have hkn:k=ns.length:=by omega
   have K3_1:Bk w.heap.size wr [(false,w.heap.size+1,LN m),(true,w.heap.size+1+1,L0s),(false,b1_7,LN (gat op (x%m) ns k))]:=⟨.c (by omega) Km<| .o lr (K3.lo 1) Kr<| .c lg Kg<|trivial,by simp;omega⟩
   go_upto_region 5 with fail
   refine Rp K3_1 HBr [] [] [(0,28,_)] [] [] [false] (oc (g_bn (fun uZ=>Z6 _ _ (k:Int) (ns.length:Int) _ uZ hl)) on) fun u4 HB4 sz4 K4=>?_
   simp only[sQ] at K4⊢
   go_upto_region 9 with fail
   refine Rp K4 HB4 [.all 1 (LN (gat op (x%m) ns k))] [] [(0,40,_),(2,9,_)] [] [] [true,false] (oc (g_ld 1 uN iN)<|oc (g_st 0 iN)<|oc g_as on) fun u5 HB5 sz5 K5=>?_
   simp only[sQ] at K5⊢
   have c8:=(K5.cv 0).n4
   go_wp2
   refine bodyPost_ret (v:= .tuple #[NV (gat op (x%m) ns k),iI 0]) (by simp[results,Tryz.results117,go_sem,c8]) rfl ⟨by rw[hkn],HB5⟩
theorem ent_mod_Mul'(vs:Array Value)(w:World):(callFunc 97 vs).run Tryz.prog w= .ok (.enter 97 vs) w:=by kernel_rfl
theorem mProduct(m:Int)(sl:Option Addr)(gb go cap:Nat)(ns:List Int)(w:World)(hns:ns.length<=50)(hm:In m)(h:m≠0)(hn:Hid (∀k,k<ns.length->In (ns.getD k 0)))(hix:Hid (∀j,j<ns.length-> ∀W,(Instr.indexAt 27 (.slice sl ns.length cap) (iI j)).run Tryz.prog W= .ok (.pointer (some ⟨gb,go+4*j,none⟩)) W))(hg:ns.length=0\/gb<w.heap.size)(hS:Hid (SN w gb go ns)):
 CC 89 #[NV m,.slice sl ns.length cap] w (.tuple #[NV (gat (fun a b=>(a*b)%m) (1%m) ns ns.length),iI 0]):=by
 go_enter Tryz.func89,Tryz.ntmps89
 go_upto_region 1 with fail
 obtain⟨v0,hC,HB0,K0⟩:=bx2 w (LN m) 24 L0s 24
 rw[hC]
 clear hC
 refine Rd K0 HB0 [.no,.all 6 (LN (gat (fun a b=>(a*b)%m) (1%m) ns ns.length))] [] (cG 0 6 [_,_,_,_,_,_] [(7,5,_)]) [] [] [false] (oc (g_cl Z7 (fun uZ=>nOf 1 uZ (by omega) (by omega)))<|oc (g_ld 0 uN iN)<|oc g_mv<|oc (g_cb ent_mod_gather (fun uZ bZ=>mgather 97 (fun a b=>(a*b)%m) 1 m sl gb go cap ns uZ hns In_1 hm h ent_mod_Mul' (fun a b ha hb u=>mMul a b m u ha hb hm h) (fun a b ha hb=>Zi hm h) hn hix (hg.imp id (fun h=>Nat.lt_of_lt_of_le h bZ.size)) (hS.out.below2 bZ hg)))<|oc g_ex<|oc g_ex<|oc (g_st 1 iN)<|oc g_as on) fun u1 HB1 _ K1=>?_
 simp only[sQ] at K1⊢
 have c4:=(K1.cv 0).n4
 go_wp2
 refine bodyPost_ret (v:= .tuple #[NV (gat (fun a b=>(a*b)%m) (1%m) ns ns.length),iI 0]) (by simp[results,Tryz.results89,go_sem,c4]) rfl ⟨rfl,HB1⟩
end
section
section
section ring
variable {R:Type} [Lean.Grind.CommRing R]
def cR(z:Int):R:= @Int.cast R Lean.Grind.Ring.intCast z
theorem cR_add(x y:Int):(cR (x+y):R)=cR x+cR y:=Lean.Grind.Ring.intCast_add x y
theorem U3(x y:Int):(cR (x*y):R)=cR x*cR y:=Lean.Grind.Ring.intCast_mul x y
theorem cR_sub(x y:Int):(cR (x -y):R)=cR x -cR y:=Lean.Grind.Ring.intCast_sub x y
theorem cR_1:(cR 1:R)=1:=Lean.Grind.Ring.intCast_one
theorem cR_0:(cR 0:R)=0:=Lean.Grind.Ring.intCast_zero
def sfx(xs vs:List Int)(k:Nat):List (R×R):=((xs.zip vs).drop k).map fun p=>(cR p.1,cR p.2)
theorem sfx_at{xs vs:List Int}{k:Nat}(hl:vs.length=xs.length)(h:k<xs.length):(sfx xs vs k:List (R×R))=(cR (xs.getD k 0),cR (vs.getD k 0))::sfx xs vs (k+1):=by
 unfold sfx
 rw[List.drop_eq_getElem_cons (by simp;omega),List.map_cons,List.getElem_zip]
 simp[List.getElem?_eq_getElem h,List.getElem?_eq_getElem (show k<vs.length by omega)]
theorem sfx_end{xs vs:List Int}(hl:vs.length=xs.length):(sfx xs vs xs.length:List (R×R))=[]:=by
 unfold sfx
 rw[List.drop_eq_nil_of_le (by simp;omega),List.map_nil]
def preR(xs:List Int):Nat->R->R
 | 0=>fun _=>1
 | k+1=>fun z=>preR xs k z*(z -cR (xs.getD k 0))
def mdR(xs:List Int)(z:R)(a:Nat):Nat->R
 | 0=>1
 | m+1=>mdR xs z a m*(z -cR (xs.getD (a+m) 0))
theorem mdR_sfx{xs vs:List Int}(hl:vs.length=xs.length)(z:R)(a:Nat): ∀m,a+m<=xs.length->mdR xs z a m*pP z (sfx xs vs (a+m))=pP z (sfx xs vs a)
 | 0,h=>by rw[mdR,Nat.add_zero];grind
 | m+1,h=>by
  rw[<-mdR_sfx hl z a m (by omega),sfx_at hl (show a+m<xs.length by omega),mdR,pP]
  rw[<-Nat.add_assoc];grind
variable (p:Nat) [Lean.Grind.IsCharP R p]
theorem W4(x:Int):(cR (x%(p:Int)):R)=cR x:=Lean.Grind.IsCharP.intCast_emod p x
theorem cR_ext{x y:Int}:(cR x:R)=cR y↔x%(p:Int)=y%(p:Int):=Lean.Grind.IsCharP.intCast_ext_iff p
theorem cR_ho(x:Int)(ns:List Int): ∀k,k<=ns.length->(cR (hoN p x ns k):R)=evPR ((ns.drop (ns.length -k)).map cR) (cR x)
 | 0,h=>by rw[hoN,Nat.sub_zero,List.drop_length,List.map_nil,evPR,cR_0]
 | k+1,h=>by
  have hi:ns.length -(k+1)<ns.length:=by omega
  rw[hoN,W4,cR_add,W4,U3,cR_ho x ns k (by omega),List.drop_eq_getElem_cons hi,List.map_cons,evPR,show ns.length -(k+1)+1=ns.length -k by omega,show ns.length -1 -k=ns.length -(k+1) by omega]
  rw[show ns.getD (ns.length -(k+1)) 0=ns[ns.length -(k+1)] by simp[List.getElem?_eq_getElem hi]]
  grind
theorem cR_hoN(x:Int)(ns:List Int):(cR (hoN p x ns ns.length):R)=evPR (ns.map cR) (cR x):=by
 have:=cR_ho (R:=R) p x ns ns.length (Nat.le_refl _)
 rwa [Nat.sub_self,List.drop_zero] at this
theorem cR_ah(t:Int)(xs:List Int): ∀k,(cR (ahN p t xs k):R)=preR xs k (cR t)
 | 0=>by rw[ahN,preR,cR_1]
 | k+1=>by rw[ahN,preR,W4,U3,W4,cR_sub,cR_ah t xs k]
theorem cR_bh{xs vs:List Int}(hl:vs.length=xs.length)(t:Int): ∀k,k<=xs.length->(cR (bhN p t xs k):R)=pP (cR t) (sfx xs vs (xs.length -k))
 | 0,_=>by rw[bhN,Nat.sub_zero,sfx_end hl,pP,cR_1]
 | k+1,h=>by
  rw[bhN,W4,U3,W4,cR_sub,cR_bh hl t k (by omega),sfx_at hl (show xs.length -(k+1)<xs.length by omega),pP,show xs.length -(k+1)+1=xs.length -k by omega,show xs.length -1 -k=xs.length -(k+1) by omega]
  grind
theorem cR_fac{xs vs:List Int}(hl:vs.length=xs.length)(t:Int){i:Nat}(hi:i<xs.length):(cR ((fac p t xs vs).getD i 0):R)=cR (vs.getD i 0)*(preR xs i (cR t)*pP (cR t) (sfx xs vs (i+1))):=by
 rw[fac_get hi,W4,U3,W4,U3,cR_ah,cR_bh p hl t _ (by omega),show xs.length -(xs.length -1 -i)=i+1 by omega];grind
end ring
theorem hoN_rng{q:Int}(hq:0<q){x:Int}{ns:List Int}: ∀k,0<=hoN q x ns k/\hoN q x ns k<q
 | 0=>⟨Int.le_refl _,hq⟩
 | k+1=>⟨Int.emod_nonneg _ (by omega),Int.emod_lt_of_pos _ hq⟩
theorem fac_rng{q:Int}(hq:0<q){t:Int}{xs vs:List Int}{i:Nat}(hi:i<xs.length):0<=(fac q t xs vs).getD i 0/\(fac q t xs vs).getD i 0<q:=by
 rw[fac_get hi];exact⟨Int.emod_nonneg _ (by omega),Int.emod_lt_of_pos _ hq⟩
end
end
section
open Go.RowKit
section
theorem nrCompareP(n m:Int)(w:World)(hn:In n)(hm:In m):CC 65 #[NV n,NV m] w (iI (cmpI n m)):=by
 have k:=Ws _ _ _ _ _ _ _ _ w (W_D0 n) (W_D1 n) (W_D2 n) (W_D3 n) (W_D0 m) (W_D1 m) (W_D2 m) (W_D3 m)
 simp only[V_In hn,V_In hm] at k
 exact k
theorem bdNk(k:Int)(h0:0<=k)(h1:k<18446744073709551616)(w:World):(Instr.build 24 [(0,iU k)].toArray).run Tryz.prog w= .ok (NV k) w:=by
 rw[Xt h0 h1];kernel_rfl
theorem leq_p(p q:Operand)(x y:Int)(b:Bool)(w:World)(h:decide (x<=y)=b):(do eqGuard .leq 3 p q (iI x) (iI y);binOp .leq 3 (iI x) (iI y):Sem Value).run Tryz.prog w= .ok (.bool b) w:=by
 subst h;go_simp
def pwN(q x:Int):Nat->Int
 | 0=>1
 | k+1=>(pwN q x k*x)%q
def suN(q x:Int)(ns:List Int):Nat->Int
 | 0=>0
 | k+1=>(suN q x ns k+(ns.getD k 0*pwN q x k)%q)%q
section ring
variable {R:Type} [Lean.Grind.CommRing R] (p:Nat) [Lean.Grind.IsCharP R p]
theorem su_go(x:Int)(ns:List Int): ∀k,k<=ns.length->(cR (suN p x ns k):R)+cR (pwN p x k)*evPR ((ns.drop k).map cR) (cR x)=evPR (ns.map cR) (cR x)
 | 0,_=>by rw[suN,pwN,cR_0,cR_1,List.drop_zero];grind
 | k+1,h=>by
  have hk:k<ns.length:=by omega
  rw[<-su_go x ns k (by omega),suN,pwN,W4,cR_add,W4,U3,W4,U3,List.drop_eq_getElem_cons hk,List.map_cons,evPR]
  rw[show ns.getD k 0=ns[k] by simp[List.getElem?_eq_getElem hk]]
  grind
end ring
theorem su_ho{q:Int}(hq:2<=q)(x:Int)(ns:List Int):suN q x ns ns.length=hoN q x ns ns.length:=by
 obtain⟨p,rfl⟩: ∃p:Nat,q=(p:Int):=⟨q.toNat,by omega⟩
 have:NeZero p:=⟨by omega⟩
 have e:=su_go (R:=Fin p) p x ns ns.length (Nat.le_refl _)
 rw[List.drop_length,List.map_nil,evPR,<-cR_hoN] at e
 have e2:(cR (suN p x ns ns.length):Fin p)=cR (hoN p x ns ns.length):=by rw[<-e];grind
 rw[cR_ext p] at e2
 have r1: ∀k,0<=suN p x ns k/\suN p x ns k<p:=fun k=>by
  cases k with
  | zero=>exact⟨Int.le_refl _,by show (0:Int)<p;omega⟩
  | succ k=>exact⟨Int.emod_nonneg _ (by omega),Int.emod_lt_of_pos _ (by omega)⟩
 have r2:=hoN_rng (q:=p) (by omega) (x:=x) (ns:=ns) ns.length
 rwa [Int.emod_eq_of_lt (r1 _).1 (r1 _).2,Int.emod_eq_of_lt r2.1 r2.2] at e2
theorem ent_cmpT:EnT 65:=fun _ _=>by kernel_rfl
theorem right_core(q:Int)(b:Bool)(w:World)(hq:In q)(hb:decide (0<=cmpI q 2)=b):
 CC 70 #[NV q] w (.bool b):=by
 go_enter Tryz.func70,Tryz.ntmps70
 go_upto_region 1 with fail
 obtain⟨v0,hC,HB0,K0⟩:=bx1 w (LN q) 24
 rw[hC]
 clear hC
 refine Rp K0 HB0 [] [] (cG 0 3 [_,_,_,_] [(4,2,_)]) [] [] [false] (oc (g_ld 0 uN iN)<|oc (g_bd (fun uZ=>bdNk 2 (by omega) (by omega) uZ))<|oc (g_cl ent_cmpT (fun uZ=>nrCompareP q 2 uZ hq ⟨by decide,by decide⟩))<|oc (g_bn (fun uZ=>Wv _ _ (cmpI q 2) 0 _ uZ hb))<|oc g_as on) fun u1 HB1 _ K1=>?_
 simp only[sQ] at K1⊢
 go_wp2
 refine bodyPost_ret (v:= .bool b) (by simp[results,Tryz.results70,go_sem,]) rfl ⟨rfl,HB1⟩
theorem xRight(q:Int)(w:World)(hq:In q):CC 70 #[NV q] w (.bool (decide (2<=q))):=
 right_core q _ w hq (by unfold cmpI;by_cases h:2<=q<;>simp[h]<;>(repeat' split)<;>omega)
theorem many_t(n:Nat)(w:World)(hn:n<=256)(hc:decide ((1:Int)<=(n:Int))=true):
 CC 71 #[iI (n:Int)] w (.bool true):=by
 have hc2:decide ((n:Int)<=256)=true:=by simp;omega
 go_enter Tryz.func71,Tryz.ntmps71
 have HB0:Bw w w:=Below.refl _ _
 have K0_1:=Bk.nil (w.heap.size) w
 go_upto_region 1 with fail
 refine Rn K0_1 HB0 (cG 0 3 [_,_,_,_,_,_] [(6,2,_)]) (oc g_mv<|oc (g_bn (fun uZ=>Wv _ _ (n:Int) 1 _ uZ hc))<|oc g_mv<|oc g_mv<|oc (g_bn (fun uZ=>leq_p _ _ (n:Int) 256 _ uZ hc2))<|oc g_pk<|oc g_as on) fun u1 HB1 _ K1=>?_
 simp only[sQ] at K1⊢
 go_wp2
 refine bodyPost_ret (v:= .bool true) (by simp[results,Tryz.results71,go_sem,]) rfl ⟨rfl,HB1⟩
theorem many_f(n:Nat)(w:World)(hn:n<=256)(hc:decide ((1:Int)<=(n:Int))=false):
 CC 71 #[iI (n:Int)] w (.bool false):=by
 have hc2:decide ((n:Int)<=256)=true:=by simp;omega
 go_enter Tryz.func71,Tryz.ntmps71
 have HB0:Bw w w:=Below.refl _ _
 have K0_1:=Bk.nil (w.heap.size) w
 go_upto_region 1 with fail
 refine Rn K0_1 HB0 (cG 0 3 [_,_,_,undef,undef,_] [(6,2,_)]) (oc g_mv<|oc (g_bn (fun uZ=>Wv _ _ (n:Int) 1 _ uZ hc))<|oc g_mv<|oc g_sk<|oc g_sk<|oc g_pk<|oc g_as on) fun u1 HB1 _ K1=>?_
 simp only[sQ] at K1⊢
 go_wp2
 refine bodyPost_ret (v:= .bool false) (by simp[results,Tryz.results71,go_sem,]) rfl ⟨rfl,HB1⟩
theorem xMany(n:Nat)(w:World)(hn:n<=256):CC 71 #[iI (n:Int)] w (.bool (decide (1<=n))):=by
 by_cases h:1<=n
 ·rw[decide_eq_true h];exact many_t n w hn (by simp;omega)
 ·rw[decide_eq_false h];exact many_f n w hn (by simp;omega)
end
def StR(n f a:Int):Prop:=n%2=1/\3<=n/\2<=f/\(n -1)%f=0/\(n -1)/f<f/\a^(n -1).toNat%n=1/\gI ((a^((n -1)/f).toNat%n -1)%n) n=1
open Classical in
noncomputable def stB (n f a:Int):Bool:=decide (StR n f a)
theorem stB_iff{n f a:Int}:stB n f a=true↔StR n f a:=by simp[stB]
theorem StR.pr{n f a:Int}(h:StR n f a)(ha:0<=a)(hf:Pr f.toNat):Pr n.toNat:=by
 obtain⟨h1,h2,h3,h4,h5,h6,h7⟩:=h
 obtain⟨N,rfl⟩: ∃N:Nat,n=N:=⟨n.toNat,by omega⟩
 obtain⟨F,rfl⟩: ∃F:Nat,f=F:=⟨f.toNat,by omega⟩
 obtain⟨A,rfl⟩: ∃A:Nat,a=A:=⟨a.toNat,by omega⟩
 have e1:((N:Int) -1)=((N -1:Nat):Int):=by omega
 have eq:((N:Int) -1)/F=(((N -1)/F:Nat):Int):=by rw[e1,Int.natCast_ediv]
 rw[eq] at h5 h7
 rw[e1] at h4 h6
 simp only[Int.toNat_natCast] at h6 h7 hf⊢
 have k4:(N -1)%F=0:=by
  have:(((N -1)%F:Nat):Int)=0:=by rw[Int.natCast_emod];exact h4
  omega
 have k6:A^(N -1)%N=1:=by
  have:((A^(N -1)%N:Nat):Int)=1:=by rw[Int.natCast_emod,Int.natCast_pow];exact h6
  omega
 have k5:(N -1)/F<F:=by omega
 obtain⟨x,hx⟩: ∃x:Nat,(((A:Int)^((N -1)/F)%N -1)%N)=x:=⟨_,(Int.toNat_of_nonneg (Int.emod_nonneg _ (by omega))).symm⟩
 rw[hx] at h7
 have xl:x<N:=by
  have:=Int.emod_lt_of_pos ((A:Int)^((N -1)/F)%N -1) (show (0:Int)<N by omega)
  omega
 have k7:Nat.gcd x N=1:=by
  unfold gI at h7;simp only[Int.toNat_natCast] at h7;omega
 have kx:(x+1)%N=A^((N -1)/F)%N:=by
  have:(((x+1)%N:Nat):Int)=((A^((N -1)/F)%N:Nat):Int):=by
   rw[Int.natCast_emod,Int.natCast_emod,Int.natCast_pow,Int.natCast_add,<-hx]
   show ((((A:Int)^((N -1)/F)%N -1)%N)+1)%N=_
   rw[Int.emod_add_emod,Int.sub_add_cancel,Int.emod_emod]
  omega
 have hN:N=F*((N -1)/F)+1:=by
  have:=Nat.div_add_mod (N -1) F
  rw[k4] at this
  omega
 exact pock hf hN (by omega) k5 k6 (gcd_demand xl kx k7)
abbrev L0c:List Value:=[iU 0,iU 0,iU 0,iU 0,iU 0,iU 0,iU 0,iU 0,iU 0,iU 0,iU 0,iU 0]
theorem al_api_Cert(w:World):(Instr.alloc 116 true (.tuple #[])).run Tryz.prog w= .ok (.pointer (some ⟨w.heap.size,0,none⟩)) (w.alloc (.cells L0c.toArray 116)):=by kernel_rfl
def flC:List (Int×Int×Int)->List Value
 | []=>[]
 | c::r=>CE c.1 c.2.1 c.2.2++flC r
def SCt(w:World)(g o:Nat)(cs:List (Int×Int×Int)):Prop:= ∀j v,(flC cs)[j]?=some v->w.cell? ⟨g,o+j,none⟩=some v
theorem SCt.below{w w':World}{m g o:Nat}{cs:List (Int×Int×Int)}(h:SCt w g o cs)(hb:Below m w w')(hg:g<m):SCt w' g o cs:=fun j v hj=>(hb.cell (p:=⟨g,o+j,none⟩) hg).trans (h j v hj)
theorem SCt.empty{w:World}{g o:Nat}{cs:List (Int×Int×Int)}(h:cs.length=0):SCt w g o cs:=fun j v hj=>by
 have e:cs=[]:=List.eq_nil_of_length_eq_zero h
 subst e;simp[flC] at hj
theorem SCt.below2{w w':World}{m g o:Nat}{cs:List (Int×Int×Int)}(h:SCt w g o cs)(hb:Below m w w')(hg:cs.length=0\/g<m):SCt w' g o cs:=by
 rcases hg with e | hg
 ·exact SCt.empty e
 ·exact h.below hb hg
abbrev cat(cs:List (Int×Int×Int))(j:Nat):Int×Int×Int:=cs.getD j (0,0,0)
theorem flC_get: ∀(cs:List (Int×Int×Int)) (j c:Nat) (v:Value),j<cs.length->(CE (cat cs j).1 (cat cs j).2.1 (cat cs j).2.2)[c]?=some v->(flC cs)[12*j+c]?=some v
 | [],j,c,v,h,_=>by simp at h
 | n::r,0,c,v,h,e=>by
  rw[flC,List.getElem?_append_left]
  ·simpa [cat] using e
  ·have:=(List.getElem?_eq_some_iff.1 e).1
   simpa using this
 | n::r,j+1,c,v,h,e=>by
  rw[flC,List.getElem?_append_right (by simp;omega)]
  have:=flC_get r j c v (by simpa using h) (by simpa [cat] using e)
  simpa [show 12*(j+1)+c -12=12*j+c by omega] using this
theorem SCt.at{w:World}{g o:Nat}{cs:List (Int×Int×Int)}(h:SCt w g o cs)(j:Nat)(hj:j<cs.length):w.rangeAt g (o+12*j) (CE (cat cs j).1 (cat cs j).2.1 (cat cs j).2.2):=fun c v hc=>by
 have:=h (12*j+c) v (flC_get cs j c v hj hc)
 rwa [<-Nat.add_assoc] at this
theorem ixC(g o n cap j:Nat)(h:j<n)(w:World):(Instr.indexAt 112 (.slice (some ⟨g,o,none⟩) n cap) (iI j)).run Tryz.prog w= .ok (.pointer (some ⟨g,o+12*j,none⟩)) w:=by
 have h2:(j:Int)<n:=by omega
 go_simp
noncomputable def knB (cs:List (Int×Int×Int)):Nat->Bool
 | 0=>smB (cat cs 0).2.1
 | k+1=>decide ((cat cs (k+1)).2.1=(cat cs k).1)
noncomputable def crB (cs:List (Int×Int×Int)):Nat->Bool
 | 0=>true
 | k+1=>crB cs k&&(knB cs k&&stB (cat cs k).1 (cat cs k).2.1 (cat cs k).2.2)
noncomputable def cfB (cs:List (Int×Int×Int)):Bool:=crB cs cs.length&&decide (0<cs.length)
end
end Go.Proofs.YtmoimodkopjeeaaGreatDoor
