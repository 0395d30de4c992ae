import Derived.Test.YtoffgfhilkpdpaaGreatDoorMR1
import Derived.Test.YtoffgfhilkpdpaaGreatDoorRows
import Derived.Test.YtoffgfhilkpdpaaGreatDoorTie
import Derived.Test.YtoffgfhilkpdpaaGreatDoorCards
import Derived.LaidMore
import Derived.SevenTiedAt
namespace Go.Proofs.YtoffgfhilkpdpaaGreatDoor
set_option linter.unusedVariables false
set_option linter.unusedSimpArgs false
set_option maxRecDepth 100000
set_option maxHeartbeats 4000000
section
def Pr(p:Nat):Prop:=2<=p/\ ∀d,d∣p->d=1\/d=p
theorem Pr.cop{p a:Nat}(h:Pr p)(ha: ¬p∣a):Nat.gcd p a=1:=by
 rcases h.2 _ (Nat.gcd_dvd_left p a) with e | e
 ·exact e
 ·exact absurd (by rw[<-e];exact Nat.gcd_dvd_right p a) ha
theorem Pr.dvd{p a b:Nat}(h:Pr p)(hd:p∣a*b):p∣a\/p∣b:=by
 by_cases ha:p∣a
 ·exact .inl ha
 ·exact .inr (Nat.Coprime.dvd_of_dvd_mul_left (show Nat.Coprime p a from h.cop ha) hd)
theorem Pr.ex: ∀(n d:Nat),d<=n->2<=d-> ∃p,Pr p/\p∣d
 | 0,d,h,h2=>Z1
 | n+1,d,h,h2=>by
  by_cases hp:Pr d
  ·exact⟨d,hp,Nat.dvd_refl d⟩
  ·have: ∃e,e∣d/\e≠1/\e≠d:=Classical.byContradiction fun hn=>hp ⟨h2,fun e he=>by
    by_cases e1:e=1
    ·exact .inl e1
    ·by_cases e2:e=d
     ·exact .inr e2
     ·exact absurd ⟨e,he,e1,e2⟩ hn⟩
   obtain⟨e,he,e1,e2⟩:=this
   have hpos:0<e:=Nat.pos_of_dvd_of_pos he Z1
   have hle:e<=d:=Nat.le_of_dvd Z1 he
   obtain⟨p,hp,hd⟩:=Pr.ex n e Z1 Z1
   exact⟨p,hp,Nat.dvd_trans hd he⟩
def Vk:List Nat->Nat
 | []=>1
 | a::r=>a*Vk r
theorem prod_erase{a:Nat}: ∀{l:List Nat},a∈l->Vk l=a*Vk (l.erase a)
 | [],h=>by cases h
 | b::r,h=>by
  by_cases e:b=a
  ·subst e;simp[Vk]
  ·have hm:a∈r:=by
    rcases List.mem_cons.1 h with h | h
    ·exact absurd h.symm e
    ·exact h
   rw[List.erase_cons_tail (by simpa using e),Vk,Vk,prod_erase hm]
   rw[<-Nat.mul_assoc,Nat.mul_comm b a,Nat.mul_assoc]
theorem prod_same: ∀{l m:List Nat},l.Nodup->(∀x∈l,x∈m)->l.length=m.length->Vk l=Vk m
 | [],m,_,_,h=>by
  have:m=[]:=List.eq_nil_of_length_eq_zero h.symm
  rw[this]
 | a::t,m,hn,hs,hl=>by
  rw[List.nodup_cons] at hn
  have ha:=hs a List.mem_cons_self
  rw[prod_erase ha,Vk,prod_same (l:=t) (m:=m.erase a) hn.2
   (fun x hx=>(List.mem_erase_of_ne (fun e=>hn.1 (by rw[<-e];exact hx))).2 (hs x (List.mem_cons_of_mem _ hx)))
   (by rw[List.length_erase_of_mem ha,<-hl];simp)]
theorem prod_map(b p:Nat): ∀l:List Nat,Vk (l.map fun i=>b*i%p)%p=b^l.length*Vk l%p
 | []=>by simp[Vk]
 | a::r=>by
  rw[List.map_cons,Vk,Nat.mul_mod,prod_map b p r,Nat.mod_mod,<-Nat.mul_mod,Vk,List.length_cons,Nat.pow_succ]
  congr 1
  rw[Nat.mul_comm (b^r.length) b,Nat.mul_assoc,Nat.mul_assoc]
  congr 1
  rw[<-Nat.mul_assoc,<-Nat.mul_assoc,Nat.mul_comm a (b^r.length)]
theorem prod_not{p:Nat}(hp:Pr p): ∀{l:List Nat},(∀x∈l,0<x/\x<p)-> ¬p∣Vk l
 | [],_,h=>by
  have:=Nat.le_of_dvd (Nat.one_pos) h
  have:=hp.1
  omega
 | a::r,h,hd=>by
  rcases hp.dvd hd with h1 | h1
  ·have:=Nat.le_of_dvd (h a List.mem_cons_self).1 h1
   have:=(h a List.mem_cons_self).2
   omega
  ·exact prod_not hp (fun x hx=>h x (List.mem_cons_of_mem _ hx)) h1
theorem Uu{p a b:Nat}(h:a%p=b%p):p∣a -b:=
 Nat.dvd_of_mod_eq_zero (Nat.sub_mod_eq_zero_of_mod_eq h)
theorem mod_of_dvd{p a b:Nat}(hab:b<=a)(h:p∣a -b):a%p=b%p:=by
 obtain⟨c,hc⟩:=h
 have:a=b+p*c:=Z1
 rw[this,Nat.add_mul_mod_self_left]
theorem Pr.cancel{p c a b:Nat}(hp:Pr p)(hc: ¬p∣c)(h:c*a%p=c*b%p):a%p=b%p:=by
 rcases Nat.le_total b a with hab | hab
 ·have:=Uu h
  rw[<-Nat.mul_sub] at this
  exact mod_of_dvd hab ((hp.dvd this).resolve_left hc)
 ·have:=Uu h.symm
  rw[<-Nat.mul_sub] at this
  exact(mod_of_dvd hab ((hp.dvd this).resolve_left hc)).symm
theorem Pr.fermat{p b:Nat}(hp:Pr p)(hb: ¬p∣b):b^(p -1)%p=1:=by
 have h2:=hp.1
 have hm: ∀x,x∈List.range' 1 (p -1)↔0<x/\x<p:=fun x=>by
  rw[List.mem_range'_1];omega
 have hin: ∀x∈(List.range' 1 (p -1)).map (fun i=>b*i%p),x∈List.range' 1 (p -1):=fun x hx=>by
  obtain⟨i,hi,rfl⟩:=List.mem_map.1 hx
  have hi:=(hm i).1 hi
  refine(hm _).2 ⟨Nat.pos_of_ne_zero fun e=>?_,Nat.mod_lt _ Z1⟩
  rcases hp.dvd (Nat.dvd_of_mod_eq_zero e) with h | h
  ·exact hb h
  ·have:=Nat.le_of_dvd hi.1 h
   omega
 have hnd:((List.range' 1 (p -1)).map (fun i=>b*i%p)).Nodup:=by
  refine List.Pairwise.map _ (R:=fun x y=>(0<x/\x<p)/\(0<y/\y<p)/\x≠y) (fun x y h e=>?_) ?_
  ·have:=hp.cancel hb e
   rw[Nat.mod_eq_of_lt h.1.2,Nat.mod_eq_of_lt h.2.1.2] at this
   exact h.2.2 this
  ·refine List.Pairwise.imp_of_mem (fun{x y} hx hy h=>⟨(hm x).1 hx,(hm y).1 hy,h⟩) (List.nodup_range' (step:=1) Z1)
 have e:=prod_map b p (List.range' 1 (p -1))
 rw[prod_same hnd hin (by simp),List.length_range',Nat.mul_comm] at e
 have:=hp.cancel (c:=Vk (List.range' 1 (p -1))) (a:=1) (b:=b^(p -1))
  (prod_not hp fun x hx=>(hm x).1 hx) (by rw[Nat.mul_one];exact e)
 rw[<-this,Nat.mod_eq_of_lt h2]
theorem pow_one_mod{b m p:Nat}(h:b^m%p=1)(k:Nat):b^(m*k)%p=1%p:=by
 rw[Nat.pow_mul,Nat.pow_mod,h,Nat.one_pow]
theorem pow_gcd{b p:Nat}(h2:2<=p): ∀m n,b^m%p=1->b^n%p=1->b^Nat.gcd m n%p=1:=by
 intro m n
 induction m,n using Nat.gcd.induction with
 | H0 n=>intro _ h;rw[Nat.gcd_zero_left];exact h
 | H1 m n hm ih=>
  intro h1 h3
  rw[Nat.gcd_rec]
  refine ih ?_ h1
  have:=h3
  rw[<-Nat.div_add_mod n m,Nat.pow_add,Nat.mul_mod,pow_one_mod h1,Nat.mod_eq_of_lt h2,Nat.one_mul,Nat.mod_mod] at this
  exact this
theorem pock1{N F q A r:Nat}(hF:Pr F)(hN:N=F*q+1)(hq:q<F)
 (h1:A^(N -1)%N=1)(hg: ∀d,d∣N->A^q%d=1%d->d=1)(hr:Pr r)(hd:r∣N):F<r:=by
 have h2:=hr.1
 have hq1:N -1=q*F:=by rw[hN,Nat.add_sub_cancel,Nat.mul_comm]
 have m1:1%r=1:=Nat.mod_eq_of_lt h2
 have e1:(A^q)^F%r=1:=by
  rw[<-Nat.pow_mul,<-hq1,<-Nat.mod_mod_of_dvd _ hd,h1,m1]
 have hnd: ¬r∣A^q:=fun h=>by
  have h:A^q%r=0:=Nat.mod_eq_zero_of_dvd h
  rw[Nat.pow_mod,h,Nat.zero_pow (by have:=hF.1;omega)] at e1
  simp at e1
 have e2:=hr.fermat hnd
 have e3:=pow_gcd h2 _ _ e1 e2
 rcases hF.2 _ (Nat.gcd_dvd_left F (r -1)) with g | g
 ·rw[g,Nat.pow_one] at e3
  have:=hg r hd (by rw[e3,m1])
  omega
 ·have:=Nat.le_of_dvd Z1 (g▸Nat.gcd_dvd_right F (r -1))
  omega
theorem pock{N F q A:Nat}(hF:Pr F)(hN:N=F*q+1)(h3:2<=N)(hq:q<F)
 (h1:A^(N -1)%N=1)(hg: ∀d,d∣N->A^q%d=1%d->d=1):Pr N:=by
 have hF2:=hF.1
 have big: ∀d,d∣N->2<=d->F<d:=fun d hd hd2=>by
  obtain⟨r,hr,hrd⟩:=Pr.ex d d (Nat.le_refl d) hd2
  have:=pock1 hF hN hq h1 hg hr (Nat.dvd_trans hrd hd)
  exact Nat.lt_of_lt_of_le this (Nat.le_of_dvd Z1 hrd)
 refine⟨h3,fun d hd=>?_⟩
 obtain⟨e,he⟩:=hd
 by_cases d1:d=1
 ·exact .inl d1
 refine .inr ?_
 by_cases e1:e=1
 ·rw[he,e1,Nat.mul_one]
 exfalso
 have d0:d≠0:=fun h=>by rw[h,Nat.zero_mul] at he;omega
 have e0:e≠0:=fun h=>by rw[h,Nat.mul_zero] at he;omega
 have a:=big d ⟨e,he⟩ Z1
 have b:=big e ⟨d,by rw[Nat.mul_comm];exact he⟩ Z1
 have c:(F+1)*(F+1)<=N:=by rw[he];exact Nat.mul_le_mul a b
 have c2:F*q<=F*F:=Nat.mul_le_mul_left F Z1
 rw[Nat.add_mul,Nat.mul_add] at c
 omega
theorem gcd_demand{N q A x:Nat}(hx:x<N)(hs:(x+1)%N=A^q%N)(hg:Nat.gcd x N=1):
 ∀d,d∣N->A^q%d=1%d->d=1:=by
 intro d hd e
 have:(x+1)%d=1%d:=by rw[<-Nat.mod_mod_of_dvd _ hd,hs,Nat.mod_mod_of_dvd _ hd,e]
 have h:=Uu this
 rw[Nat.add_sub_cancel] at h
 exact Nat.eq_one_of_dvd_one (hg▸Nat.dvd_gcd h hd)
theorem trial{n:Nat}(h2:2<=n)(h: ∀d,2<=d->d*d<=n->n%d≠0):Pr n:=by
 refine⟨h2,fun d hd=>?_⟩
 obtain⟨e,he⟩:=hd
 by_cases d1:d=1
 ·exact .inl d1
 refine .inr ?_
 by_cases e1:e=1
 ·rw[he,e1,Nat.mul_one]
 exfalso
 have d0:d≠0:=fun h=>by rw[h,Nat.zero_mul] at he;omega
 have e0:e≠0:=fun h=>by rw[h,Nat.mul_zero] at he;omega
 rcases Nat.le_total d e with hl | hl
 ·exact h d Z1 (by rw[he];exact Nat.mul_le_mul_left d hl) (by rw[he,Nat.mul_mod_right])
 ·exact h e Z1 (by rw[he];exact Nat.mul_le_mul_right e hl) (by rw[he,Nat.mul_mod_left])
end
section
open Go.RowKit
theorem nCompare(n m:Int)(w:World)(hn:In n)(hm:In m):CC 97 #[NV n,NV m] w (iI (cmpI n m)):=by
 have k:=Compare_any _ _ _ _ _ _ _ _ w (W_D0 n) (W_D1 n) (W_D2 n) (W_D3 n) (W_D0 m) (W_D1 m) (W_D2 m) (W_D3 m)
 simp only[V_In hn,V_In hm] at k
 exact k
theorem Y5:EnT 97:=fun _ _=>by kernel_rfl
theorem rem_u(p q:Operand)(x y z:Int)(w:World)(h0:0<=x)(hx:x<18446744073709551616)(h1:0<y)(h:x%y=z):(do eqGuard .rem 22 p q (iU x) (iU y);binOp .rem 22 (iU x) (iU y):Sem Value).run Tryz.prog w= .ok (iU z) w:=by
 have hy:y≠0:=Z1
 have hb:(y==0)=false:=by simp[hy]
 have e:x.tmod y=z:=by rw[Int.tmod_eq_emod_of_nonneg h0,h]
 have z0:0<=z:=by rw[<-h];exact Int.emod_nonneg x hy
 have z1:z<=x:=by
  have a:=Int.mul_ediv_add_emod x y
  have b:0<=y*(x/y):=Int.mul_nonneg Z1 (Int.ediv_nonneg h0 Z1)
  omega
 have wz:IntKind.u64.wrap z=z:=by simp[IntKind.wrap,IntKind.signed,IntKind.bits];omega
 go_simp
def Sm(x:Int):Prop:=2<=x/\x<1048576/\ ∀d:Int,2<=d->d*d<=x->x%d≠0
open Classical in
noncomputable def smB (x:Int):Bool:=decide (Sm x)
theorem smB_t{x:Int}(h:Sm x):smB x=true:=by simp[smB,h]
theorem Sm.pr{x:Int}(h:Sm x):Pr x.toNat:=trial (by have:=h.1;omega) fun d hd hq he=>h.2.2 d Z1 (by
 have:=h.1
 have e:((d*d:Nat):Int)<=((x.toNat:Nat):Int):=Int.ofNat_le.2 hq
 rw[Int.toNat_of_nonneg Z1] at e
 rw[Int.natCast_mul] at e;exact e) (by
 have:=h.1
 have e:((x.toNat%d:Nat):Int)=0:=by rw[he];rfl
 rw[Int.natCast_emod,Int.toNat_of_nonneg Z1] at e;exact e)
section
def tx(n:Int):ByteArray:=strOfNums (txl (D0 n) (D1 n) (D2 n) (D3 n) (nd (D0 n) (D1 n) (D2 n) (D3 n)))
theorem nText(n:Int)(w:World):CC 98 #[NV n] w (.string (tx n)):=Text_any _ _ _ _ w (W_D0 n) (W_D1 n) (W_D2 n) (W_D3 n)
theorem tx_sz(n:Int):(tx n).size<=64:=by
 unfold tx
 rw[strOfNums_size]
 unfold txl
 rw[List.length_map,List.length_range]
 have:=blen_bd _ _ _ _ (W_D0 n) (W_D1 n) (W_D2 n) (W_D3 n)
 unfold nd
 split<;>omega
section
variable {R:Rg} {P:Program} {Q:Exit->Act->World->Prop} {ops:Array Oper} {i:Nat} {o:Oper}
theorem g_mi{T:TypeId}{x:Operand}{vx v:Value}(hr: ∀w,(Instr.makeInterface T vx).run P w= .ok v w)(hop:o.op= .makeInterface T x:=by rfl)(hx:evR R i o x=some vx:=by rfl)(hv:some v=Y3 i R.G:=by rfl)(hc:R.chk ops i o=true:=by rfl):OG R P ops Q i o:=
 g_op (fun ev u he=>by
  unfold execOp;rw[hop];simp only[he _ _ hx]
  rw[Sem.run_bind,hr,Result.andThen_ok,Sem.run_pure]) hv hc
end
theorem miE(n:Int)(w:World):(Instr.makeInterface 34 (iI n)).run Tryz.prog w= .ok (.iface 34 (iI n)) w:=by kernel_rfl
theorem miF(s:ByteArray)(T:TypeId)(x:Value)(w:World):(Instr.makeInterface 180 (.agg #[.string s,.iface T x])).run Tryz.prog w= .ok (.iface 180 (.agg #[.string s,.iface T x])) w:=by kernel_rfl
theorem bdFl(s:ByteArray)(T:TypeId)(x:Value)(w:World):(Instr.build 180 [(0,.string s),(1,.iface T x)].toArray).run Tryz.prog w= .ok (.agg #[.string s,.iface T x]) w:=by kernel_rfl
theorem add_st(p q:Operand)(s t:ByteArray)(w:World)(hs:s.size<=500)(ht:t.size<=500):(do eqGuard .add 9 p q (.string s) (.string t);binOp .add 9 (.string s) (.string t):Sem Value).run Tryz.prog w= .ok (.string (s++t)) w:=by
 have h2: ¬9223372036854775807<s.size+t.size:=Z1
 go_simp
theorem AE.or{b:Bool}{w:World}{x:Value}(h:AE b w x):x= .nilIface\/ ∃T z,x= .iface T z:=h.imp (·.2) fun⟨_,d,h⟩=>h.some
theorem AE.no{w:World}{x:Value}(h:AE false w x):x= .nilIface:=h.elim (·.2) fun h=>by cases h.1
theorem ent_limb_Text:EnT 98:=fun _ _=>by kernel_rfl
theorem Tk:EnT 38:=fun _ _=>by kernel_rfl
theorem modulus_t(q:Int)(w:World)(hq:In q)(hc:decide (cmpI q 2<0)=true):
 CC 99 #[NV q] w (.iface 180 (.agg #[.string (⟨#[109,111,100,117,108,111,32]⟩++tx q),.iface 34 (iI 2)])):=by
 go_enter Tryz.func99,Tryz.ntmps99
 go_upto_region 1 with fail
 obtain⟨v0,hC,HB0,K0⟩:=bx1 w (LN q) 24
 rw[hC]
 clear hC
 refine Rm K0 HB0 (cG 0 3 [_,_,_,_] []) (Oc4 (g_ld 0 uN iN) (g_cl Zn (fun uZ=>nOf 2 uZ Z2 Z2)) (g_cl Y5 (fun uZ=>nCompare q 2 uZ hq ⟨Z2,Z2⟩)) (g_bn (fun uZ=>Za _ _ (cmpI q 2) 0 _ uZ hc))) fun u1 HB1 _ K1=>?_
 simp only[sQ] at K1⊢
 go_upto_region 2 with fail
 refine Rp K1 HB1 [] [] (cG 0 7 [_,_,_,_,_,_] [(6,2,_)]) [] [] [false] (Oc7 (g_ld 0 uN iN) (g_cl ent_limb_Text (nText q)) (g_bn (fun uZ=>add_st _ _ ⟨#[109,111,100,117,108,111,32]⟩ (tx q) uZ Z2 (Nat.le_trans (tx_sz q) Z2))) (g_mi (miE 2)) (g_bd (bdFl (⟨#[109,111,100,117,108,111,32]⟩++tx q) _ _)) (g_mi (miF (⟨#[109,111,100,117,108,111,32]⟩++tx q) _ _)) g_as) fun u2 HB2 _ K2=>?_
 simp only[sQ] at K2⊢
 go_wp2
 refine bodyPost_ret (v:= .iface 180 (.agg #[.string (⟨#[109,111,100,117,108,111,32]⟩++tx q),.iface 34 (iI 2)])) (by simp[results,Tryz.results99,go_sem,]) rfl ⟨rfl,HB2⟩
theorem modulus_f(q:Int)(w:World)(hq:In q)(hc:decide (cmpI q 2<0)=false):
 CC 99 #[NV q] w (.nilIface):=by
 go_enter Tryz.func99,Tryz.ntmps99
 go_upto_region 1 with fail
 obtain⟨v0,hC,HB0,K0⟩:=bx1 w (LN q) 24
 rw[hC]
 clear hC
 refine Rd K0 HB0 [] [] (cG 0 3 [_,_,_,_] []) [] [] [false] (Oc4 (g_ld 0 uN iN) (g_cl Zn (fun uZ=>nOf 2 uZ Z2 Z2)) (g_cl Y5 (fun uZ=>nCompare q 2 uZ hq ⟨Z2,Z2⟩)) (g_bn (fun uZ=>Za _ _ (cmpI q 2) 0 _ uZ hc))) fun u1 HB1 _ K1=>?_
 simp only[sQ] at K1⊢
 go_upto_region 3 with fail
 refine Rn K1 HB1 [(0,2,_)] (Oc1 g_as) fun u2 HB2 _ K2=>?_
 simp only[sQ] at K2⊢
 go_wp2
 refine bodyPost_ret (v:= .nilIface) (by simp[results,Tryz.results99,go_sem,]) rfl ⟨rfl,HB2⟩
theorem dModulus(q:Int)(w:World)(hq:In q): ∃b,decide (q<2)=b/\ ∃V,AE b w V/\Hid (∀u,CC 99 #[NV q] u V):=by
 by_cases h:q<2
 ·exact⟨true,decide_eq_true h,_,.inr ⟨rfl,1,.flt 0 _ _ (.leaf 0)⟩,fun u=>modulus_t q u hq (by unfold cmpI;simp;(repeat' split)<;>omega)⟩
 ·exact⟨false,decide_eq_false h,_,.inl ⟨rfl,rfl⟩,fun u=>modulus_f q u hq (by unfold cmpI;simp;(repeat' split)<;>omega)⟩
theorem counted_t(s:ByteArray)(n:Nat)(w:World)(hG:GP w)(hs:s.size<=100)(hn:n<=256)(hc:decide ((n:Int)<1)=true):
 CC 100 #[.string s,iI (n:Int)] w (.iface 180 (.agg #[.string ((s++⟨#[58,32,97,115,32,109,97,110,121,32,97,115,32]⟩)++ia n),.iface 34 (iI 2)])):=by
 have hc2:decide (256<(n:Int))=false:=by simp;omega
 go_enter Tryz.func100,Tryz.ntmps100
 have HB0:Bw w w:=Below.refl _ _
 have K0_1:=Bk.nil (w.heap.size) w
 go_upto_region 1 with fail
 refine Rn K0_1 HB0 (cG 0 5 [_,_,_,undef,undef,_] []) (Oc6 g_mv (g_bn (fun uZ=>Za _ _ (n:Int) 1 _ uZ hc)) g_mv g_sk g_sk g_pk) fun u1 HB1 _ K1=>?_
 simp only[sQ] at K1⊢
 go_upto_region 2 with fail
 refine Rn K1 HB1 (cG 0 11 [_,_,_,_,_,_,_,_] [(8,4,_)]) (Oc9 g_mv (g_bn (fun uZ=>add_st _ _ s ⟨#[58,32,97,115,32,109,97,110,121,32,97,115,32]⟩ uZ (Nat.le_trans hs Z2) Z2)) g_mv (g_cb Tk (fun uZ bZ=>cItoa n uZ Z1 Z1 (hG.below bZ))) (g_bn (fun uZ=>add_st _ _ (s++⟨#[58,32,97,115,32,109,97,110,121,32,97,115,32]⟩) (ia n) uZ (by rw[ByteArray.size_append];exact Nat.add_le_add (b:=100) (d:=400) hs Z2) (Nat.le_trans (ia_sz n Z1 Z1) Z2))) (g_mi (miE 2)) (g_bd (bdFl ((s++⟨#[58,32,97,115,32,109,97,110,121,32,97,115,32]⟩)++ia n) _ _)) (g_mi (miF ((s++⟨#[58,32,97,115,32,109,97,110,121,32,97,115,32]⟩)++ia n) _ _)) g_as) fun u2 HB2 _ K2=>?_
 simp only[sQ] at K2⊢
 go_wp2
 refine bodyPost_ret (v:= .iface 180 (.agg #[.string ((s++⟨#[58,32,97,115,32,109,97,110,121,32,97,115,32]⟩)++ia n),.iface 34 (iI 2)])) (by simp[results,Tryz.results100,go_sem,]) rfl ⟨rfl,HB2⟩
theorem counted_f(s:ByteArray)(n:Nat)(w:World)(hG:GP w)(hs:s.size<=100)(hn:n<=256)(hc:decide ((n:Int)<1)=false):
 CC 100 #[.string s,iI (n:Int)] w (.nilIface):=by
 have hc2:decide (256<(n:Int))=false:=by simp;omega
 go_enter Tryz.func100,Tryz.ntmps100
 have HB0:Bw w w:=Below.refl _ _
 have K0_1:=Bk.nil (w.heap.size) w
 go_upto_region 1 with fail
 refine Rn K0_1 HB0 (cG 0 5 [_,_,_,_,_,_] []) (Oc6 g_mv (g_bn (fun uZ=>Za _ _ (n:Int) 1 _ uZ hc)) g_mv g_mv (g_bn (fun uZ=>V8 _ _ (n:Int) 256 _ uZ hc2)) g_pk) fun u1 HB1 _ K1=>?_
 simp only[sQ] at K1⊢
 go_upto_region 3 with fail
 refine Rn K1 HB1 [(0,4,_)] (Oc1 g_as) fun u2 HB2 _ K2=>?_
 simp only[sQ] at K2⊢
 go_wp2
 refine bodyPost_ret (v:= .nilIface) (by simp[results,Tryz.results100,go_sem,]) rfl ⟨rfl,HB2⟩
theorem dCounted(s:ByteArray)(n:Nat)(w:World)(hG:GP w)(hs:s.size<=100)(hn:n<=256): ∃b,decide (n<1)=b/\ ∃V,AE b w V/\Hid (∀u,Bw w u->CC 100 #[.string s,iI (n:Int)] u V):=by
 by_cases h:n<1
 ·exact⟨true,decide_eq_true h,_,.inr ⟨rfl,1,.flt 0 _ _ (.leaf 0)⟩,fun u hB=>counted_t s n u (hG.below hB) hs hn (by simp;omega)⟩
 ·exact⟨false,decide_eq_false h,_,.inl ⟨rfl,rfl⟩,fun u hB=>counted_f s n u (hG.below hB) hs hn (by simp;omega)⟩
theorem pPolynomial_0(q:Int)(sl:Option Addr)(n cap:Nat)(y0 y1:Value)(b0 b1:Bool)(w:World)(a0:AE b0 w y0)(a1:AE b1 w y1)
 (hM:Hid (∀u,CC 99 #[NV q] u y0))(hC:Hid (∀u,Bw w u->CC 100 #[.string ⟨#[99,111,101,102,102,105,99,105,101,110,116,115]⟩,iI (n:Int)] u y1)):
 Calls Tryz.prog 75 #[NV q,.slice sl n cap] w fun e u=> ∃y,e= .returned y/\AE (b0 || b1) u y/\Bw w u:=by
 have hB0:Bw w (w.alloc (.cells (LN q:List Value).toArray 24)):=Z5 (Zf w) _
 rcases a0.or with rfl | ⟨T0,z0,rfl⟩<;>rcases a1.or with rfl | ⟨T1,z1,rfl⟩
 all_goals
  go_enter Tryz.func75,Tryz.ntmps75
  go_wp2_with (first
   | (go_at_call 99;refine(hM.out _).mono ?_;clear hM;rintro e ua ⟨rfl,hBa⟩;replace hBa:=Z7 hB0 hBa;clear hB0;replace hC:=hC.out ua hBa)
   | (go_at_call 100;refine hC.mono ?_;clear hC;rintro e ub ⟨rfl,hBb⟩;replace hBb:=Z7 hBa hBb;clear hBa)
   | (go_at_call 20;refine(cJoin2 ub.heap.size 2 _ _ b0 b1 _ (by simp) (by simp) (by simp) (a0.up (Z5 hBb _)) (a1.up (Z5 hBb _))).mono ?_;clear a0 a1;rintro e uc ⟨y2,rfl,hy2,hBc⟩;replace hBc:=Z7 (Z5 hBb _) hBc))
  exact bodyPost_ret (v:=y2) (by rcases hy2.or with rfl | ⟨T,z,rfl⟩<;>simp[results,Tryz.results75,go_sem]) rfl ⟨y2,rfl,hy2,hBc⟩
theorem pPolynomial(q:Int)(sl:Option Addr)(n cap:Nat)(w:World)(hG:GP w)(hq:In q)(hn:n<=256):
 Calls Tryz.prog 75 #[NV q,.slice sl n cap] w fun e u=> ∃y,e= .returned y/\AE (decide (q<2) || decide (n<1)) u y/\Bw w u:=by
 obtain⟨b0,h0,V0,a0,hM⟩:=dModulus q w hq
 obtain⟨b1,h1,V1,a1,hC⟩:=dCounted ⟨#[99,111,101,102,102,105,99,105,101,110,116,115]⟩ n w hG Z2 hn
 rw[h0,h1]
 exact pPolynomial_0 q sl n cap V0 V1 b0 b1 w a0 a1 hM hC
end
def IL(u:World)(v:Value)(xs:List Int):Prop:= ∃sl gb go cap,v= .slice sl xs.length cap/\xs.length<=cap/\(sl=none->cap=0)/\(xs=[]\/sl=some ⟨gb,go,none⟩)/\(xs.length=0\/gb<u.heap.size)/\ ∀j,j<xs.length->u.cell? ⟨gb,go+j,none⟩=some (iI (xs.getD j 0))
theorem IL.up{w u:World}{v:Value}{xs:List Int}(h:IL w v xs)(hB:Bw w u):IL u v xs:=by
 obtain⟨sl,gb,go,cap,h1,h2,h3,h4,h5,h6⟩:=h
 refine⟨sl,gb,go,cap,h1,h2,h3,h4,h5.imp id fun e=>Nat.lt_of_lt_of_le e hB.size,fun j hj=>?_⟩
 exact(hB.cell (p:=⟨gb,go+j,none⟩) (h5.resolve_left Z1)).trans (h6 j hj)
theorem IL.stab{xs:List Int}{u u2:World}{x:Value}(hB:Bw u u2)(h:IL u x xs):IL u2 x xs:=h.up hB
section
theorem neq_no(p:Operand)(c:Value)(w:World):(do eqGuard .neq 49 p (.const c) .nilIface .nilIface;binOp .neq 49 .nilIface .nilIface:Sem Value).run Tryz.prog w= .ok (.bool false) w:=by go_simp
theorem cviP{o:Oper}{ev:Operand->Value}{x:Operand}{n:Int}(u:World)(h0:0<=n)(h1:n<=9223372036854775807)(ho:o.op= .convert 3 22 x)(hx:ev x=iI n):(execOp ev o).run Tryz.prog u= .ok (.value (iU n)) u:=by
 have e1:IntKind.u64.wrap n=n:=by simp[IntKind.wrap,IntKind.signed,IntKind.bits];omega
 unfold execOp;rw[ho];simp only[hx];go_simp
def PE0(u:World)(v:Value):Prop:= ∃b,v= .slice (some ⟨b,0,none⟩) 2 2/\b<u.heap.size/\u.cell? ⟨b,0,none⟩=some .nilIface/\u.cell? ⟨b,1,none⟩=some .nilIface
theorem PE0.stab{u u2:World}{x:Value}(hB:Bw u u2)(h:PE0 u x):PE0 u2 x:=by
 obtain⟨b,e,h1,h2,h3⟩:=h
 exact⟨b,e,Nat.lt_of_lt_of_le h1 hB.size,(hB.cell (p:=⟨b,0,none⟩) h1).trans h2,(hB.cell (p:=⟨b,1,none⟩) h1).trans h3⟩
theorem bsE00(w:World):(Instr.buildSlice 93 2 ([0,1].zip [.nilIface,.nilIface]).toArray).run Tryz.prog w= .ok (.slice (some ⟨w.heap.size,0,none⟩) 2 2) (w.alloc (.cells [Value.nilIface,.nilIface].toArray 49)):=by kernel_rfl
theorem PE0.new(u:World):PE0 (u.alloc (.cells [Value.nilIface,.nilIface].toArray 49)) (.slice (some ⟨u.heap.size,0,none⟩) 2 2):=⟨_,rfl,by simp,by simp,by simp⟩
theorem cJoin0(y:Value)(w:World)(h:PE0 w y):CC 20 #[y] w .nilIface:=by
 obtain⟨b,rfl,h1,h2,h3⟩:=h
 refine(cJoin2 b 2 .nilIface .nilIface false false w h1 h2 h3 (.inl ⟨rfl,rfl⟩) (.inl ⟨rfl,rfl⟩)).mono ?_
 rintro e u ⟨y,rfl,hy,hB⟩
 obtain rfl:=hy.no
 exact⟨rfl,hB⟩
def PRy(lo n:Nat)(u:World)(v:Value):Prop:= ∃b,v= .slice (some ⟨b,0,none⟩) n n/\lo<=b/\b<u.heap.size/\CV u b (flN (List.replicate (2*n) 0))
theorem PRy.stab{lo n:Nat}{u u2:World}{x:Value}(hB:Bw u u2)(h:PRy lo n u x):PRy lo n u2 x:=by
 obtain⟨b,e,h1,h2,h3⟩:=h
 exact⟨b,e,h1,Nat.lt_of_lt_of_le h2 hB.size,h3.below hB h2⟩
theorem PRy.new{lo n:Nat}{T:TypeId}(u:World)(h:lo<=u.heap.size):PRy lo n (u.alloc (.cells (flN (List.replicate (2*n) 0)).toArray T)) (.slice (some ⟨u.heap.size,0,none⟩) n n):=
 ⟨_,rfl,h,by simp,CV.new u _ _⟩
section
variable {R:Rg} {P:Program} {Q:Exit->Act->World->Prop} {ops:Array Oper} {i:Nat} {o:Oper}
theorem V9(gb c:Nat){T:TypeId}{x:Operand}{v:Value}(hr: ∀w,w.cell? ⟨gb,c,none⟩=some v->(Instr.loadAt T (.pointer (some ⟨gb,c,none⟩))).run P w= .ok v w)(hc0:R.w.cell? ⟨gb,c,none⟩=some v)(hb:gb<R.lo)(hop:o.op= .load T x:=by rfl)(hx:evR R i o x=some (.pointer (some ⟨gb,c,none⟩)):=by rfl)(hv:some v=Y3 i R.G:=by rfl)(hc:R.chk ops i o=true:=by rfl):OG R P ops Q i o:=
 Ya hv hc fun f t u a X K hK=>wp_load hop (X.ev hx) (hr u ((X.I.1.bel.cell (p:=⟨gb,c,none⟩) hb).trans hc0)) hK
end
theorem Xo:EnT 75:=fun _ _=>by kernel_rfl
theorem ent_errors_Join:EnT 20:=fun _ _=>by kernel_rfl
theorem mAddZ(x q:Int)(w:World)(hx:In x)(hq:In q)(hq0:q≠0):CC 77 #[NV x,A4 0 0 0 0,NV q] w (.tuple #[NV ((x+0)%q),iI 0]):=by
 have:=mAdd x 0 q w hx In_0 hq hq0
 rwa [NV_0] at this
theorem add_ok(q:Int)(sa sb:Option Addr)(ga oa ca gb ob cb:Nat)(aa bs cs:List Int)(w:World)(hq:In q)(hq0:q≠0)(hns:aa.length<=1000)(hsw:decide ((aa.length:Int)<(bs.length:Int))=false)(hP:Hid (∀u,Bw w u->CC 75 #[NV q,.slice sa aa.length ca] u (.nilIface)))(hP2:Hid (∀u,Bw w u->CC 75 #[NV q,.slice sb bs.length cb] u (.nilIface)))(hixa:Hid (∀j,j<aa.length-> ∀W,(Instr.indexAt 31 (.slice sa aa.length ca) (iI j)).run Tryz.prog W= .ok (.pointer (some ⟨ga,oa+4*j,none⟩)) W))(hga:aa.length=0\/ga<w.heap.size)(hSa:Hid (SN w ga oa aa))(hna:Hid (∀k,k<aa.length->In (aa.getD k 0)))(hixb:Hid (∀j,j<bs.length-> ∀W,(Instr.indexAt 31 (.slice sb bs.length cb) (iI j)).run Tryz.prog W= .ok (.pointer (some ⟨gb,ob+4*j,none⟩)) W))(hgb:bs.length=0\/gb<w.heap.size)(hSb:Hid (SN w gb ob bs))(hnb:Hid (∀k,k<bs.length->In (bs.getD k 0)))(hbl:bs.length<=aa.length)(hcl:Hid (cs.length=aa.length))(hcs:Hid (∀k,k<aa.length->cs.getD k 0=(aa.getD k 0+bs.getD k 0)%q)):
 Calls Tryz.prog 52 #[NV q,.slice sa aa.length ca,.slice sb bs.length cb] w fun e' w'=> ∃y,e'= .returned (.tuple #[y,iI 0])/\PRw w.heap.size cs w' y/\Bw w w':=by
 go_enter Tryz.func52,Tryz.ntmps52
 go_upto_region 1 with fail
 obtain⟨v0,hC,HB0,K0⟩:=bx1 w (LN q) 24
 rw[hC]
 clear hC
 refine Re K0 HB0 [] [] (cG 0 12 [_,_,_,_,_,_] [(7,19,_),(8,8,_)]) [] [] [⟨6,18,some 7,PE0⟩] [] (Oc9 (g_ld 0 uN iN) g_mv (g_cb Xo hP.out) (g_ld 0 uN iN) g_mv (g_cb Xo hP2.out) (g_bR 0 PE0 [0,1] [.nilIface,.nilIface] [.nilIface,.nilIface] bsE00 (fun u hu=>PE0.new u)) (g_c1 0 PE0 ent_errors_Join (fun uZ yZ _ hZ=>cJoin0 yZ uZ hZ)) g_as) fun u1 v1_6 hv1_6 HB1 _ K1=>?_
 simp only[sQ] at K1⊢
 go_upto_region 2 with fail
 refine Rn K1 HB1 [(0,20,_),(1,21,_)] (Oc2 g_mv (g_bn (neq_no _ _))) fun u2 HB2 _ K2=>?_
 simp only[sQ] at K2⊢
 go_upto_region 4 with fail
 refine Rn K2 HB2 (cG 0 24 [_,_,_,_,_] []) (Oc5 g_mv (g_ln Tryz.underlying31) g_mv (g_ln Tryz.underlying31) (g_bn (fun uZ=>Za _ _ (aa.length:Int) (bs.length:Int) _ uZ hsw))) fun u3 HB3 _ K3=>?_
 simp only[sQ] at K3⊢
 have hvv:w.heap.size<=u3.heap.size:=HB3.size
 go_upto_region 6 with fail
 refine Rf K3 HB3 [] [] [(0,31,_),(1,32,_)] [] [] [⟨2,33,some 3,PRz u3.heap.size aa.length⟩,⟨3,9,none,PRz u3.heap.size aa.length⟩] [] (Oc4 g_mv (g_ln Tryz.underlying31) (g_mS 0 (PRz u3.heap.size aa.length) aa.length (flN (List.replicate aa.length 0)) (mkNt _ hns) (fun u h=>PRz.new u h)) (g_sE 0 1 (PRz u3.heap.size aa.length))) fun u4 v4_2 hv4_2 v4_3 hv4_3 HB4 _ K4=>?_
 simp only[sQ] at K4⊢
 obtain⟨bo,rfl,o1,o2,o3⟩:=hv4_3 rfl
 have K4xo:=Bk.more3 K3 K4 o1 o2 o3 (by intro x hx;first | (simp at hx;done) | (simp at hx⊢;omega))
 simp only[aK] at K4xo
 have hbo:w.heap.size<=bo:=Nat.le_trans hvv o1
 go_upto_region 7 with fail
 refine Rn K4xo HB4 (cG 0 34 [_,_,_] []) (Oc3 g_mv (g_ln Tryz.underlying31) g_mv) fun u5 HB5 _ K5=>?_
 simp only[sQ] at K5⊢
 go_wp2_with fail
 go_loopw [36] (fun s36 wr=> ∃(k:Nat),k<=aa.length/\s36=iI (k:Int)/\Bw w wr/\CV wr (w.heap.size) (LN q)/\w.heap.size<wr.heap.size/\CV wr bo (flN (rowN cs k))/\bo<wr.heap.size) (fun s36 _=>aa.length -(intOf s36).toNat)
 case atStart=>exact⟨0,Z1,rfl,HB5,(K5.cv 0),(K5.lt 0),by rw[rowN_0,hcl.out];exact(K5.cv 1),(K5.lt 1)⟩
 case round=>
  obtain⟨k,hk,rfl,HBr,C0,lC0,C1,lC1⟩:=hrel
  have hnK:=K5.n
  simp at hnK
  by_cases hj:k<aa.length
  ·have hl:decide ((k:Int)<(aa.length:Int))=true:=by simp;omega
   have hjp:k<cs.length:=by rw[hcl.out];exact hj
   have hX:=hixa.out _ hj
   have hX:Hid _:=hX
   have hR:=hSa.out.at _ hj
   have hR:Hid _:=hR
   have ix:=hna.out k hj
   have hv:=hcs.out k hj
   have hXL:=rowN_len (vs:=cs) (k:=k) Z1
   have hNx:=V3 (vs:=cs) (k:=k) Z1
   rw[W5 (vs:=cs) (k:=k) Z1] at C1
   obtain⟨X,eX⟩:=Z3 (flN (List.take k cs))
   obtain⟨Z,eZ⟩:=Z3 (flN (List.replicate (List.length cs -(k+1)) 0))
   rw[eX] at hXL hNx C1
   rw[eZ] at hNx C1
   clear eX eZ
   rw[hv] at hNx
   clear hv hjp
   have hXL:Hid _:=hXL
   have hNx:Hid _:=hNx
   obtain⟨x,ex⟩:=Z3 (aa.getD k 0)
   rw[ex] at hR ix hNx
   clear ex
   by_cases hb:k<bs.length
   ·have hlb:decide ((k:Int)<(bs.length:Int))=true:=by simp;omega
    have hXb:=hixb.out _ hb
    have hXb:Hid _:=hXb
    have hRb:=hSb.out.at _ hb
    have hRb:Hid _:=hRb
    have iy:=hnb.out k hb
    have hgb2:=hgb.resolve_left Z1
    obtain⟨y,ey⟩:=Z3 (bs.getD k 0)
    rw[ey] at hRb iy hNx
    clear ey
    have K5_1:Bk w.heap.size wr [(false,w.heap.size,LN q),(true,bo,X++LN 0++Z)]:=⟨.c lC0 C0<| .o lC1 Z1 C1<|trivial,by simp<;>omega⟩
    go_upto_region 8 with fail
    refine Rn K5_1 HBr [(0,37,_)] (Oc1 (g_bn (fun uZ=>Za _ _ (k:Int) (aa.length:Int) _ uZ hl))) fun u6 HB6 sz6 K6=>?_
    simp only[sQ] at K6⊢
    go_upto_region 9 with fail
    refine Rn K6 HB6 [(0,38,_),(1,10,_)] (Oc2 g_mv g_as) fun u7 HB7 sz7 K7=>?_
    simp only[sQ] at K7⊢
    go_upto_region 10 with fail
    refine Rp K7 HB7 [] [(1,11,L0s,some (2,[iU (0),iU (0),iU (0),iU (0)]))] [(0,39,_)] [(2,1)] [] [] (Oc3 (g_bd zN) (g_al 0 aN) (g_sn 0 iN)) fun u8 b8_1 HB8 sz8 K8=>?_
    simp only[sQ] at K8⊢
    go_upto_region 11 with fail
    refine Rn K8 HB8 (cG 0 40 [_,_,_,_] []) (Oc4 g_mv g_mv (g_ln Tryz.underlying31) (g_bn (fun uZ=>Za _ _ (k:Int) (bs.length:Int) _ uZ hlb))) fun u9 HB9 sz9 K9=>?_
    simp only[sQ] at K9⊢
    go_upto_region 12 with fail
    refine Rp K9 HB9 [.no,.no,.all 4 (LN y)] [] (cG 0 44 [_,_,_,_] []) [] [] [] (Oc5 g_mv g_mv (g_ix hXb.out) (g_lf hRb.out hgb2 uN iN) (g_st 2 iN)) fun u10 HB10 sz10 K10=>?_
    simp only[sQ] at K10⊢
    go_upto_region 13 with fail
    refine Rd K10 HB10 [.no,.all 13 (X++LN ((x+y)%q)++Z)] [] (cG 0 49 [_,_,_,_,_,_,_,_,_] [(9,48,_),(10,58,_),(11,59,_),(12,60,_)]) [] [] [true,true,false] (Od8 g_mv g_mv g_mv g_mv (g_ix hX.out) (g_lf hR.out (hga.resolve_left Z1) uN iN) (g_ld 2 uN iN) (g_ld 0 uN iN)<|Oc6 (g_cl ent_mod_Add (fun uZ=>mAdd x y q uZ ix iy hq hq0)) g_mv g_ex g_ex (g_ix (ixZ _ _ _ k hj)) (g_sm 1 (4*k) X (LN 0) Z (post:=LN ((x+y)%q)) (hxc:=hXL.out) iN)) fun u11 HB11 sz11 K11=>?_
    simp only[sQ] at K11⊢
    go_upto_region 14 with fail
    refine Rp K11 HB11 [] [] [(0,61,_),(1,36,_)] [(1,0)] [(1,36)] [] (Oc2 (g_bn (fun uZ=>Zu _ _ (k:Int) 1 ((k+1:Nat):Int) uZ Z1 Z1 Z1)) g_mv) fun u12 HB12 _ K12=>?_
    simp only[sQ] at K12⊢
    go_wp2
    refine⟨⟨k+1,Z1,rfl,HB12,(K12.cv 0),(K12.lt 0),by rw[hNx.out];exact(K12.cv 1),(K12.lt 1)⟩,?_⟩
    simp[intOf]<;>omega
   ·have hlb:decide ((k:Int)<(bs.length:Int))=false:=by simp;omega
    have e0:bs.getD k 0=0:=by simp[List.getElem?_eq_none (show bs.length<=k by omega)]
    rw[e0] at hNx
    clear e0
    have K5_1:Bk w.heap.size wr [(false,w.heap.size,LN q),(true,bo,X++LN 0++Z)]:=⟨.c lC0 C0<| .o lC1 Z1 C1<|trivial,by simp<;>omega⟩
    go_upto_region 8 with fail
    refine Rn K5_1 HBr [(0,37,_)] (Oc1 (g_bn (fun uZ=>Za _ _ (k:Int) (aa.length:Int) _ uZ hl))) fun u6 HB6 sz6 K6=>?_
    simp only[sQ] at K6⊢
    go_upto_region 9 with fail
    refine Rn K6 HB6 [(0,38,_),(1,10,_)] (Oc2 g_mv g_as) fun u7 HB7 sz7 K7=>?_
    simp only[sQ] at K7⊢
    go_upto_region 10 with fail
    refine Rp K7 HB7 [] [(1,11,L0s,some (2,[iU (0),iU (0),iU (0),iU (0)]))] [(0,39,_)] [(2,1)] [] [] (Oc3 (g_bd zN) (g_al 0 aN) (g_sn 0 iN)) fun u8 b8_1 HB8 sz8 K8=>?_
    simp only[sQ] at K8⊢
    go_upto_region 11 with fail
    refine Rn K8 HB8 (cG 0 40 [_,_,_,_] []) (Oc4 g_mv g_mv (g_ln Tryz.underlying31) (g_bn (fun uZ=>Za _ _ (k:Int) (bs.length:Int) _ uZ hlb))) fun u9 HB9 sz9 K9=>?_
    simp only[sQ] at K9⊢
    go_upto_region 13 with fail
    refine Rd K9 HB9 [.no,.all 13 (X++LN ((x+0)%q)++Z)] [] (cG 0 49 [_,_,_,_,_,_,_,_,_] [(9,48,_),(10,58,_),(11,59,_),(12,60,_)]) [] [] [true,true,false] (Od8 g_mv g_mv g_mv g_mv (g_ix hX.out) (g_lf hR.out (hga.resolve_left Z1) uN iN) (g_ld 2 uN iN) (g_ld 0 uN iN)<|Oc6 (g_cl ent_mod_Add (fun uZ=>mAddZ x q uZ ix hq hq0)) g_mv g_ex g_ex (g_ix (ixZ _ _ _ k hj)) (g_sm 1 (4*k) X (LN 0) Z (post:=LN ((x+0)%q)) (hxc:=hXL.out) iN)) fun u10 HB10 sz10 K10=>?_
    simp only[sQ] at K10⊢
    go_upto_region 14 with fail
    refine Rp K10 HB10 [] [] [(0,61,_),(1,36,_)] [(1,0)] [(1,36)] [] (Oc2 (g_bn (fun uZ=>Zu _ _ (k:Int) 1 ((k+1:Nat):Int) uZ Z1 Z1 Z1)) g_mv) fun u11 HB11 sz11 K11=>?_
    simp only[sQ] at K11⊢
    go_wp2
    refine⟨⟨k+1,Z1,rfl,HB11,(K11.cv 0),(K11.lt 0),by rw[hNx.out];exact(K11.cv 1),(K11.lt 1)⟩,?_⟩
    simp[intOf]<;>omega
  ·have hl:decide ((k:Int)<(aa.length:Int))=false:=by simp;omega
   have hkn:k=cs.length:=by rw[hcl.out];omega
   rw[hkn,rowN_end] at C1
   clear hkn
   have K5_1:Bk w.heap.size wr [(false,w.heap.size,LN q),(true,bo,flN cs)]:=⟨.c lC0 C0<| .o lC1 Z1 C1<|trivial,by simp<;>omega⟩
   go_upto_region 8 with fail
   refine Rn K5_1 HBr [(0,37,_)] (Oc1 (g_bn (fun uZ=>Za _ _ (k:Int) (aa.length:Int) _ uZ hl))) fun u6 HB6 sz6 K6=>?_
   simp only[sQ] at K6⊢
   go_upto_region 15 with fail
   refine Rn K6 HB6 [(0,62,_),(1,6,_),(2,7,_)] (Oc3 g_mv g_as g_as) fun u7 HB7 sz7 K7=>?_
   simp only[sQ] at K7⊢
   go_wp2
   exact bodyPost_ret (v:= .tuple #[.slice (some ⟨bo,0,none⟩) aa.length aa.length,iI 0]) (by simp[results,Tryz.results52,go_sem]) rfl ⟨_,rfl,⟨bo,by rw[hcl.out],hbo,(K7.lt 1),(K7.cv 1)⟩,HB7⟩
end
theorem CV.oset{u:World}{c:Nat}{l:List Value}(h:CV u c l)(a:Addr)(v:Value)(hne:c≠a.block):CV (u.setCell a v) c l:=h.blk (Below.heap_setCell u a v c hne)
def tab(n:Nat)(f:Nat->Int):List Int:=(List.range n).map f
theorem Wy(n:Nat)(f:Nat->Int):(tab n f).length=n:=by simp[tab]
theorem W0{n:Nat}{f:Nat->Int}{i:Nat}(h:i<n):(tab n f).getD i 0=f i:=by simp[tab,List.getElem?_map,List.getElem?_range h]
def fac(q t:Int)(ns vs:List Int):List Int:=tab ns.length fun i=>(vs.getD i 0*ahN q t ns i%q)*bhN q t ns (ns.length -1 -i)%q
theorem fac_len(q t:Int)(ns vs:List Int):(fac q t ns vs).length=ns.length:=Wy _ _
theorem fac_get{q t:Int}{ns vs:List Int}{i:Nat}(h:i<ns.length):(fac q t ns vs).getD i 0=(vs.getD i 0*ahN q t ns i%q)*bhN q t ns (ns.length -1 -i)%q:=W0 h
theorem Yb{ns:List Int}(h: ∀z∈ns,In z): ∀k,k<ns.length->In (ns.getD k 0):=fun k hk=>h _ (by simp[List.getElem?_eq_getElem hk])
theorem NL.ix{u:World}{sl:Option Addr}{gb go cap:Nat}{ns:List Int}(h:ns=[]\/sl=some ⟨gb,go,none⟩): ∀j,j<ns.length-> ∀W,(Instr.indexAt 31 (.slice sl ns.length cap) (iI j)).run Tryz.prog W= .ok (.pointer (some ⟨gb,go+4*j,none⟩)) W:=fun j hj W=>by
 obtain rfl:=h.resolve_left (fun e=>by subst e;simp at hj)
 exact ixS gb go ns.length cap j hj W
theorem cPolyn{q:Int}{sl:Option Addr}{n cap:Nat}{w:World}(hG:GP w)(hq:In q)(hq2:2<=q)(hn:n<=256)(h1:1<=n): ∀u,Bw w u->CC 75 #[NV q,.slice sl n cap] u .nilIface:=fun u hB=>by
 refine(pPolynomial q sl n cap u (hG.below hB) hq hn).mono ?_
 rintro e u' ⟨y,rfl,hy,hB'⟩
 rw[decide_eq_false (show ¬q<2 by omega),decide_eq_false (show ¬n<1 by omega)] at hy
 obtain rfl:=hy.no
 exact⟨rfl,hB'⟩
end
section
open Go.ChangeShapes Go.WideShapes Go.ChangeAt Go.RowKit
theorem Tryz.cells24:Tryz.prog.cellsOf 24=4:=by kernel_rfl
theorem Tryz.cells22:Tryz.prog.cellsOf 22=1:=by kernel_rfl
theorem Zw{x:Int}(h:(Lit.int .u64 x).wf=true):W64 x:=by
 simp[Lit.wf,IntKind.min,IntKind.max,IntKind.signed,IntKind.bits] at h
 exact⟨Z1,Z1⟩
section
section
variable {H:Type} {enc:TypeId×Value->H} {P:Program} {w:World} {base:Nat} {spare:Nat->Bool} {held:Bool}
end
end
theorem own4:ownKnob Tryz.prog.godebug=none:=by kernel_rfl
theorem laid4:laidOutB Tryz.prog=true:=by kernel_rfl
abbrev lstP:List (String×DataW Unit):=[("math/bits.deBruijn32tab",Rows.laid_math_bits_deBruijn32tab),("math/bits.deBruijn64tab",Rows.laid_math_bits_deBruijn64tab),("internal/strconv.uint64pow10",Rows.laid_internal_strconv_uint64pow10),("errors.errorType",Rows.laid_errors_errorType)]
theorem gEt:Tryz.prog.globalNamed "errors.errorType" =some 0:=by kernel_rfl
theorem rtW:(Tryz.prog.cutTypes.find? (·.1== "internal/reflectlite.rtype")).map (·.2)=some 139:=by kernel_rfl
theorem szW:Tryz.prog.types.size=273:=by kernel_rfl
theorem oneW:((List.range 273).filter fun t=>Tryz.prog.rowNamed t [101,114,114,111,114])=[49]:=by kernel_rfl
theorem tPow:(Tryz.prog.globals[1]?).map (·.type)=some 195:=by kernel_rfl
theorem powIs:(Rows.laid_internal_strconv_uint64pow10:DataW Unit)=Lib.tabData .u64 Lib.pow10Tab:=by kernel_rfl
theorem of_laidP{W:World}(h:laidMetH Tryz.prog lstP W):GP W:=by
 have h':laidMet Tryz.prog [("math/bits.deBruijn32tab",Rows.laid_math_bits_deBruijn32tab),("math/bits.deBruijn64tab",Rows.laid_math_bits_deBruijn64tab),("internal/strconv.uint64pow10",Rows.laid_internal_strconv_uint64pow10)] W/\handlesMet Tryz.prog [("errors.errorType",Rows.laid_errors_errorType)] W:=h
 obtain⟨hd,hh⟩:=h'
 obtain⟨ps,⟨g0,t0,cs0,f0,p0,q0,hg0,ht0,hv0,hd0,⟨g1,t1,cs1,f1,p1,q1,hg1,ht1,hv1,hd1,⟨g2,t2,cs2,f2,p2,q2,hg2,ht2,hv2,hd2,_,_⟩,_⟩,_⟩,_,_⟩:=hd
 obtain rfl:=Option.some.inj (gPow.symm.trans hg2)
 obtain rfl:=Option.some.inj (tPow.symm.trans ht2)
 rw[powIs] at hd2
 have htab:Lib.TabIs Tryz.prog W "internal/strconv.uint64pow10" .u64 Lib.pow10Tab:=by
  unfold Lib.TabIs
  rw[hv2,<-Lib.cells_of_tab Tryz.underlying195 Tryz.underlying22 (by kernel_rfl) (by kernel_rfl) hd2]
 obtain⟨name,u,ty,e1,e2,e3,e4,e5⟩:=hh _ (List.mem_singleton.2 rfl)
 have en:name=[101,114,114,111,114]:=(Option.some.inj e1).symm
 subst en
 obtain rfl:=Option.some.inj (rtW.symm.trans e2)
 have hm:ty∈(List.range 273).filter fun t=>Tryz.prog.rowNamed t [101,114,114,111,114]:=List.mem_filter.2 ⟨List.mem_range.2 (by rw[<-szW];exact e3),e4⟩
 rw[oneW] at hm
 obtain rfl:=List.mem_singleton.1 hm
 have hth:typeHandle Tryz.prog 49= .pointer (some ⟨6,49,none⟩):=by kernel_rfl
 rw[hth] at e5
 have hc:W.cell? ⟨0,0,none⟩=some (.iface 139 (.agg #[.pointer (some ⟨6,49,none⟩)])):=by simpa using World.var?_cell gEt e5 0
 have hc2:=htab.cell gPow 0 (by rw[Lib.pow10Tab_length];omega)
 exact⟨World.block_lt_of_cell? W _ hc2,htab,hc⟩
theorem doorP(os:Go.Os)(args:Array Value):laidMetH Tryz.prog lstP ((World.doorLaid Tryz.prog 400 os).forCall (fun _ _=>0) ⟨#[],args,[]⟩).memory:=
 laidMetH_of_parts3 (fuel:=8) (laidMet_of_run' 8 (by kernel_rfl) (by kernel_rfl)) (by kernel_rfl) (by kernel_rfl)
theorem list_ofP{p:Nat->Int->Prop}: ∀n,(∀i,i<n-> ∃z,p i z)-> ∃ns:List Int,ns.length=n/\ ∀i,i<n->p i (ns.getD i 0)
 | 0,_=>⟨[],rfl,fun i hi=>Z1⟩
 | n+1,h=>by
  obtain⟨ns,hl,hp⟩:=list_ofP n (fun i hi=>h i Z1)
  obtain⟨z,hz⟩:=h n Z1
  refine⟨ns++[z],by simp[hl],fun i hi=>?_⟩
  by_cases e:i=n
  ·subst e
   have:(ns++[z]).getD i 0=z:=by rw[<-hl];simp
   rw[this];exact hz
  ·have:(ns++[z]).getD i 0=ns.getD i 0:=by simp[List.getElem?_append_left (show i<ns.length by omega)]
   rw[this];exact hp i Z1
theorem flN_atg: ∀(ns:List Int) (j:Nat) (v:Value),(flN ns)[j]?=some v->j/4<ns.length/\(LN (ns.getD (j/4) 0))[j%4]?=some v
 | [],j,v,h=>by simp[flN] at h
 | n::r,j,v,h=>by
  rw[flN] at h
  by_cases hj:j<4
  ·rw[List.getElem?_append_left (by show j<4;exact hj)] at h
   rw[show j/4=0 by omega,show j%4=j by omega]
   exact⟨by simp,by simpa using h⟩
  ·rw[List.getElem?_append_right (by show 4<=j;omega)] at h
   have h:(flN r)[j -4]?=some v:=h
   have:=flN_atg r (j -4) v h
   rw[show j/4=(j -4)/4+1 by omega,show j%4=(j -4)%4 by omega]
   exact⟨by simpa using this.1,by simpa using this.2⟩
theorem SN.of{w:World}{g o:Nat}{ns:List Int}(h: ∀i,i<ns.length-> ∀c v,(LN (ns.getD i 0))[c]?=some v->w.cell? ⟨g,o+(i*4+c),none⟩=some v):SN w g o ns:=fun j v hj=>by
 obtain⟨h1,h2⟩:=flN_atg ns j v hj
 have:=h _ h1 _ v h2
 rwa [show j/4*4+j%4=j by omega] at this
theorem row_nat{H:Type}{enc:TypeId×Value->H}{W:World}{bs fuel base:Nat}{sp:Nat->Bool}{held:Bool}{a:Addr}{cs:List Value}{x:DataW H×List MemPlace}(h1:W.cells? base a 4=some cs)(h:DataW.trod enc Tryz.prog W bs sp held fuel 24 cs=some x):
 ∃z,In z/\ ∀c v,(LN z)[c]?=some v->W.cell? (a.add c)=some v:=by
 obtain⟨_,hl,hc⟩:=World.cells?_some h1
 match cs,hl,hc,h with
 | [c0,c1,c2,c3],hl,hc,h=>
  obtain⟨y0,y1,y2,y3,m,hx,hy0,hy1,hy2,hy3⟩:=trod_array4 Tryz.underlying24 Tryz.cells22 h
  obtain⟨x0,e0,rfl,w0⟩:=DataW.trod_int Tryz.underlying22 hy0
  obtain⟨x1,e1,rfl,w1⟩:=DataW.trod_int Tryz.underlying22 hy1
  obtain⟨x2,e2,rfl,w2⟩:=DataW.trod_int Tryz.underlying22 hy2
  obtain⟨x3,e3,rfl,w3⟩:=DataW.trod_int Tryz.underlying22 hy3
  simp at e0 e1 e2 e3
  subst e0 e1 e2 e3
  refine⟨V x0 x1 x2 x3,In_V (Zw w0) (Zw w1) (Zw w2) (Zw w3),fun c v hv=>?_⟩
  have hL:LN (V x0 x1 x2 x3)=[iU x0,iU x1,iU x2,iU x3]:=by
   have:=NV_V (Zw w0) (Zw w1) (Zw w2) (Zw w3)
   unfold NV A4 at this
   injection this with this
   have:=congrArg Array.toList this
   simpa using this
  rw[hL] at hv
  have hlt:c<4:=by have:=(List.getElem?_eq_some_iff.1 hv).1;simpa using this
  rw[hc c hlt];exact hv
theorem cellsI:Tryz.prog.cellsOf 3=1:=by kernel_rfl
end
section
open Go.RowKit Go.Extern.Stop Go.Stop Go.Extern Go.Extern.Rtype
inductive EJ (w:World):Nat->Value->List Int->Prop
 | leaf (d:Nat) (n:Int):EJ w d (.iface 34 (iI n)) [n]
 | flt (d:Nat) (s:ByteArray) (k:Value) (es:List Int):EJ w d k es->EJ w (d+1) (.iface 80 (.agg #[.string s,k])) es
 | join (d b g o n c:Nat) (xs:Nat->Value) (ess:Nat->List Int):n<=1000000->0<n->w.cell? ⟨b,0,none⟩=some (.slice (some ⟨g,o,none⟩) n c)->b<w.heap.size->g<w.heap.size->(∀i,i<n->w.cell? ⟨g,o+i,none⟩=some (xs i))->(∀i,i<n->EJ w d (xs i) (ess i))->EJ w (d+1) (.iface 94 (.pointer (some ⟨b,0,none⟩))) ((List.range n).map ess).flatten
theorem EJ.up{w u:World}(hB:Bw w u){d:Nat}{v:Value}{es:List Int}(h:EJ w d v es):EJ u d v es:=by
 induction h with
 | leaf d n=>exact .leaf d n
 | flt d s k es _ ih=>exact .flt d s k es ih
 | join d b g o n c xs ess h0 hz h1 h2 h3 h4 _ ih=>exact .join d b g o n c xs ess h0 hz ((hB.cell (p:=⟨b,0,none⟩) h2).trans h1) (Nat.lt_of_lt_of_le h2 hB.size) (Nat.lt_of_lt_of_le h3 hB.size) (fun i hi=>(hB.cell (p:=⟨g,o+i,none⟩) h3).trans (h4 i hi)) ih
theorem EJ.mono{w:World}{d:Nat}{v:Value}{es:List Int}(h:EJ w d v es): ∀d',d<=d'->EJ w d' v es:=by
 induction h with
 | leaf d n=>exact fun d' _=>.leaf d' n
 | flt d s k es _ ih=>
  intro d' hd
  obtain⟨e,rfl⟩: ∃e,d'=e+1:=⟨d' -1,Z1⟩
  exact .flt e s k es (ih e Z1)
 | join d b g o n c xs ess h0 hz h1 h2 h3 h4 _ ih=>
  intro d' hd
  obtain⟨e,rfl⟩: ∃e,d'=e+1:=⟨d' -1,Z1⟩
  exact .join e b g o n c xs ess h0 hz h1 h2 h3 h4 (fun i hi=>ih i hi e Z1)
theorem EJ.ne{w:World}{d:Nat}{v:Value}{es:List Int}(h:EJ w d v es):es≠[]:=by
 induction h with
 | leaf d n=>exact List.cons_ne_nil _ _
 | flt d s k es _ ih=>exact ih
 | join d b g o n c xs ess h0 hz h1 h2 h3 h4 _ ih=>
  intro e
  have:=List.flatten_eq_nil_iff.1 e (ess 0) (List.mem_map.2 ⟨0,List.mem_range.2 hz,rfl⟩)
  exact ih 0 hz this
theorem EJ.some{w:World}{d:Nat}{v:Value}{es:List Int}(h:EJ w d v es): ∃T x,v= .iface T x:=by
 cases h with
 | leaf d n=>exact⟨_,_,rfl⟩
 | flt d s k es _=>exact⟨_,_,rfl⟩
 | join=>exact⟨_,_,rfl⟩
theorem cUnFJ(s:ByteArray)(k:Value)(w:World)(hk:k= .nilIface\/ ∃T x,k= .iface T x):CC 194 #[.agg #[.string s,k]] w k:=by
 rcases hk with rfl | ⟨T,x,rfl⟩
 ·go_enter Tryz.func194,Tryz.ntmps194
  go_wp2
  exact bodyPost_ret (v:= .nilIface) (by simp[results,Tryz.results194,go_sem]) rfl ⟨rfl,Z5 (Zf w) _⟩
 ·go_enter Tryz.func194,Tryz.ntmps194
  go_wp2
  exact bodyPost_ret (v:= .iface T x) (by simp[results,Tryz.results194,go_sem]) rfl ⟨rfl,Z5 (Zf w) _⟩
theorem Tryz.noIsFJ(v:Value)(xT:TypeId)(w:World):(Instr.typeAssert (.iface 80 v) xT 141 true).run Tryz.prog w= .ok (.tuple #[.nilIface,.bool false]) w:=run_typeAssert_lacksB Tryz.underlying141 (by kernel_rfl) (by kernel_rfl) v xT w
theorem Tryz.unFJ(v:Value)(xT:TypeId)(w:World):(Instr.typeAssert (.iface 80 v) xT 144 true).run Tryz.prog w= .ok (.tuple #[.iface 80 v,.bool true]) w:=run_typeAssert_hasB Tryz.underlying144 (by kernel_rfl) v xT w
theorem is0J(t:Int)(d:Nat)(IH:Hid (∀e,e<d-> ∀(u:World) (v:Value) (es:List Int),EJ u e v es->CC 65 #[v,.iface 34 (iI t),.bool true] u (.bool (decide (t∈es)))))(w:World)(v:Value)(es:List Int)(h:EJ w d v es):
 CC 65 #[v,.iface 34 (iI t),.bool true] w (.bool (decide (t∈es))):=by
 have nE:=Tryz.noIsE
 have nF:=Tryz.noIsFJ
 have nJ:=Tryz.noIsJ
 have uE:=Tryz.noUnE
 have sE:=Tryz.noUsE
 have uF:=Tryz.unFJ
 have uJ:=Tryz.noUnJ
 have sJ:=Tryz.usJ
 have qE:=fun(a:Int) (u:World)=>eqlE a t u
 have qF:=fun(x:Value) (u:World)=>run_eql_iface_types (P:=Tryz.prog) 80 34 x (iI t) Tryz.underlying49 Z2 u
 have qJ:=fun(x:Value) (u:World)=>run_eql_iface_types (P:=Tryz.prog) 94 34 x (iI t) Tryz.underlying49 Z2 u
 obtain⟨r,er⟩:=Z3 (decide (t∈es))
 rw[er]
 go_enter Tryz.func65,Tryz.ntmps65
 go_wp2_with fail
 go_loopw [0] (fun s0 wr=> ∃(e:Nat) (fs:List Int),e<=d/\EJ wr e s0 fs/\decide (t∈fs)=r/\Bw w wr) (fun s0 _=>SizeOf.sizeOf s0)
 case atStart=>exact⟨d,es,Nat.le_refl _,h,er,Below.refl _ _⟩
 case round=>
  obtain⟨e,fs,he,hv,hr,HBr⟩:=hrel
  cases hv with
  | leaf _ n=>
   by_cases hn:n=t
   ·subst hn
    simp at hr
    subst hr
    go_wp2
    exact bodyPost_ret (v:= .bool true) (by simp[results,Tryz.results65,go_sem]) rfl ⟨rfl,HBr⟩
   ·have hr2:r=false:=by rw[<-hr];simp;exact fun h=>hn h.symm
    subst hr2
    have hb:(n==t)=false:=by simpa using hn
    go_wp2
    exact bodyPost_ret (v:= .bool false) (by simp[results,Tryz.results65,go_sem]) rfl ⟨rfl,HBr⟩
  | flt d' s k _ hk=>
   obtain⟨T,x,rfl⟩:=hk.some
   have hU:=cUnFJ s (.iface T x) wr (.inr ⟨_,_,rfl⟩)
   go_wp2_with (go_at_call 194;refine hU.mono ?_;clear hU;rintro e ua ⟨rfl,hBa⟩)
   refine⟨⟨d',fs,Z1,hk.up hBa,hr,Z7 HBr hBa⟩,?_⟩
   simp;omega
  | join d' b g o n c xs ess hn hz h1 h2 h3 h4 h5=>
   obtain⟨wo,rfl⟩:=Zr wr
   have hU:=cUnJ b _ wo h1
   go_wp2_with (go_at_call 196;refine hU.mono ?_;clear hU;rintro e ua ⟨rfl,hw⟩;have hw:=hw.symm;subst hw)
   go_loopw [45] (fun s45 wx=> ∃i:Nat,i<=n/\s45=iI (i:Int)/\Hid (∀j,j<i->t∉ess j)/\Bw wo wx) (fun s45 _=>n -(intOf s45).toNat)
   case atStart=>exact⟨0,Z1,rfl,fun j hj=>absurd hj Z1,Below.refl _ _⟩
   case round=>
    obtain⟨i,hi,rfl,hno,HBx⟩:=hrel
    by_cases hj:i<n
    ·have hl2:(i:Int)<(n:Int):=Z1
     have hc:wr.cell? ⟨g,o+i,none⟩=some (xs i):=(HBx.cell (p:=⟨g,o+i,none⟩) h3).trans (h4 i hj)
     have hE:=(h5 i hj).up HBx
     have hI:=IH.out d' Z1 wr (xs i) (ess i) hE
     have e1:IntKind.i64.wrap ((i:Int)+1)=((i+1:Nat):Int):=wrap1 i n hj hn
     obtain⟨y,ey⟩:=Z3 (xs i)
     rw[ey] at hc hI hE
     obtain⟨T,x,rfl⟩:=hE.some
     by_cases ht:t∈ess i
     ·have hr2:r=true:=by
       rw[<-hr,decide_eq_true_iff]
       exact List.mem_flatten.2 ⟨ess i,List.mem_map.2 ⟨i,List.mem_range.2 hj,rfl⟩,ht⟩
      subst hr2
      rw[decide_eq_true ht] at hI
      go_wp2_with (go_at_call 65;refine hI.mono ?_;clear hI;rintro e ub ⟨rfl,hBb⟩)
      exact bodyPost_ret (v:= .bool true) (by simp[results,Tryz.results65,go_sem]) rfl ⟨rfl,Z7 (Z7 HBr HBx) hBb⟩
     ·rw[decide_eq_false ht] at hI
      have hno2:Hid (∀j,j<i+1->t∉ess j):=fun j hj2=>by
       by_cases e:j=i
       ·subst e;exact ht
       ·exact hno.out j Z1
      go_wp2_with (go_at_call 65;refine hI.mono ?_;clear hI;rintro e ub ⟨rfl,hBb⟩)
      refine⟨⟨i+1,Z1,by simp,hno2,Z7 HBx hBb⟩,?_⟩
      simp[intOf];omega
    ·have hl2: ¬(i:Int)<(n:Int):=Z1
     have hr2:r=false:=by
      rw[<-hr,decide_eq_false_iff_not]
      intro hm
      obtain⟨l,hl,hm⟩:=List.mem_flatten.1 hm
      obtain⟨j,hj3,rfl⟩:=List.mem_map.1 hl
      have:=List.mem_range.1 hj3
      exact hno.out j Z1 hm
     subst hr2
     go_wp2
     exact bodyPost_ret (v:= .bool false) (by simp[results,Tryz.results65,go_sem]) rfl ⟨rfl,Z7 HBr HBx⟩
theorem cIs0J(t:Int): ∀(d:Nat) (w:World) (v:Value) (es:List Int),EJ w d v es->CC 65 #[v,.iface 34 (iI t),.bool true] w (.bool (decide (t∈es))):=by
 intro d
 induction d using Nat.strongRecOn with
 | ind d ih=>exact fun w v es h=>is0J t d ih w v es h
def EJN(w:World)(v:Value)(es:List Int):Prop:=(v= .nilIface/\es=[])\/ ∃d,EJ w d v es
theorem EJN.up{w u:World}(hB:Bw w u){v:Value}{es:List Int}(h:EJN w v es):EJN u v es:=h.elim .inl fun⟨d,h⟩=>.inr ⟨d,h.up hB⟩
theorem cIsJ(t:Int)(w:World)(v:Value)(es:List Int)(h:EJN w v es):CC 39 #[v,.iface 34 (iI t)] w (.bool (decide (t∈es))):=by
 rcases h with⟨rfl,rfl⟩ | ⟨d,h⟩
 ·have hn:=run_eql_iface_nil_left (P:=Tryz.prog) w 34 (iI t) Tryz.underlying49
  go_enter Tryz.func39,Tryz.ntmps39
  go_wp2
  exact bodyPost_ret (v:= .bool false) (by simp[results,Tryz.results39,go_sem]) rfl ⟨by simp,Below.refl _ _⟩
 ·have h8:= @run_callFunc_extern Tryz.prog 64 _ Extern.ReflectliteType.typeOf Tryz.func64 (by kernel_rfl) (by kernel_rfl) (by kernel_rfl) (by kernel_rfl)
  have h32:= @run_callFunc_extern Tryz.prog 199 _ cmpX Tryz.func199 (by kernel_rfl) (by kernel_rfl) (by kernel_rfl) (by kernel_rfl)
  have tT:=Tryz.isTypeOf
  have cT:=Tryz.isComparable
  have hI:=cIs0J t d w v es h
  obtain⟨T,x,rfl⟩:=h.some
  obtain⟨r,er⟩:=Z3 (decide (t∈es))
  rw[er] at hI⊢
  go_enter Tryz.func39,Tryz.ntmps39
  go_wp2_with (go_at_call 65;refine hI.mono ?_;clear hI;rintro e ub ⟨rfl,hBb⟩)
  exact bodyPost_ret (v:= .bool r) (by simp[results,Tryz.results39,go_sem]) rfl ⟨rfl,hBb⟩
def pe(es:Nat->List Int)(b:Nat->Bool):Nat->List (List Int)
 | 0=>[]
 | i+1=>if b i then pe es b i++[es i] else pe es b i
theorem pkE_le5(xs:Nat->Value)(b:Nat->Bool): ∀i,(pkE xs b i).length<=i
 | 0=>Nat.le_refl _
 | i+1=>by
  have:=pkE_le5 xs b i
  rw[pkE];split
  ·rw[List.length_append];simp;omega
  ·omega
theorem pe_len(xs:Nat->Value)(es:Nat->List Int)(b:Nat->Bool): ∀i,(pe es b i).length=(pkE xs b i).length
 | 0=>rfl
 | i+1=>by
  rw[pe,pkE];split
  ·rw[List.length_append,List.length_append,pe_len xs es b i];rfl
  ·exact pe_len xs es b i
theorem pe_flat{es:Nat->List Int}{b:Nat->Bool}: ∀{n:Nat},(∀i,i<n->b i=false->es i=[])->(pe es b n).flatten=((List.range n).map es).flatten
 | 0,_=>rfl
 | n+1,h=>by
  rw[List.range_succ,List.map_append,List.flatten_append,<-pe_flat fun i hi=>h i Z1,pe]
  cases hb:b n with
  | true=>simp
  | false=>simp[h n Z1 hb]
theorem pkE_each{xs:Nat->Value}{es:Nat->List Int}{b:Nat->Bool}{R:Value->List Int->Prop}: ∀{n:Nat},(∀i,i<n->b i=true->R (xs i) (es i))-> ∀(k:Nat) (v:Value) (e:List Int),(pkE xs b n)[k]?=some v->(pe es b n)[k]?=some e->R v e
 | 0,_=>fun k v e h=>by simp[pkE] at h
 | n+1,h=>fun k v e h1 h2=>by
  have hl:=pe_len xs es b n
  rw[pkE] at h1
  rw[pe] at h2
  cases hb:b n with
  | true=>
   rw[hb,if_pos rfl] at h1 h2
   by_cases hk:k<(pkE xs b n).length
   ·rw[List.getElem?_append_left hk] at h1
    rw[List.getElem?_append_left Z1] at h2
    exact pkE_each (fun i hi=>h i Z1) k v e h1 h2
   ·have hk2:k=(pkE xs b n).length:=by
     have:=(List.getElem?_eq_some_iff.1 h1).1
     simp at this;omega
    subst hk2
    rw[List.getElem?_append_right Z1] at h1 h2
    simp at h1
    rw[hl] at h2
    simp at h2
    subst h1 h2
    exact h n Z1 hb
  | false=>
   rw[hb,if_neg (by simp)] at h1 h2
   exact pkE_each (fun i hi=>h i Z1) k v e h1 h2
theorem commonJ{w:World}{xs:Nat->Value}{es:Nat->List Int}{b:Nat->Bool}: ∀{n:Nat},(∀i,i<n->b i=true-> ∃d,EJ w d (xs i) (es i))-> ∃D,∀i,i<n->b i=true->EJ w D (xs i) (es i)
 | 0,_=>⟨0,fun i hi=>Z1⟩
 | n+1,h=>by
  obtain⟨D,hD⟩:=commonJ fun i hi=>h i (Nat.lt_succ_of_lt hi)
  cases hb:b n with
  | false=>exact⟨D,fun i hi hi2=>hD i (by rcases Nat.lt_succ_iff_lt_or_eq.1 hi with h | rfl;exact h;rw[hb] at hi2;cases hi2) hi2⟩
  | true=>
   obtain⟨d,hd⟩:=h n Z1 hb
   refine⟨max D d,fun i hi hi2=>?_⟩
   rcases Nat.lt_succ_iff_lt_or_eq.1 hi with h2 | rfl
   ·exact(hD i h2 hi2).mono _ (Nat.le_max_left _ _)
   ·exact hd.mono _ (Nat.le_max_right _ _)
theorem range_getD{α:Type}(l:List α)(d:α):(List.range l.length).map (fun k=>l.getD k d)=l:=by
 refine List.ext_getElem (by simp) fun i h1 h2=>?_
 simp[List.getD_eq_getElem?_getD,List.getElem?_eq_getElem h2]
theorem cJoinJ(n gcap:Nat)(gsl:Option Addr)(xs:Nat->Value)(es:Nat->List Int)(w:World)(hn:n<=1000000)(hrow:0<n-> ∃g o,gsl=some ⟨g,o,none⟩/\g<w.heap.size/\ ∀i,i<n->w.cell? ⟨g,o+i,none⟩=some (xs i))(he: ∀i,i<n->EJN w (xs i) (es i)):
 Calls Tryz.prog 20 #[.slice gsl n gcap] w fun r u'=> ∃y,r= .returned y/\EJN u' y ((List.range n).map es).flatten/\Bw w u':=by
 have hbb: ∀i,i<n->(xs i= .nilIface/\es i=[])\/ ∃d,EJ w d (xs i) (es i):=he
 obtain⟨b,hb⟩: ∃b:Nat->Bool,∀i,i<n->(b i=false/\xs i= .nilIface/\es i=[])\/(b i=true/\ ∃d,EJ w d (xs i) (es i)):=by
  refine⟨fun i=>match xs i with | .nilIface=>false | _=>true,fun i hi=>?_⟩
  rcases hbb i hi with⟨h1,h2⟩ | ⟨d,hd⟩
  ·exact .inl ⟨by simp only[h1],h1,h2⟩
  ·obtain⟨T,x,e⟩:=hd.some
   exact .inr ⟨by simp only[e],d,hd⟩
 have h0: ∀i,i<n->b i=false->es i=[]:=fun i hi hf=>by
  rcases hb i hi with⟨_,_,h⟩ | ⟨h,_⟩
  ·exact h
  ·rw[h] at hf;cases hf
 obtain⟨D,hD⟩:=commonJ (w:=w) (xs:=xs) (es:=es) (b:=b) (n:=n) fun i hi ht=>by
  rcases hb i hi with⟨h,_⟩ | ⟨_,h⟩
  ·rw[h] at ht;cases ht
  ·exact h
 refine(join_core n gcap gsl xs b w hn hrow (fun i hi=>?_) (pkE_le5 xs b)).mono fun r u' ⟨y,e1,hp,hB⟩=>⟨y,e1,?_,hB⟩
 ·rcases hb i hi with⟨h1,h2,_⟩ | ⟨h1,d,hd⟩
  ·exact .inl ⟨h1,h2⟩
  ·exact .inr ⟨h1,hd.some⟩
 ·rw[<-pe_flat h0]
  have hl:=pe_len xs es b n
  have hk:=pkE_le5 xs b n
  rcases hp with⟨p1,rfl⟩ | ⟨J,bo,m,co,zs,rfl,hJ,hbo,hm,hm0,hc1,hc2⟩
  ·rw[p1] at hl
   have:pe es b n=[]:=List.eq_nil_of_length_eq_zero hl
   rw[this];exact .inl ⟨rfl,rfl⟩
  ·refine .inr ⟨D+1,?_⟩
   have e:(pe es b n).flatten=((List.range m).map fun k=>(pe es b n).getD k []).flatten:=by
    rw[show m=(pe es b n).length by omega,range_getD]
   rw[e]
   refine .join D J bo 0 m co (fun k=>(pkE xs b n).getD k .nilIface) (fun k=>(pe es b n).getD k []) Z1 Z1 (hc1 0 _ rfl).1 hJ hbo (fun k hk2=>?_) (fun k hk2=>?_)
   ·have e2:(pkE xs b n)[k]?=some ((pkE xs b n).getD k .nilIface):=by rw[List.getD_eq_getElem?_getD,List.getElem?_eq_getElem Z1];rfl
    rw[Nat.zero_add];exact((CV.pre2 hc2) k _ e2).1
   ·have e2:(pkE xs b n)[k]?=some ((pkE xs b n).getD k .nilIface):=by rw[List.getD_eq_getElem?_getD,List.getElem?_eq_getElem Z1];rfl
    have e3:(pe es b n)[k]?=some ((pe es b n).getD k []):=by rw[List.getD_eq_getElem?_getD,List.getElem?_eq_getElem Z1];rfl
    exact(pkE_each (R:=fun v e=>EJ w D v e) hD k _ _ e2 e3).up hB
end
section
open Go.RowKit
abbrev FJ(s:ByteArray)(k:Value):Value:= .iface 80 (.agg #[.string s,k])
theorem miEj(n:Int)(w:World):(Instr.makeInterface 34 (iI n)).run Tryz.prog w= .ok (.iface 34 (iI n)) w:=by kernel_rfl
theorem miFj(s:ByteArray)(T:TypeId)(x:Value)(w:World):(Instr.makeInterface 80 (.agg #[.string s,.iface T x])).run Tryz.prog w= .ok (FJ s (.iface T x)) w:=by kernel_rfl
theorem bdFj(s:ByteArray)(k:Value)(hk: ∃T x,k= .iface T x)(w:World):(Instr.build 80 #[(0,.string s),(1,k)]).run Tryz.prog w= .ok (.agg #[.string s,k]) w:=by obtain⟨T,x,rfl⟩:=hk;kernel_rfl
def bE(b:Bool)(n:Int):List Int:=if b then [n] else []
theorem EJN.nil(w:World):EJN w .nilIface []:= .inl ⟨rfl,rfl⟩
theorem EJN.flt{w:World}(s:ByteArray){k:Value}{es:List Int}{d:Nat}(h:EJ w d k es):EJN w (FJ s k) es:= .inr ⟨d+1,.flt d s k es h⟩
theorem EJN.one(w:World)(s:ByteArray)(n:Int):EJN w (FJ s (.iface 34 (iI n))) [n]:= .flt s (.leaf 0 n)
theorem jFound(s:ByteArray)(e:Int)(w:World):Calls Tryz.prog 48 #[.string s,iI e] w fun r u=> ∃v,r= .returned v/\EJN u v (bE (e !=0) e)/\Bw w u:=by
 have m1:=miEj
 have m2:=miFj
 cases h:(e !=0)
 ·go_enter Tryz.func48,Tryz.ntmps48
  go_wp2
  exact bodyPost_ret (v:= .nilIface) (by simp[results,Tryz.results48,go_sem]) rfl ⟨_,rfl,.nil _,Below.refl _ _⟩
 ·go_enter Tryz.func48,Tryz.ntmps48
  go_wp2
  exact bodyPost_ret (v:=FJ s (.iface 34 (iI e))) (by simp[results,Tryz.results48,go_sem]) rfl ⟨_,rfl,.one _ s e,Below.refl _ _⟩
theorem jWithin(s:ByteArray)(n a b:Int)(w:World):Calls Tryz.prog 50 #[.string s,iI n,iI a,iI b] w fun r u=> ∃v,r= .returned v/\EJN u v (bE (!decide (a<=n/\n<=b)) 2)/\Bw w u:=by
 have m1:=miEj
 have m2:=miFj
 by_cases h1:n<a
 ·rw[show (!decide (a<=n/\n<=b))=true by simp;omega]
  go_enter Tryz.func50,Tryz.ntmps50
  go_wp2
  exact bodyPost_ret (v:=FJ s (.iface 34 (iI 2))) (by simp[results,Tryz.results50,go_sem]) rfl ⟨_,rfl,.one _ s 2,Below.refl _ _⟩
 by_cases h2:b<n
 ·rw[show (!decide (a<=n/\n<=b))=true by simp;omega]
  go_enter Tryz.func50,Tryz.ntmps50
  go_wp2
  exact bodyPost_ret (v:=FJ s (.iface 34 (iI 2))) (by simp[results,Tryz.results50,go_sem]) rfl ⟨_,rfl,.one _ s 2,Below.refl _ _⟩
 ·rw[show (!decide (a<=n/\n<=b))=false by simp;omega]
  go_enter Tryz.func50,Tryz.ntmps50
  go_wp2
  exact bodyPost_ret (v:= .nilIface) (by simp[results,Tryz.results50,go_sem]) rfl ⟨_,rfl,.nil _,Below.refl _ _⟩
def tdE(es:List Int):List Int->Int
 | []=>0
 | x::l=>if x∈es then x else tdE es l
theorem EJN.some{w:World}{v:Value}{es:List Int}(h:EJN w v es):v= .nilIface\/ ∃T x,v= .iface T x:=h.imp And.left fun⟨_,h⟩=>h.some
theorem td_drop(es os:List Int)(i:Nat)(h:i<os.length):tdE es (os.drop i)=if os.getD i 0∈es then os.getD i 0 else tdE es (os.drop (i+1)):=by
 rw[List.drop_eq_getElem_cons h,tdE,List.getD_eq_getElem?_getD,List.getElem?_eq_getElem h];rfl
theorem ixErr(g n c j:Nat)(h:j<n)(w:World):(Instr.indexAt 81 (.slice (some ⟨g,0,none⟩) n c) (iI j)).run Tryz.prog w= .ok (.pointer (some ⟨g,j,none⟩)) w:=by
 have hj:(j:Int)<n:=Z1
 go_simp
 all_goals first | omega | (simp[Addr.add];omega) | simp[Addr.add,Nat.mul_comm]
theorem told_core(v:Value)(es os:List Int)(m:Int)(g c:Nat)(w:World)(hv:EJN w v es)(hg:g<w.heap.size)(hc:Hid (∀i,i<os.length->w.cell? ⟨g,i,none⟩=some (iI (os.getD i 0))))(hn:os.length<=1000)(hm:Hid (tdE es os=m)):
 CC 15 #[v,.slice (some ⟨g,0,none⟩) os.length c] w (iI m):=by
 have u3:=Tryz.underlying34
 have m1:=miEj
 have hI0:Hid (∀(y:Int) u,Bw w u->CC 39 #[v,.iface 34 (iI y)] u (.bool (decide (y∈es)))):=fun y u hB=>cIsJ y u v es (EJN.up hB hv)
 have hs:=EJN.some hv
 clear hv
 rcases hs with rfl | ⟨T,x,rfl⟩
 all_goals
  go_enter Tryz.func15,Tryz.ntmps15
  go_wp2_with fail
  go_loopw [9] (fun s9 wr=> ∃i:Nat,i<=os.length/\s9=iI (i:Int)/\Hid (tdE es (os.drop i)=m)/\Bw w wr) (fun s9 _=>os.length -(intOf s9).toNat)
  case atStart=>exact⟨0,Z1,rfl,by rw[List.drop_zero];exact hm,Below.refl _ _⟩
  case round=>
   obtain⟨i,hi,rfl,ht,HBr⟩:=hrel
   by_cases hj:i<os.length
   ·have hl:(i:Int)<(os.length:Int):=Z1
    have hX:=ixErr g os.length c i hj
    have hcl:wr.cell? ⟨g,i,none⟩=some (iI (os.getD i 0)):=(HBr.cell (p:=⟨g,i,none⟩) hg).trans (hc.out i hj)
    have hI:=hI0.out (os.getD i 0) wr HBr
    have e1:IntKind.i64.wrap ((i:Int)+1)=((i+1:Nat):Int):=by rw[IntKind.wrap_i64];omega
    have ht2:=ht.out
    rw[td_drop es os i hj] at ht2
    have ht2:Hid _:=ht2
    obtain⟨y,ey⟩:=Z3 (os.getD i 0)
    rw[ey] at hcl hI ht2
    by_cases hy:y∈es
    ·rw[decide_eq_true hy] at hI
     go_wp2_with (go_at_call 39;refine hI.mono ?_;clear hI;rintro e ua ⟨rfl,hBa⟩)
     have ht3:=ht2.out
     rw[if_pos hy] at ht3
     subst ht3
     exact bodyPost_ret (v:=iI y) (by simp[results,Tryz.results15,go_sem]) rfl ⟨rfl,Z7 HBr hBa⟩
    ·rw[decide_eq_false hy] at hI
     go_wp2_with (go_at_call 39;refine hI.mono ?_;clear hI;rintro e ua ⟨rfl,hBa⟩)
     exact⟨⟨i+1,Z1,by simp,by have:=ht2.out;rwa [if_neg hy] at this,Z7 HBr hBa⟩,by simp[intOf];omega⟩
   ·have hl: ¬(i:Int)<(os.length:Int):=Z1
    go_wp2
    have ht3:=ht.out
    rw[List.drop_eq_nil_of_le Z1] at ht3
    simp only[tdE] at ht3
    subst ht3
    exact bodyPost_ret (v:=iI 0) (by simp[results,Tryz.results15,go_sem]) rfl ⟨rfl,HBr⟩
section
theorem CV.grow{u u2:World}{r:Option Nat}{c:Nat}{l:List Value}(h:CV u c l)(hg:u.grownBy u2 r)(hc:c<u.heap.size)(hne:some c≠r):CV u2 c l:=fun j v hj=>by
 have e:=hg.block c hc hne
 rw[World.cell?_of_block (a:=⟨c,j,none⟩) e,World.frozen?_of_block (a:=⟨c,j,none⟩) e]
 exact h j v hj
def OR(lo sz m:Nat)(xs:List Value)(b:Nat)(u:World)(v:Value):Prop:=xs.length=m*sz/\((m=0/\v= .slice none 0 0)\/(lo<=b/\ ∃co zs,v= .slice (some ⟨b,0,none⟩) m co/\b<u.heap.size/\m<=co/\zs.length=(co -m)*sz/\CV u b (xs++zs)))
theorem OR.stab{lo sz m b:Nat}{xs:List Value}{u u2:World}{v:Value}(h:OR lo sz m xs b u v)(hB:Bw u u2):OR lo sz m xs b u2 v:=by
 obtain⟨h1,h3⟩:=h
 refine⟨h1,h3.imp id ?_⟩
 rintro⟨h2,co,zs,e,g1,g2,g3,g4⟩
 exact⟨h2,co,zs,e,Nat.lt_of_lt_of_le g1 hB.size,g2,g3,g4.below hB g1⟩
theorem OR.grow{lo sz m c:Nat}{r:Option Nat}{xs:List Value}{u u2:World}{v:Value}(h:OR lo sz m xs c u v)(hg:u.grownBy u2 r)(hne:some c≠r):OR lo sz m xs c u2 v:=by
 obtain⟨h1,h3⟩:=h
 refine⟨h1,h3.imp id ?_⟩
 rintro⟨h2,co,zs,e,g1,g2,g3,g4⟩
 exact⟨h2,co,zs,e,Nat.lt_of_lt_of_le g1 hg.size,g2,g3,g4.grow hg g1 hne⟩
theorem OR.sl{lo sz m b:Nat}{xs:List Value}{u:World}{v:Value}(h:OR lo sz m xs b u v): ∃sl c,v= .slice sl m c:=by
 rcases h.2 with⟨h1,h2⟩ | ⟨_,co,_,h2,_⟩
 ·exact⟨none,0,by rw[h2,h1]⟩
 ·exact⟨_,co,h2⟩
theorem OR.nil(lo sz b:Nat)(u:World):OR lo sz 0 [] b u (.slice none 0 0):=⟨by simp,.inl ⟨rfl,rfl⟩⟩
theorem app_or{u:World}{lo sz bt m b:Nat}{xs news:List Value}{v z:Value}{T E ty:TypeId}(ht:Tryz.prog.underlying T=some (.slice E))(hi:(Tryz.prog.info? E).map (fun i=>(i.zero,i.size,i.bytes))=some (some z,sz,bt))(hz:z.cells.size=sz)(hbt:bt<=1000)(h:OR lo sz m xs b u v)(hlo:lo<=u.heap.size)(hl:m<=100000)(hn:news.length=sz)(h1: ∀v∈news,v.oneCell'=true):
 ∃v' u' b',(Builtin.append_ #[T,T] ty #[v,.slice (some ⟨u.heap.size,0,none⟩) 1 1]).run Tryz.prog (u.alloc (.cells news.toArray E))= .ok v' u'/\(u.alloc (.cells news.toArray E)).grownBy u' (some b)/\OR lo sz (m+1) (xs++news) b' u' v'/\(b'=b\/u.heap.size<b')/\(lo<=b\/m=0/\v= .slice none 0 0)/\Below lo u u':=by
 obtain⟨ti,hti,htm⟩:=Option.map_eq_some_iff.1 hi
 simp only[Prod.mk.injEq] at htm
 obtain⟨hzv,hsz,hby⟩:=htm
 have hss:(u.alloc (.cells news.toArray E)).heap.size=u.heap.size+1:=by simp
 have hnew: ∀j v,news[j]?=some v->(u.alloc (.cells news.toArray E)).cell? ⟨u.heap.size,j,none⟩=some v:=fun j v hj=>(CV.new u news E j v hj).1
 have hB0:Bw u (u.alloc (.cells news.toArray E)):=Z5 (Zf u) _
 have hmb:(m+1)*bt<=101000000:=Nat.le_trans (Nat.mul_le_mul (show m+1<=101000 by omega) hbt) Z2
 obtain⟨h0,h3⟩:=h
 rcases h3 with⟨rfl,rfl⟩ | ⟨h2,co,zs,rfl,g1,g2,g3,g4⟩
 ·obtain rfl:xs=[]:=List.eq_nil_of_length_eq_zero (by simpa using h0)
  obtain⟨v',w',hr,hB,b',cap,zs,rfl,k1,k2,k3,k4,k5⟩:=Wz (P:=Tryz.prog) (u.alloc (.cells news.toArray E)) (ty:=ty) ht hti hzv (by rw[hsz];exact hz) (lo:=(u.alloc (.cells news.toArray E)).heap.size) (n:=0) (xs:=[]) (news:=news) (v:= .slice .none 0 0) ⟨by simp,.inl ⟨rfl,rfl⟩⟩ (ad:=⟨u.heap.size,0,.none⟩) (c:=1) (by rw[hsz];exact hn) (fun j v hj=>by rw[Addr.add0];exact hnew j v hj) (Nat.le_refl _) (by rw[hby];omega) Z1
  rw[hsz] at k4
  exact⟨_,w',b',hr,(U5 hB).but _,⟨by rw[List.nil_append,hn];omega,.inr ⟨Z1,cap,zs,rfl,k2,k3,by rw[k4],k5⟩⟩,.inr Z1,.inr ⟨rfl,rfl⟩,(Z7 hB0 hB).mono hlo⟩
 ·have hc2:CV (u.alloc (.cells news.toArray E)) b (xs++zs):=g4.below hB0 g1
  obtain⟨v',u',hr,hg,b',cap,zs',rfl,k1,k2,k3,k4,k5⟩:=V2 (P:=Tryz.prog) (u.alloc (.cells news.toArray E)) (ty:=ty) ht hti hzv (by rw[hsz];exact hz) (base:=(u.alloc (.cells news.toArray E)).heap.size) (n:=m) (cap:=co) (m:=1) (news:=news) (y:= .slice (some ⟨u.heap.size,0,.none⟩) 1 1) hc2 Z1 (by rw[hsz];exact h0) (by rw[hsz];exact g3) g2 (Nat.le_refl _) ⟨_,1,rfl,.inr ⟨_,rfl,fun j v hj=>by rw[Addr.add0];exact hnew j v hj⟩⟩ (by rw[hsz,hn,Nat.one_mul]) h1 (by rw[hby];omega) Z1
  rw[hsz] at k4
  exact⟨_,u',b',hr,hg,⟨by rw[List.length_append,hn,h0,Nat.add_mul,Nat.one_mul],.inr ⟨by rcases k1 with e | e<;>omega,cap,zs',rfl,k2,k3,k4,k5⟩⟩,k1.imp id (fun e=>Z1),.inl h2,(hB0.mono hlo).grown hg Z1 (fun k e=>by cases e;exact h2)⟩
theorem OR.nl{lo m b:Nat}{ns:List Int}{u:World}{v:Value}(h:OR lo 4 m (flN ns) b u v):NL u v ns:=by
 obtain⟨h1,h3⟩:=h
 rw[Xf] at h1
 rcases h3 with⟨h0,rfl⟩ | ⟨h2,co,zs,rfl,g1,g2,g3,g4⟩
 ·obtain rfl:ns=[]:=List.eq_nil_of_length_eq_zero Z1
  exact⟨none,0,0,0,rfl,Nat.le_refl _,fun _=>rfl,.inl rfl,.inl rfl,SN.empty rfl⟩
 ·obtain rfl:ns.length=m:=Z1
  exact⟨_,b,0,co,rfl,g2,(by simp),.inr rfl,.inr g1,fun j v hj=>by
   rw[Nat.zero_add]
   exact(g4 j v (by rw[List.getElem?_append_left (List.getElem?_eq_some_iff.1 hj).1];exact hj)).1⟩
theorem one_N(x:Int): ∀v∈LN x,v.oneCell'=true:=fun v hv=>by simp at hv;rcases hv with h | h | h | h<;>(subst h;rfl)
section
variable {R:Rg} {P:Program} {ops:Array Oper} {Q:Exit->Act->World->Prop} {f:Nat->Bool} {t:Nat->Value} {u:World} {a:Act} {i:Nat} {o:Oper}
theorem g_aW(m n:Nat)(p p':World->Value->Prop){T:TypeId}{j d:Nat}{y:Operand}{vy:Value}(h: ∀u x,Below R.lo R.w u->R.base<=u.heap.size->p u x-> ∃v u',(Builtin.append_ #[T,T] o.type #[x,vy]).run P u= .ok v u'/\Bw u u'/\p' u' v)(hop:o.op= .call {callee:= .builtin .append,args:=[.tmp d,y].toArray,argTypes:=[T,T].toArray}:=by rfl)(hy:evR R i o y=some vy:=by rfl)(hm:R.E[m]?=some ⟨j,d,some i,p⟩:=by rfl)(hd:(Zs o j&&R.S.contains d)=true:=by rfl)(hn:(R.E[n]?).map (·.p)=some p':=by rfl)(hc:R.chkE ops n i o=true:=by rfl):OG R P ops Q i o:=fun f t u a X=>by
 rw[Bool.and_eq_true,List.contains_iff_mem] at hd
 obtain⟨h2,h4⟩:=hd
 obtain⟨d',q,hd',hq,_,_,_,_,_,_,_,_,hw⟩:=Zm hc
 obtain⟨v,u',hr,hB,hp⟩:=h u (t d) X.I.1.bel X.I.1.sz (X.val hm h2 rfl)
 exact X.go hw fun K hK=>Vn hop (X.inS h4) (X.ev hy) hr (hK _ _ (X.putE hc (fun q hq=>by rw[hq] at hn;cases hn;exact hp) hB))
end
end
theorem xaddG_lt(a b m0 m1 m2 m3 r0 r1 r2 r3 ec:Int)(w:World)(ha:In a)(hb:In b)(hR:Hid (∀u,CC 46 #[WV (a+b),A4 m0 m1 m2 m3] u (.tuple #[A4 r0 r1 r2 r3,iI ec])))(hl:a+b<0x10000000000000000000000000000000000000000000000000000000000000000):CC 27 #[NV a,NV b,A4 m0 m1 m2 m3] w (.tuple #[A4 r0 r1 r2 r3,iI ec]):=by
 have hi:In (a+b):=⟨by have:=ha.1;have:=hb.1;omega,hl⟩
 go_enter Tryz.func27,Tryz.ntmps27
 go_upto_region 1 with fail
 obtain⟨v0,hC,HB0,K0⟩:=bx4 w (LN a) 24 (LN b) 24 ([iU m0,iU m1,iU m2,iU m3]) 24 L0s 24
 rw[hC]
 clear hC
 refine Rp K0 HB0 [] [(6,8,L0s,some (7,LN (a+b)))] (cG 0 12 [_,_,_] [(3,11,_),(4,15,_),(5,16,_),(8,9,_)]) [(7,6)] [] [false,false] (Oc9 (g_ld 0 uN iN) (g_ld 1 uN iN) (g_cl Z9 (fun uZ=>Wj a b uZ ha hb hl)) g_mv g_ex g_ex (g_al 0 aN) (g_sn 0 iN) g_as) fun u1 b1_6 HB1 _ K1=>?_
 simp only[sQ] at K1⊢
 go_upto_region 2 with fail
 refine Rp K1 HB1 [] [(2,10,L0w,some (3,LW (a+b)))] [(0,17,_),(1,18,_)] [(3,2)] [] [true,true,false] (Oc4 (g_ld 2 uN iN) (g_cl Zg (fun uZ=>U0 (a+b) uZ hi)) (g_al 0 aW) (g_sn 0 iW)) fun u2 b2_2 HB2 _ K2=>?_
 simp only[sQ] at K2⊢
 go_upto_region 5 with fail
 refine Rp K2 HB2 [.no,.all 5 ([iU r0,iU r1,iU r2,iU r3])] [] (cG 0 21 [_,_,_,_,_] [(6,7,_)]) [] [] [false,true,false] (Oc7 (g_ld 2 uW iW) (g_ld 0 uN iN) (g_cl Ze hR.out) g_ex g_ex (g_st 1 iN) g_as) fun u3 HB3 _ K3=>?_
 simp only[sQ] at K3⊢
 have c6:=(K3.cv 0).n4
 go_wp2
 refine bodyPost_ret (v:= .tuple #[A4 r0 r1 r2 r3,iI ec]) (by simp[results,Tryz.results27,go_sem,c6]) rfl ⟨rfl,HB3⟩
theorem xaddG_ge(a b m0 m1 m2 m3 r0 r1 r2 r3 ec:Int)(w:World)(ha:In a)(hb:In b)(hR:Hid (∀u,CC 46 #[WV (a+b),A4 m0 m1 m2 m3] u (.tuple #[A4 r0 r1 r2 r3,iI ec])))(hl:0x10000000000000000000000000000000000000000000000000000000000000000<=a+b):CC 27 #[NV a,NV b,A4 m0 m1 m2 m3] w (.tuple #[A4 r0 r1 r2 r3,iI ec]):=by
 have ha2:=ha.2;have hb2:=hb.2
 obtain⟨s,hs⟩:=Z3 (a+b -0x10000000000000000000000000000000000000000000000000000000000000000)
 have hA:WV (a+b)=A8 (D0 s) (D1 s) (D2 s) (D3 s) 1 0 0 0:=WV_of (a+b) (D0 s) (D1 s) (D2 s) (D3 s) 1 0 0 0 (W_D0 s) (W_D1 s) (W_D2 s) (W_D3 s) ⟨Z1,Z1⟩ W_0 W_0 W_0 (by rw[V_In ⟨Z1,Z1⟩];simp[V];omega)
 rw[hA] at hR
 have nA:Hid (∀u,CC 42 #[NV a,NV b] u (.tuple #[NV s,.bool true])):=fun u=>by rw[<-hs];exact nrAdd_ge a b u ha hb hl
 clear hs hA ha2 hb2
 go_enter Tryz.func27,Tryz.ntmps27
 go_upto_region 1 with fail
 obtain⟨v0,hC,HB0,K0⟩:=bx4 w (LN a) 24 (LN b) 24 ([iU m0,iU m1,iU m2,iU m3]) 24 L0s 24
 rw[hC]
 clear hC
 refine Rp K0 HB0 [] [(6,8,L0s,some (7,LN s))] (cG 0 12 [_,_,_] [(3,11,_),(4,15,_),(5,16,_),(8,9,_)]) [(7,6)] [] [false,false] (Oc9 (g_ld 0 uN iN) (g_ld 1 uN iN) (g_cl Z9 nA.out) g_mv g_ex g_ex (g_al 0 aN) (g_sn 0 iN) g_as) fun u1 b1_6 HB1 _ K1=>?_
 simp only[sQ] at K1⊢
 go_upto_region 2 with fail
 refine Rp K1 HB1 [] [(2,10,L0w,some (3,[iU (D0 s),iU (D1 s),iU (D2 s),iU (D3 s),iU (0),iU (0),iU (0),iU (0)]))] [(0,17,_),(1,18,_)] [(3,2)] [] [true,true,false] (Oc4 (g_ld 2 uN iN) (g_cl Zg (fun uZ=>rWiden_any (D0 s) (D1 s) (D2 s) (D3 s) uZ (W_D0 s) (W_D1 s) (W_D2 s) (W_D3 s))) (g_al 0 aW) (g_sn 0 iW)) fun u2 b2_2 HB2 _ K2=>?_
 simp only[sQ] at K2⊢
 go_upto_region 4 with fail
 refine Rp K2 HB2 [.no,.no,.cs [(4,1,(Go.Value.int Go.IntKind.u64 1))]] [] [(0,20,_)] [] [] [] (Oc2 (g_ix (jW 4)) (g_sc 2 0 sU)) fun u3 HB3 _ K3=>?_
 simp only[fX,nK,nP,Wr.f,aK,pM,List.foldl,List.set_cons_zero,List.set_cons_succ] at K3
 simp only[sQ]
 go_upto_region 5 with fail
 refine Rp K3 HB3 [.no,.all 5 ([iU r0,iU r1,iU r2,iU r3])] [] (cG 0 21 [_,_,_,_,_] [(6,7,_)]) [] [] [false,true,false] (Oc7 (g_ld 2 uW iW) (g_ld 0 uN iN) (g_cl Ze hR.out) g_ex g_ex (g_st 1 iN) g_as) fun u4 HB4 _ K4=>?_
 simp only[sQ] at K4⊢
 have c6:=(K4.cv 0).n4
 go_wp2
 refine bodyPost_ret (v:= .tuple #[A4 r0 r1 r2 r3,iI ec]) (by simp[results,Tryz.results27,go_sem,c6]) rfl ⟨rfl,HB4⟩
theorem xaddG(a b m0 m1 m2 m3 r0 r1 r2 r3 ec:Int)(w:World)(ha:In a)(hb:In b)(hR:Hid (∀u,CC 46 #[WV (a+b),A4 m0 m1 m2 m3] u (.tuple #[A4 r0 r1 r2 r3,iI ec]))):CC 27 #[NV a,NV b,A4 m0 m1 m2 m3] w (.tuple #[A4 r0 r1 r2 r3,iI ec]):=by
 by_cases hl:a+b<0x10000000000000000000000000000000000000000000000000000000000000000
 ·exact xaddG_lt a b m0 m1 m2 m3 r0 r1 r2 r3 ec w ha hb hR hl
 ·exact xaddG_ge a b m0 m1 m2 m3 r0 r1 r2 r3 ec w ha hb hR Z1
theorem xAdd(a b m:Int)(w:World)(ha:In a)(hb:In b)(hm:In m)(h:m≠0):CC 27 #[NV a,NV b,NV m] w (.tuple #[NV ((a+b)%m),iI 0]):=
 xaddG a b _ _ _ _ _ _ _ _ 0 w ha hb (fun u=>Wf (a+b) m u ⟨by have:=ha.1;have:=hb.1;omega,by have:=ha.2;have:=hb.2;omega⟩ hm h)
def gat(op:Int->Int->Int)(x:Int)(ns:List Int):Nat->Int
 | 0=>x
 | k+1=>op (gat op x ns k) (ns.getD k 0)
theorem gat_In{op:Int->Int->Int}{x:Int}{ns:List Int}(hx:In x)(ho: ∀a b,In a->In b->In (op a b))(hn: ∀k,k<ns.length->In (ns.getD k 0)): ∀k,k<=ns.length->In (gat op x ns k)
 | 0,_=>hx
 | k+1,h=>ho _ _ (gat_In hx ho hn k Z1) (hn k Z1)
theorem mgather(N:FuncId)(op:Int->Int->Int)(x m:Int)(sl:Option Addr)(gb go cap:Nat)(ns:List Int)(w:World)(hns:ns.length<=50)(hx:In x)(hm:In m)(h:m≠0)(hN: ∀(vs:Array Value) (w:World),(callFunc N vs).run Tryz.prog w= .ok (.enter N vs) w)(hT:Hid (∀a b,In a->In b-> ∀u,Calls Tryz.prog N #[NV a,NV b,NV m] u fun e u'=>e= .returned (.tuple #[NV (op a b),iI 0])/\Bw u u'))(ho: ∀a b,In a->In b->In (op a b))(hn:Hid (∀k,k<ns.length->In (ns.getD k 0)))(hix:Hid (∀j,j<ns.length-> ∀W,(Instr.indexAt 31 (.slice sl ns.length cap) (iI j)).run Tryz.prog W= .ok (.pointer (some ⟨gb,go+4*j,none⟩)) W))(hg:ns.length=0\/gb<w.heap.size)(hS:Hid (SN w gb go ns)):
 CC 114 #[.func (.func N) #[] #[],NV x,NV m,.slice sl ns.length cap] w (.tuple #[NV (gat op (x%m) ns ns.length),iI 0]):=by
 have hI:Hid (∀k,k<=ns.length->In (gat op (x%m) ns k)):=gat_In (Zt hm h) ho hn.out
 go_enter Tryz.func114,Tryz.ntmps114
 go_upto_region 1 with fail
 obtain⟨v0,hC,HB0,K0⟩:=bx3 w (LN x) 24 (LN m) 24 L0s 24
 rw[hC]
 clear hC
 refine Rd K0 HB0 [] [(7,10,L0s,some (8,LN (x%m)))] (cG 0 15 [_,_,_,_] [(4,14,_),(5,19,_),(6,20,_),(9,11,_)]) [(8,7)] [] [false] (Oc10 (g_ld 0 uN iN) (g_cl Zl (fun uZ=>W6 x uZ hx)) (g_ld 1 uN iN) (g_cl Zp (fun uZ=>Xl x m uZ hx.wide hm h)) g_mv g_ex g_ex (g_al 0 aN) (g_sn 0 iN) g_as) fun u1 b1_7 HB1 _ K1=>?_
 simp only[sQ] at K1⊢
 go_upto_region 2 with fail
 refine Rn K1 HB1 [(0,21,_),(1,22,_)] (Oc2 g_mv (g_bn (fun uZ=>Y7 _ _ _ 0 0 _ uZ rfl))) fun u2 HB2 _ K2=>?_
 simp only[sQ] at K2⊢
 go_upto_region 4 with fail
 refine Rn K2 HB2 (cG 0 25 [_,_,_] []) (Oc3 g_mv (g_ln Tryz.underlying31) g_mv) fun u3 HB3 _ K3=>?_
 simp only[sQ] at K3⊢
 go_wp2_with fail
 go_loopw [27] (fun s27 wr=> ∃(k:Nat),k<=ns.length/\s27=iI (k:Int)/\Bw w wr/\CV wr (w.heap.size+1) (LN m)/\CV wr (w.heap.size+1+1) L0s/\CV wr b1_7 (LN (gat op (x%m) ns k))/\b1_7<wr.heap.size/\w.heap.size+1+1<wr.heap.size) (fun s27 _=>ns.length -(intOf s27).toNat)
 case atStart=>exact⟨0,Z1,rfl,HB3,(K3.cv 0),(K3.cv 1),(K3.cv 2),(K3.lt 2),(K3.lt 1)⟩
 case round=>
  obtain⟨k,hk,rfl,HBr,Km,Kr,Kg,lg,lr⟩:=hrel
  have hnK:=K3.n
  simp at hnK
  have hoK2:=K3.lo 2
  by_cases hj:k<ns.length
  ·have hl:decide ((k:Int)<(ns.length:Int))=true:=by simp;omega
   have ik:=hI.out k hk
   have iy:=hn.out k hj
   have hC:=hT.out (gat op (x%m) ns k) (ns.getD k 0) ik iy
   have hC:Hid _:=hC
   have hX:=hix.out k hj
   have hX:Hid _:=hX
   have hR:=hS.out.at k hj
   have hR:Hid _:=hR
   have hlen:(k:Int)<1000:=Z1
   obtain⟨y,ey⟩:=Z3 (ns.getD k 0)
   obtain⟨z,ez⟩:=Z3 (gat op (x%m) ns k)
   rw[ey] at iy hR
   rw[ey,ez] at hC
   rw[ez] at ik Kg
   have EY:Hid _:=ey
   have EZ:Hid _:=ez
   clear ey ez
   have K3_1:Bk w.heap.size wr [(false,w.heap.size+1,LN m),(false,w.heap.size+1+1,L0s),(true,b1_7,LN z)]:=⟨.c Z1 Km<| .c lr Kr<| .o lg (K3.lo 2) Kg<|trivial,by simp;omega⟩
   go_upto_region 5 with fail
   refine Rn K3_1 HBr [(0,28,_)] (Oc1 (g_bn (fun uZ=>Za _ _ (k:Int) (ns.length:Int) _ uZ hl))) fun u4 HB4 sz4 K4=>?_
   simp only[sQ] at K4⊢
   go_upto_region 6 with fail
   refine Rp K4 HB4 [] [(2,13,L0s,some (3,LN y))] [(0,29,_),(1,30,_)] [(3,2)] [] [] (Oc4 (g_ix hX.out) (g_lf hR.out (hg.resolve_left Z1) uN iN) (g_al 0 aN) (g_sn 0 iN)) fun u5 b5_2 HB5 sz5 K5=>?_
   simp only[sQ] at K5⊢
   go_upto_region 7 with fail
   refine Rp K5 HB5 [.no,.no,.all 8 (LN (op z y))] [] (cG 0 32 [_,_,_,_,_] [(5,31,_),(6,37,_),(7,38,_)]) [(8,1)] [] [true,true,true,false] (Oc9 g_mv (g_ld 2 uN iN) (g_ld 3 uN iN) (g_ld 0 uN iN) (g_cv (first:=[]) hN (fun fZ uZ kZ sZ=>hC.out uZ)) g_mv g_ex g_ex (g_st 2 iN)) fun u6 HB6 _ K6=>?_
   simp only[sQ] at K6⊢
   go_upto_region 8 with fail
   refine Rp K6 HB6 [] [] [(0,39,_),(1,27,_)] [(1,0)] [(1,27)] [] (Oc2 (g_bn (fun uZ=>Zu _ _ (k:Int) 1 ((k+1:Nat):Int) uZ Z1 Z1 Z1)) g_mv) fun u7 HB7 _ K7=>?_
   simp only[sQ] at K7⊢
   go_wp2
   refine⟨⟨k+1,Z1,rfl,HB7,(K7.cv 0),(K7.cv 1),by rw[gat,EY.out,EZ.out];exact(K7.cv 2),(K7.lt 2),(K7.lt 1)⟩,?_⟩
   simp[intOf]<;>omega
  ·have hl:decide ((k:Int)<(ns.length:Int))=false:=by simp;omega
   have hkn:k=ns.length:=Z1
   have K3_1:Bk w.heap.size wr [(false,w.heap.size+1,LN m),(true,w.heap.size+1+1,L0s),(false,b1_7,LN (gat op (x%m) ns k))]:=⟨.c Z1 Km<| .o lr (K3.lo 1) Kr<| .c lg Kg<|trivial,by simp;omega⟩
   go_upto_region 5 with fail
   refine Rp K3_1 HBr [] [] [(0,28,_)] [] [] [false] (Oc1 (g_bn (fun uZ=>Za _ _ (k:Int) (ns.length:Int) _ uZ hl))) fun u4 HB4 sz4 K4=>?_
   simp only[sQ] at K4⊢
   go_upto_region 9 with fail
   refine Rp K4 HB4 [.all 1 (LN (gat op (x%m) ns k))] [] [(0,40,_),(2,9,_)] [] [] [true,false] (Oc3 (g_ld 1 uN iN) (g_st 0 iN) g_as) fun u5 HB5 sz5 K5=>?_
   simp only[sQ] at K5⊢
   have c8:=(K5.cv 0).n4
   go_wp2
   refine bodyPost_ret (v:= .tuple #[NV (gat op (x%m) ns k),iI 0]) (by simp[results,Tryz.results114,go_sem,c8]) rfl ⟨by rw[hkn],HB5⟩
theorem ent_mod_Mul'(vs:Array Value)(w:World):(callFunc 115 vs).run Tryz.prog w= .ok (.enter 115 vs) w:=by kernel_rfl
theorem mProduct(m:Int)(sl:Option Addr)(gb go cap:Nat)(ns:List Int)(w:World)(hns:ns.length<=50)(hm:In m)(h:m≠0)(hn:Hid (∀k,k<ns.length->In (ns.getD k 0)))(hix:Hid (∀j,j<ns.length-> ∀W,(Instr.indexAt 31 (.slice sl ns.length cap) (iI j)).run Tryz.prog W= .ok (.pointer (some ⟨gb,go+4*j,none⟩)) W))(hg:ns.length=0\/gb<w.heap.size)(hS:Hid (SN w gb go ns)):
 CC 90 #[NV m,.slice sl ns.length cap] w (.tuple #[NV (gat (fun a b=>(a*b)%m) (1%m) ns ns.length),iI 0]):=by
 go_enter Tryz.func90,Tryz.ntmps90
 go_upto_region 1 with fail
 obtain⟨v0,hC,HB0,K0⟩:=bx2 w (LN m) 24 L0s 24
 rw[hC]
 clear hC
 refine Rd K0 HB0 [.no,.all 6 (LN (gat (fun a b=>(a*b)%m) (1%m) ns ns.length))] [] (cG 0 6 [_,_,_,_,_,_] [(7,5,_)]) [] [] [false] (Oc8 (g_cl Zn (fun uZ=>nOf 1 uZ Z1 Z1)) (g_ld 0 uN iN) g_mv (g_cb ent_mod_gather (fun uZ bZ=>mgather 115 (fun a b=>(a*b)%m) 1 m sl gb go cap ns uZ hns In_1 hm h ent_mod_Mul' (fun a b ha hb u=>mMul a b m u ha hb hm h) (fun a b ha hb=>Zt hm h) hn hix (hg.imp id (fun h=>Nat.lt_of_lt_of_le h bZ.size)) (hS.out.below2 bZ hg))) g_ex g_ex (g_st 1 iN) g_as) fun u1 HB1 _ K1=>?_
 simp only[sQ] at K1⊢
 have c4:=(K1.cv 0).n4
 go_wp2
 refine bodyPost_ret (v:= .tuple #[NV (gat (fun a b=>(a*b)%m) (1%m) ns ns.length),iI 0]) (by simp[results,Tryz.results90,go_sem,c4]) rfl ⟨rfl,HB1⟩
end
section
section
section ring
variable {R:Type} [Lean.Grind.CommRing R]
def cR(z:Int):R:= @Int.cast R Lean.Grind.Ring.intCast z
theorem cR_add(x y:Int):(cR (x+y):R)=cR x+cR y:=Lean.Grind.Ring.intCast_add x y
theorem Uh(x y:Int):(cR (x*y):R)=cR x*cR y:=Lean.Grind.Ring.intCast_mul x y
theorem cR_sub(x y:Int):(cR (x -y):R)=cR x -cR y:=Lean.Grind.Ring.intCast_sub x y
theorem cR_1:(cR 1:R)=1:=Lean.Grind.Ring.intCast_one
theorem cR_0:(cR 0:R)=0:=Lean.Grind.Ring.intCast_zero
def sfx(xs vs:List Int)(k:Nat):List (R×R):=((xs.zip vs).drop k).map fun p=>(cR p.1,cR p.2)
theorem sfx_at{xs vs:List Int}{k:Nat}(hl:vs.length=xs.length)(h:k<xs.length):(sfx xs vs k:List (R×R))=(cR (xs.getD k 0),cR (vs.getD k 0))::sfx xs vs (k+1):=by
 unfold sfx
 rw[List.drop_eq_getElem_cons (by simp;omega),List.map_cons,List.getElem_zip]
 simp[List.getElem?_eq_getElem h,List.getElem?_eq_getElem (show k<vs.length by omega)]
theorem sfx_end{xs vs:List Int}(hl:vs.length=xs.length):(sfx xs vs xs.length:List (R×R))=[]:=by
 unfold sfx
 rw[List.drop_eq_nil_of_le (by simp;omega),List.map_nil]
def preR(xs:List Int):Nat->R->R
 | 0=>fun _=>1
 | k+1=>fun z=>preR xs k z*(z -cR (xs.getD k 0))
def mdR(xs:List Int)(z:R)(a:Nat):Nat->R
 | 0=>1
 | m+1=>mdR xs z a m*(z -cR (xs.getD (a+m) 0))
theorem mdR_sfx{xs vs:List Int}(hl:vs.length=xs.length)(z:R)(a:Nat): ∀m,a+m<=xs.length->mdR xs z a m*pP z (sfx xs vs (a+m))=pP z (sfx xs vs a)
 | 0,h=>by rw[mdR,Nat.add_zero];grind
 | m+1,h=>by
  rw[<-mdR_sfx hl z a m Z1,sfx_at hl (show a+m<xs.length by omega),mdR,pP]
  rw[<-Nat.add_assoc];grind
variable (p:Nat) [Lean.Grind.IsCharP R p]
theorem Wd(x:Int):(cR (x%(p:Int)):R)=cR x:=Lean.Grind.IsCharP.intCast_emod p x
theorem cR_ext{x y:Int}:(cR x:R)=cR y↔x%(p:Int)=y%(p:Int):=Lean.Grind.IsCharP.intCast_ext_iff p
theorem cR_ho(x:Int)(ns:List Int): ∀k,k<=ns.length->(cR (hoN p x ns k):R)=evPR ((ns.drop (ns.length -k)).map cR) (cR x)
 | 0,h=>by rw[hoN,Nat.sub_zero,List.drop_length,List.map_nil,evPR,cR_0]
 | k+1,h=>by
  have hi:ns.length -(k+1)<ns.length:=Z1
  rw[hoN,Wd,cR_add,Wd,Uh,cR_ho x ns k Z1,List.drop_eq_getElem_cons hi,List.map_cons,evPR,show ns.length -(k+1)+1=ns.length -k by omega,show ns.length -1 -k=ns.length -(k+1) by omega]
  rw[show ns.getD (ns.length -(k+1)) 0=ns[ns.length -(k+1)] by simp[List.getElem?_eq_getElem hi]]
  grind
theorem cR_hoN(x:Int)(ns:List Int):(cR (hoN p x ns ns.length):R)=evPR (ns.map cR) (cR x):=by
 have:=cR_ho (R:=R) p x ns ns.length (Nat.le_refl _)
 rwa [Nat.sub_self,List.drop_zero] at this
theorem cR_ah(t:Int)(xs:List Int): ∀k,(cR (ahN p t xs k):R)=preR xs k (cR t)
 | 0=>by rw[ahN,preR,cR_1]
 | k+1=>by rw[ahN,preR,Wd,Uh,Wd,cR_sub,cR_ah t xs k]
theorem cR_bh{xs vs:List Int}(hl:vs.length=xs.length)(t:Int): ∀k,k<=xs.length->(cR (bhN p t xs k):R)=pP (cR t) (sfx xs vs (xs.length -k))
 | 0,_=>by rw[bhN,Nat.sub_zero,sfx_end hl,pP,cR_1]
 | k+1,h=>by
  rw[bhN,Wd,Uh,Wd,cR_sub,cR_bh hl t k Z1,sfx_at hl (show xs.length -(k+1)<xs.length by omega),pP,show xs.length -(k+1)+1=xs.length -k by omega,show xs.length -1 -k=xs.length -(k+1) by omega]
  grind
theorem cR_fac{xs vs:List Int}(hl:vs.length=xs.length)(t:Int){i:Nat}(hi:i<xs.length):(cR ((fac p t xs vs).getD i 0):R)=cR (vs.getD i 0)*(preR xs i (cR t)*pP (cR t) (sfx xs vs (i+1))):=by
 rw[fac_get hi,Wd,Uh,Wd,Uh,cR_ah,cR_bh p hl t _ Z1,show xs.length -(xs.length -1 -i)=i+1 by omega];grind
end ring
theorem hoN_rng{q:Int}(hq:0<q){x:Int}{ns:List Int}: ∀k,0<=hoN q x ns k/\hoN q x ns k<q
 | 0=>⟨Int.le_refl _,hq⟩
 | k+1=>⟨Int.emod_nonneg _ Z1,Int.emod_lt_of_pos _ hq⟩
theorem fac_rng{q:Int}(hq:0<q){t:Int}{xs vs:List Int}{i:Nat}(hi:i<xs.length):0<=(fac q t xs vs).getD i 0/\(fac q t xs vs).getD i 0<q:=by
 rw[fac_get hi];exact⟨Int.emod_nonneg _ Z1,Int.emod_lt_of_pos _ hq⟩
end
end
section
open Go.RowKit
section
theorem nrCompareP(n m:Int)(w:World)(hn:In n)(hm:In m):CC 43 #[NV n,NV m] w (iI (cmpI n m)):=by
 have k:=V5 _ _ _ _ _ _ _ _ w (W_D0 n) (W_D1 n) (W_D2 n) (W_D3 n) (W_D0 m) (W_D1 m) (W_D2 m) (W_D3 m)
 simp only[V_In hn,V_In hm] at k
 exact k
theorem bdNk(k:Int)(h0:0<=k)(h1:k<18446744073709551616)(w:World):(Instr.build 24 [(0,iU k)].toArray).run Tryz.prog w= .ok (NV k) w:=by
 rw[Xz h0 h1];kernel_rfl
theorem leq_p(p q:Operand)(x y:Int)(b:Bool)(w:World)(h:decide (x<=y)=b):(do eqGuard .leq 3 p q (iI x) (iI y);binOp .leq 3 (iI x) (iI y):Sem Value).run Tryz.prog w= .ok (.bool b) w:=by
 subst h;go_simp
def pwN(q x:Int):Nat->Int
 | 0=>1
 | k+1=>(pwN q x k*x)%q
def suN(q x:Int)(ns:List Int):Nat->Int
 | 0=>0
 | k+1=>(suN q x ns k+(ns.getD k 0*pwN q x k)%q)%q
theorem pwN_In{q x:Int}(hq:In q)(hq0:q≠0): ∀k,In (pwN q x k)
 | 0=>In_1
 | k+1=>Zt hq hq0
theorem suN_In{q x:Int}{ns:List Int}(hq:In q)(hq0:q≠0): ∀k,In (suN q x ns k)
 | 0=>In_0
 | k+1=>Zt hq hq0
section ring
variable {R:Type} [Lean.Grind.CommRing R] (p:Nat) [Lean.Grind.IsCharP R p]
theorem su_go(x:Int)(ns:List Int): ∀k,k<=ns.length->(cR (suN p x ns k):R)+cR (pwN p x k)*evPR ((ns.drop k).map cR) (cR x)=evPR (ns.map cR) (cR x)
 | 0,_=>by rw[suN,pwN,cR_0,cR_1,List.drop_zero];grind
 | k+1,h=>by
  have hk:k<ns.length:=Z1
  rw[<-su_go x ns k Z1,suN,pwN,Wd,cR_add,Wd,Uh,Wd,Uh,List.drop_eq_getElem_cons hk,List.map_cons,evPR]
  rw[show ns.getD k 0=ns[k] by simp[List.getElem?_eq_getElem hk]]
  grind
end ring
theorem su_ho{q:Int}(hq:2<=q)(x:Int)(ns:List Int):suN q x ns ns.length=hoN q x ns ns.length:=by
 obtain⟨p,rfl⟩: ∃p:Nat,q=(p:Int):=⟨q.toNat,Z1⟩
 have:NeZero p:=⟨Z1⟩
 have e:=su_go (R:=Fin p) p x ns ns.length (Nat.le_refl _)
 rw[List.drop_length,List.map_nil,evPR,<-cR_hoN] at e
 have e2:(cR (suN p x ns ns.length):Fin p)=cR (hoN p x ns ns.length):=by rw[<-e];grind
 rw[cR_ext p] at e2
 have r1: ∀k,0<=suN p x ns k/\suN p x ns k<p:=fun k=>by
  cases k with
  | zero=>exact⟨Int.le_refl _,by show (0:Int)<p;omega⟩
  | succ k=>exact⟨Int.emod_nonneg _ Z1,Int.emod_lt_of_pos _ Z1⟩
 have r2:=hoN_rng (q:=p) Z1 (x:=x) (ns:=ns) ns.length
 rwa [Int.emod_eq_of_lt (r1 _).1 (r1 _).2,Int.emod_eq_of_lt r2.1 r2.2] at e2
theorem ent_cmpT:EnT 43:=fun _ _=>by kernel_rfl
theorem W8:EnT 81:=fun _ _=>by kernel_rfl
theorem Wl:EnT 82:=fun _ _=>by kernel_rfl
theorem right_core(q:Int)(b:Bool)(w:World)(hq:In q)(hb:decide (0<=cmpI q 2)=b):
 CC 81 #[NV q] w (.bool b):=by
 go_enter Tryz.func81,Tryz.ntmps81
 go_upto_region 1 with fail
 obtain⟨v0,hC,HB0,K0⟩:=bx1 w (LN q) 24
 rw[hC]
 clear hC
 refine Rp K0 HB0 [] [] (cG 0 3 [_,_,_,_] [(4,2,_)]) [] [] [false] (Oc5 (g_ld 0 uN iN) (g_bd (fun uZ=>bdNk 2 Z1 Z1 uZ)) (g_cl ent_cmpT (fun uZ=>nrCompareP q 2 uZ hq ⟨Z2,Z2⟩)) (g_bn (fun uZ=>Xm _ _ (cmpI q 2) 0 _ uZ hb)) g_as) fun u1 HB1 _ K1=>?_
 simp only[sQ] at K1⊢
 go_wp2
 refine bodyPost_ret (v:= .bool b) (by simp[results,Tryz.results81,go_sem,]) rfl ⟨rfl,HB1⟩
theorem xRight(q:Int)(w:World)(hq:In q):CC 81 #[NV q] w (.bool (decide (2<=q))):=
 right_core q _ w hq (by unfold cmpI;by_cases h:2<=q<;>simp[h]<;>(repeat' split)<;>omega)
theorem many_t(n:Nat)(w:World)(hn:n<=256)(hc:decide ((1:Int)<=(n:Int))=true):
 CC 82 #[iI (n:Int)] w (.bool true):=by
 have hc2:decide ((n:Int)<=256)=true:=by simp;omega
 go_enter Tryz.func82,Tryz.ntmps82
 have HB0:Bw w w:=Below.refl _ _
 have K0_1:=Bk.nil (w.heap.size) w
 go_upto_region 1 with fail
 refine Rn K0_1 HB0 (cG 0 3 [_,_,_,_,_,_] [(6,2,_)]) (Oc7 g_mv (g_bn (fun uZ=>Xm _ _ (n:Int) 1 _ uZ hc)) g_mv g_mv (g_bn (fun uZ=>leq_p _ _ (n:Int) 256 _ uZ hc2)) g_pk g_as) fun u1 HB1 _ K1=>?_
 simp only[sQ] at K1⊢
 go_wp2
 refine bodyPost_ret (v:= .bool true) (by simp[results,Tryz.results82,go_sem,]) rfl ⟨rfl,HB1⟩
theorem many_f(n:Nat)(w:World)(hn:n<=256)(hc:decide ((1:Int)<=(n:Int))=false):
 CC 82 #[iI (n:Int)] w (.bool false):=by
 have hc2:decide ((n:Int)<=256)=true:=by simp;omega
 go_enter Tryz.func82,Tryz.ntmps82
 have HB0:Bw w w:=Below.refl _ _
 have K0_1:=Bk.nil (w.heap.size) w
 go_upto_region 1 with fail
 refine Rn K0_1 HB0 (cG 0 3 [_,_,_,undef,undef,_] [(6,2,_)]) (Oc7 g_mv (g_bn (fun uZ=>Xm _ _ (n:Int) 1 _ uZ hc)) g_mv g_sk g_sk g_pk g_as) fun u1 HB1 _ K1=>?_
 simp only[sQ] at K1⊢
 go_wp2
 refine bodyPost_ret (v:= .bool false) (by simp[results,Tryz.results82,go_sem,]) rfl ⟨rfl,HB1⟩
theorem xMany(n:Nat)(w:World)(hn:n<=256):CC 82 #[iI (n:Int)] w (.bool (decide (1<=n))):=by
 by_cases h:1<=n
 ·rw[decide_eq_true h];exact many_t n w hn (by simp;omega)
 ·rw[decide_eq_false h];exact many_f n w hn (by simp;omega)
theorem xEval_ok(q x:Int)(sl:Option Addr)(gb go cap:Nat)(ns:List Int)(w:World)(hq:In q)(hq0:q≠0)(hx:In x)(hix:Hid (∀j,j<ns.length-> ∀W,(Instr.indexAt 31 (.slice sl ns.length cap) (iI j)).run Tryz.prog W= .ok (.pointer (some ⟨gb,go+4*j,none⟩)) W))(hg:ns.length=0\/gb<w.heap.size)(hS:Hid (SN w gb go ns))(hn:Hid (∀k,k<ns.length->In (ns.getD k 0)))(hns:ns.length<=1000)(hR:Hid (∀u,CC 81 #[NV q] u (.bool true)))(hM:Hid (∀u,CC 82 #[iI (ns.length:Int)] u (.bool true))):
 CC 57 #[NV q,.slice sl ns.length cap,NV x] w (.tuple #[NV (suN q x ns ns.length),iI 0]):=by
 go_enter Tryz.func57,Tryz.ntmps57
 go_upto_region 1 with fail
 obtain⟨v0,hC,HB0,K0⟩:=bx3 w (LN q) 24 (LN x) 24 L0s 24
 rw[hC]
 clear hC
 refine Rn K0 HB0 (cG 0 13 [_,_,_,_,_,_,_,_,_] []) (Oc9 (g_ld 0 uN iN) (g_cl W8 hR.out) (g_un Xe) g_mv g_mv (g_ln Tryz.underlying31) (g_cl Wl hM.out) (g_un Xe) g_pk) fun u1 HB1 _ K1=>?_
 simp only[sQ] at K1⊢
 go_upto_region 3 with fail
 refine Rp K1 HB1 [] [(2,8,L0s,some (4,[iU (0),iU (0),iU (0),iU (0)])),(3,9,L0s,some (5,LN 1))] [(0,23,_),(1,24,_)] [(4,2),(5,3)] [] [] (Oc6 (g_bd zN) (g_bd (fun uZ=>bdNk 1 Z1 Z1 uZ)) (g_al 0 aN) (g_al 1 aN) (g_sn 0 iN) (g_sn 1 iN)) fun u2 b2_2 b2_3 HB2 _ K2=>?_
 simp only[sQ] at K2⊢
 go_upto_region 4 with fail
 refine Rn K2 HB2 [(0,10,_)] (Oc1 g_as) fun u3 HB3 _ K3=>?_
 simp only[sQ] at K3⊢
 have hz0:NV 0=A4 0 0 0 0:=NV_0
 go_wp2_with fail
 go_loopw [10] (fun s10 wr=> ∃(k:Nat),k<=ns.length/\s10=iI (k:Int)/\Bw w wr/\CV wr (w.heap.size) (LN q)/\w.heap.size<wr.heap.size/\CV wr (w.heap.size+1) (LN x)/\w.heap.size+1<wr.heap.size/\CV wr (w.heap.size+1+1) (L0s)/\w.heap.size+1+1<wr.heap.size/\CV wr b2_2 (LN (suN q x ns k))/\b2_2<wr.heap.size/\CV wr b2_3 (LN (pwN q x k))/\b2_3<wr.heap.size) (fun s10 _=>ns.length -(intOf s10).toNat)
 case atStart=>exact⟨0,Z1,rfl,HB3,(K3.cv 0),(K3.lt 0),(K3.cv 1),(K3.lt 1),(K3.cv 2),(K3.lt 2),by rw[suN];rw[LN_0];exact(K3.cv 3),(K3.lt 3),(K3.cv 4),(K3.lt 4)⟩
 case round=>
  obtain⟨k,hk,rfl,HBr,C0,lC0,C1,lC1,C2,lC2,C3,lC3,C4,lC4⟩:=hrel
  have hnK:=K3.n
  simp at hnK
  have hoK3:=K3.lo 3
  have hoK4:=K3.lo 4
  by_cases hj:k<ns.length
  ·have hl:decide ((k:Int)<(ns.length:Int))=true:=by simp;omega
   have iy:=hn.out _ hj
   have hX:=hix.out _ hj
   have hX:Hid _:=hX
   have hRr:=hS.out.at _ hj
   have hRr:Hid _:=hRr
   have is:=suN_In (x:=x) (ns:=ns) hq hq0 k
   have ip:=pwN_In (x:=x) hq hq0 k
   have e1:Hid (suN q x ns (k+1)=(suN q x ns k+(ns.getD k 0*pwN q x k)%q)%q):=rfl
   have e2:Hid (pwN q x (k+1)=(pwN q x k*x)%q):=rfl
   obtain⟨y,ey⟩:=Z3 (ns.getD k 0)
   rw[ey] at iy hRr e1
   clear ey
   obtain⟨s,es⟩:=Z3 (suN q x ns k)
   rw[es] at is e1 C3
   clear es
   obtain⟨z,ez⟩:=Z3 (pwN q x k)
   rw[ez] at ip e1 e2 C4
   clear ez
   have K3_1:Bk w.heap.size wr [(false,w.heap.size,LN q),(false,w.heap.size+1,LN x),(true,w.heap.size+1+1,L0s),(true,b2_2,LN s),(true,b2_3,LN z)]:=⟨.c lC0 C0<| .c lC1 C1<| .o lC2 (K3.lo 2) C2<| .o lC3 (K3.lo 3) C3<| .o lC4 (K3.lo 4) C4<|trivial,by simp<;>omega⟩
   go_upto_region 5 with fail
   refine Rn K3_1 HBr (cG 0 25 [_,_,_,_] []) (Oc4 g_mv g_mv (g_ln Tryz.underlying31) (g_bn (fun uZ=>Za _ _ (k:Int) (ns.length:Int) _ uZ hl))) fun u4 HB4 sz4 K4=>?_
   simp only[sQ] at K4⊢
   go_upto_region 7 with fail
   refine Rd K4 HB4 [] [(10,11,L0s,some (11,LN (y*z%q)))] (cG 0 32 [_,_,_,_,_,_,_] [(7,31,_),(8,39,_),(9,40,_),(12,12,_)]) [(11,10)] [] [] (Od8 g_mv g_mv (g_ix hX.out) (g_lf hRr.out (hg.resolve_left Z1) uN iN) (g_ld 4 uN iN) (g_ld 0 uN iN) (g_cl Zh (fun uZ=>xMul y z q uZ iy ip hq hq0)) g_mv<|Oc5 g_ex g_ex (g_al 0 aN) (g_sn 0 iN) g_as) fun u5 b5_10 HB5 sz5 K5=>?_
   simp only[sQ] at K5⊢
   go_upto_region 8 with fail
   refine Rp K5 HB5 [.no,.no,.no,.all 7 (LN ((s+y*z%q)%q))] [] (cG 0 42 [_,_,_,_] [(4,41,_),(5,46,_),(6,47,_)]) [(7,0)] [] [true,true,true,true,true,false] (Oc8 (g_ld 3 uN iN) (g_ld 5 uN iN) (g_ld 0 uN iN) (g_cl Ww (fun uZ=>xAdd s (y*z%q) q uZ is (Zt hq hq0) hq hq0)) g_mv g_ex g_ex (g_st 3 iN)) fun u6 HB6 _ K6=>?_
   simp only[sQ] at K6⊢
   go_upto_region 9 with fail
   refine Rp K6 HB6 [.no,.no,.no,.no,.all 7 (LN (z*x%q))] [] (cG 0 49 [_,_,_,_] [(4,48,_),(5,53,_),(6,54,_)]) [(7,0)] [] [] (Oc8 (g_ld 4 uN iN) (g_ld 1 uN iN) (g_ld 0 uN iN) (g_cl Zh (fun uZ=>xMul z x q uZ ip hx hq hq0)) g_mv g_ex g_ex (g_st 4 iN)) fun u7 HB7 _ K7=>?_
   simp only[sQ] at K7⊢
   go_upto_region 6 with fail
   refine Rp K7 HB7 [] [] [(0,29,_),(1,30,_),(2,10,_)] [(2,0)] [(2,10)] [] (Oc3 g_mv (g_bn (fun uZ=>Zu _ _ (k:Int) 1 ((k+1:Nat):Int) uZ Z1 Z1 Z1)) g_as) fun u8 HB8 _ K8=>?_
   simp only[sQ] at K8⊢
   go_wp2
   refine⟨⟨k+1,Z1,rfl,HB8,(K8.cv 0),(K8.lt 0),(K8.cv 1),(K8.lt 1),(K8.cv 2),(K8.lt 2),by rw[e1.out];exact(K8.cv 3),(K8.lt 3),by rw[e2.out];exact(K8.cv 4),(K8.lt 4)⟩,?_⟩
   simp[intOf]<;>omega
  ·have hl:decide ((k:Int)<(ns.length:Int))=false:=by simp;omega
   have hkn:k=ns.length:=Z1
   have K3_1:Bk w.heap.size wr [(false,w.heap.size,LN q),(false,w.heap.size+1,LN x),(true,w.heap.size+1+1,L0s),(true,b2_2,LN (suN q x ns k)),(true,b2_3,LN (pwN q x k))]:=⟨.c lC0 C0<| .c lC1 C1<| .o lC2 (K3.lo 2) C2<| .o lC3 (K3.lo 3) C3<| .o lC4 (K3.lo 4) C4<|trivial,by simp<;>omega⟩
   go_upto_region 5 with fail
   refine Rn K3_1 HBr (cG 0 25 [_,_,_,_] []) (Oc4 g_mv g_mv (g_ln Tryz.underlying31) (g_bn (fun uZ=>Za _ _ (k:Int) (ns.length:Int) _ uZ hl))) fun u4 HB4 sz4 K4=>?_
   simp only[sQ] at K4⊢
   go_upto_region 10 with fail
   refine Rp K4 HB4 [.no,.no,.all 1 (LN (suN q x ns k))] [] [(0,55,_),(2,7,_)] [] [] [] (Oc3 (g_ld 3 uN iN) (g_st 2 iN) g_as) fun u5 HB5 sz5 K5=>?_
   simp only[sQ] at K5⊢
   have c6:=(K5.cv 2).n4
   go_wp2
   refine bodyPost_ret (v:= .tuple #[NV (suN q x ns k),iI 0]) (by simp[results,Tryz.results57,go_sem,c6]) rfl ⟨by rw[hkn],HB5⟩
theorem xEvalK(q x:Int)(ns:List Int)(v:Value)(w:World)(hq:In q)(hx:In x)(hv:NL w v ns)(hns: ∀z∈ns,In z)(hl:ns.length<=256)(hq2:2<=q)(h1:1<=ns.length):
 CC 57 #[NV q,v,NV x] w (.tuple #[NV (hoN q x ns ns.length),iI 0]):=by
 obtain⟨sl,gb,go,cap,rfl,h2,h3,h4,h5,h6⟩:=hv
 have hR:=fun u=>xRight q u hq
 rw[decide_eq_true hq2] at hR
 have hM:=fun u=>xMany ns.length u hl
 rw[decide_eq_true h1] at hM
 have h:=xEval_ok q x sl gb go cap ns w hq Z1 hx (NL.ix (u:=w) h4) h5 h6 (Yb hns) Z1 hR hM
 rw[su_ho hq2] at h
 exact h
end
def StR(n f a:Int):Prop:=n%2=1/\3<=n/\2<=f/\(n -1)%f=0/\(n -1)/f<f/\a^(n -1).toNat%n=1/\gI ((a^((n -1)/f).toNat%n -1)%n) n=1
open Classical in
noncomputable def stB (n f a:Int):Bool:=decide (StR n f a)
theorem stB_iff{n f a:Int}:stB n f a=true↔StR n f a:=by simp[stB]
theorem cmp_ge(n m:Int):decide (0<=cmpI n m)=decide (m<=n):=by
 unfold cmpI;rw[Bool.eq_iff_iff];simp;split
 ·simp;omega
 ·split<;>simp<;>omega
theorem StR.pr{n f a:Int}(h:StR n f a)(ha:0<=a)(hf:Pr f.toNat):Pr n.toNat:=by
 obtain⟨h1,h2,h3,h4,h5,h6,h7⟩:=h
 obtain⟨N,rfl⟩: ∃N:Nat,n=N:=⟨n.toNat,Z1⟩
 obtain⟨F,rfl⟩: ∃F:Nat,f=F:=⟨f.toNat,Z1⟩
 obtain⟨A,rfl⟩: ∃A:Nat,a=A:=⟨a.toNat,Z1⟩
 have e1:((N:Int) -1)=((N -1:Nat):Int):=Z1
 have eq:((N:Int) -1)/F=(((N -1)/F:Nat):Int):=by rw[e1,Int.natCast_ediv]
 rw[eq] at h5 h7
 rw[e1] at h4 h6
 simp only[Int.toNat_natCast] at h6 h7 hf⊢
 have k4:(N -1)%F=0:=by
  have:(((N -1)%F:Nat):Int)=0:=by rw[Int.natCast_emod];exact h4
  omega
 have k6:A^(N -1)%N=1:=by
  have:((A^(N -1)%N:Nat):Int)=1:=by rw[Int.natCast_emod,Int.natCast_pow];exact h6
  omega
 have k5:(N -1)/F<F:=Z1
 obtain⟨x,hx⟩: ∃x:Nat,(((A:Int)^((N -1)/F)%N -1)%N)=x:=⟨_,(Int.toNat_of_nonneg (Int.emod_nonneg _ Z1)).symm⟩
 rw[hx] at h7
 have xl:x<N:=by
  have:=Int.emod_lt_of_pos ((A:Int)^((N -1)/F)%N -1) (show (0:Int)<N by omega)
  omega
 have k7:Nat.gcd x N=1:=by
  unfold gI at h7;simp only[Int.toNat_natCast] at h7;omega
 have kx:(x+1)%N=A^((N -1)/F)%N:=by
  have:(((x+1)%N:Nat):Int)=((A^((N -1)/F)%N:Nat):Int):=by
   rw[Int.natCast_emod,Int.natCast_emod,Int.natCast_pow,Int.natCast_add,<-hx]
   show ((((A:Int)^((N -1)/F)%N -1)%N)+1)%N=_
   rw[Int.emod_add_emod,Int.sub_add_cancel,Int.emod_emod]
  omega
 have hN:N=F*((N -1)/F)+1:=by
  have:=Nat.div_add_mod (N -1) F
  rw[k4] at this
  omega
 exact pock hf hN Z1 k5 k6 (gcd_demand xl kx k7)
abbrev L0c:List Value:=[iU 0,iU 0,iU 0,iU 0,iU 0,iU 0,iU 0,iU 0,iU 0,iU 0,iU 0,iU 0]
theorem al_api_Cert(w:World):(Instr.alloc 131 true (.tuple #[])).run Tryz.prog w= .ok (.pointer (some ⟨w.heap.size,0,none⟩)) (w.alloc (.cells L0c.toArray 131)):=by kernel_rfl
def flC:List (Int×Int×Int)->List Value
 | []=>[]
 | c::r=>CE c.1 c.2.1 c.2.2++flC r
def SCt(w:World)(g o:Nat)(cs:List (Int×Int×Int)):Prop:= ∀j v,(flC cs)[j]?=some v->w.cell? ⟨g,o+j,none⟩=some v
theorem SCt.below{w w':World}{m g o:Nat}{cs:List (Int×Int×Int)}(h:SCt w g o cs)(hb:Below m w w')(hg:g<m):SCt w' g o cs:=fun j v hj=>(hb.cell (p:=⟨g,o+j,none⟩) hg).trans (h j v hj)
theorem SCt.empty{w:World}{g o:Nat}{cs:List (Int×Int×Int)}(h:cs.length=0):SCt w g o cs:=fun j v hj=>by
 have e:cs=[]:=List.eq_nil_of_length_eq_zero h
 subst e;simp[flC] at hj
theorem SCt.below2{w w':World}{m g o:Nat}{cs:List (Int×Int×Int)}(h:SCt w g o cs)(hb:Below m w w')(hg:cs.length=0\/g<m):SCt w' g o cs:=by
 rcases hg with e | hg
 ·exact SCt.empty e
 ·exact h.below hb hg
abbrev cat(cs:List (Int×Int×Int))(j:Nat):Int×Int×Int:=cs.getD j (0,0,0)
theorem flC_get: ∀(cs:List (Int×Int×Int)) (j c:Nat) (v:Value),j<cs.length->(CE (cat cs j).1 (cat cs j).2.1 (cat cs j).2.2)[c]?=some v->(flC cs)[12*j+c]?=some v
 | [],j,c,v,h,_=>by simp at h
 | n::r,0,c,v,h,e=>by
  rw[flC,List.getElem?_append_left]
  ·simpa [cat] using e
  ·have:=(List.getElem?_eq_some_iff.1 e).1
   simpa using this
 | n::r,j+1,c,v,h,e=>by
  rw[flC,List.getElem?_append_right (by simp;omega)]
  have:=flC_get r j c v (by simpa using h) (by simpa [cat] using e)
  simpa [show 12*(j+1)+c -12=12*j+c by omega] using this
theorem SCt.at{w:World}{g o:Nat}{cs:List (Int×Int×Int)}(h:SCt w g o cs)(j:Nat)(hj:j<cs.length):w.rangeAt g (o+12*j) (CE (cat cs j).1 (cat cs j).2.1 (cat cs j).2.2):=fun c v hc=>by
 have:=h (12*j+c) v (flC_get cs j c v hj hc)
 rwa [<-Nat.add_assoc] at this
theorem ixC(g o n cap j:Nat)(h:j<n)(w:World):(Instr.indexAt 127 (.slice (some ⟨g,o,none⟩) n cap) (iI j)).run Tryz.prog w= .ok (.pointer (some ⟨g,o+12*j,none⟩)) w:=by
 have h2:(j:Int)<n:=Z1
 go_simp
noncomputable def knB (cs:List (Int×Int×Int)):Nat->Bool
 | 0=>smB (cat cs 0).2.1
 | k+1=>decide ((cat cs (k+1)).2.1=(cat cs k).1)
noncomputable def crB (cs:List (Int×Int×Int)):Nat->Bool
 | 0=>true
 | k+1=>crB cs k&&(knB cs k&&stB (cat cs k).1 (cat cs k).2.1 (cat cs k).2.2)
noncomputable def cfB (cs:List (Int×Int×Int)):Bool:=crB cs cs.length&&decide (0<cs.length)
end
end Go.Proofs.YtoffgfhilkpdpaaGreatDoor
