import Derived.Test.YtdhlekdohebbbaaGreatDoorRN2
import Derived.Test.YtdhlekdohebbbaaGreatDoorSMU
namespace Go.Proofs.YtdhlekdohebbbaaGreatDoor
set_option linter.unusedVariables false
set_option linter.unusedSimpArgs false
set_option maxRecDepth 100000
set_option maxHeartbeats 4000000
section
theorem div_dg{N D:Nat}(p:Nat)(hD:0<D):(N/18446744073709551616^(p+1)%D*18446744073709551616+dgq N p)/D=dgq (N/D) p/\(N/18446744073709551616^(p+1)%D*18446744073709551616+dgq N p)%D=N/18446744073709551616^p%D:=by
 obtain⟨A,eA⟩: ∃A,N/18446744073709551616^p=A:=⟨_,rfl⟩
 have e1:N/18446744073709551616^(p+1)=A/18446744073709551616:=by rw[Nat.pow_succ,<-Nat.div_div_eq_div_mul,eA]
 have e2:dgq (N/D) p=A/D%18446744073709551616:=by unfold dgq;rw[Nat.div_div_eq_div_mul,Nat.mul_comm,<-Nat.div_div_eq_div_mul,eA]
 have e3:dgq N p=A%18446744073709551616:=by unfold dgq;rw[eA]
 rw[e1,e2,e3,eA]
 have h1:=Nat.div_add_mod A 18446744073709551616
 have h2:=Nat.div_add_mod (A/18446744073709551616) D
 have h3:A=(A/18446744073709551616%D*18446744073709551616+A%18446744073709551616)+D*(A/18446744073709551616/D*18446744073709551616):=by
  rw[show D*(A/18446744073709551616/D*18446744073709551616)=D*(A/18446744073709551616/D)*18446744073709551616 by grind]
  omega
 obtain⟨Z,eZ⟩: ∃Z,A/18446744073709551616%D*18446744073709551616+A%18446744073709551616=Z:=⟨_,rfl⟩
 rw[eZ] at h3⊢
 have hZ:Z<D*18446744073709551616:=by
  have:=Nat.mod_lt (A/18446744073709551616) hD
  have:=Nat.mod_lt A (show 0<18446744073709551616 by decide)
  have h5:(A/18446744073709551616%D+1)*18446744073709551616<=D*18446744073709551616:=Nat.mul_le_mul_right _ (by omega)
  omega
 have h6:A/D=Z/D+A/18446744073709551616/D*18446744073709551616:=by
  conv=>lhs;rw[h3]
  rw[Nat.add_mul_div_left _ _ hD]
 refine⟨?_,?_⟩
 ·rw[h6,Nat.add_mul_mod_self_right,Nat.mod_eq_of_lt (Nat.div_lt_of_lt_mul hZ)]
 ·conv=>rhs;rw[h3]
  rw[Nat.add_mul_mod_self_left]
def dnD(m n:Nat):Nat->List Nat
 | 0=>List.replicate m 0
 | i+1=>(dnD m n i).set (m -1 -i) (dgq n (m -1 -i))
theorem Uz(m n:Nat): ∀i,(dnD m n i).length=m
 | 0=>List.length_replicate ..
 | i+1=>by rw[dnD,List.length_set];exact Uz m n i
theorem dnD_get(m n:Nat): ∀i,i<=m-> ∀j,j<m->m<=i+j->(dnD m n i).getD j 0=dgq n j
 | 0,_,j,h1,h2=>by omega
 | i+1,h,j,h1,h2=>by
  rw[dnD,Wt _ _ _ _ (by rw[Uz];omega)]
  by_cases e:j=m -1 -i
  ·rw[if_pos e,e]
  ·rw[if_neg e];exact dnD_get m n i (by omega) j h1 (by omega)
theorem dnD_all(m n:Nat):dnD m n m=dgs m n:=list_ext (n:=m) (Uz _ _ _) (Xj _ _) fun j hj=>by rw[dnD_get m n m (Nat.le_refl _) j hj (by omega),Yx hj]
theorem dgs_pre{k m n j x:Nat}(h:k<=m)(hj:(dgs k n)[j]?=some x):(dgs m n)[j]?=some x:=by
 unfold dgs at *
 rw[List.getElem?_map] at *
 by_cases hk:j<k
 ·rw[List.getElem?_range hk] at hj;rw[List.getElem?_range (by omega)];exact hj
 ·rw[List.getElem?_eq_none (by simp;omega)] at hj;cases hj
theorem dgt_div(n a j:Nat):dgq (n/18446744073709551616^a) j=dgq n (a+j):=by unfold dgq;rw[Nat.div_div_eq_div_mul,<-Nat.pow_add]
theorem dgs_suf{k a m n j x:Nat}(h:a+k<=m)(hj:(dgs k (n/18446744073709551616^a))[j]?=some x):(dgs m n)[a+j]?=some x:=by
 unfold dgs at *
 rw[List.getElem?_map] at *
 by_cases hk:j<k
 ·rw[List.getElem?_range hk] at hj;rw[List.getElem?_range (by omega)]
  rw[Option.map_some,dgt_div] at hj;exact hj
 ·rw[List.getElem?_eq_none (by simp;omega)] at hj;cases hj
end
section
open Go.RowKit
def In(n:Int):Prop:=0<=n/\n<0x10000000000000000000000000000000000000000000000000000000000000000
def InW(n:Int):Prop:=0<=n/\n<0x10000000000000000000000000000000000000000000000000000000000000000*0x10000000000000000000000000000000000000000000000000000000000000000
def ovB(a b:Int):Bool:=decide (0x10000000000000000000000000000000000000000000000000000000000000000<=a+b)
def ltB(a b:Int):Bool:=decide (a<b)
theorem V_In{n:Int}(h:In n):V (D0 n) (D1 n) (D2 n) (D3 n)=n:=by rw[V_D];unfold In at h;omega
theorem In_V{a b c d:Int}(ha:W64 a)(hb:W64 b)(hc:W64 c)(hd:W64 d):In (V a b c d):=V_bd a b c d ha hb hc hd
theorem NV_V{a b c d:Int}(ha:W64 a)(hb:W64 b)(hc:W64 c)(hd:W64 d):NV (V a b c d)=A4 a b c d:=by
 obtain⟨h0,h1,h2,h3,_⟩:=D_of (V a b c d) a b c d 0 ha hb hc hd (by omega)
 rw[NV,h0,h1,h2,h3]
theorem In.wide{n:Int}(h:In n):InW n:=by unfold In at h;unfold InW;omega
theorem In_mul{a b:Int}(ha:In a)(hb:In b):InW (a*b):=by
 refine⟨Int.mul_nonneg ha.1 hb.1,?_⟩
 have k1:=Int.mul_le_mul_of_nonneg_right (a:=a) (b:=0x10000000000000000000000000000000000000000000000000000000000000000 -1) (by have:=ha.2;omega) hb.1
 have:=hb.2;omega
theorem Y9{n m:Int}(hm:In m)(h:m≠0):In (n%m):=by
 have h0:=hm.1
 exact⟨Int.emod_nonneg _ h,by have:=Int.emod_lt_of_pos n (show 0<m by omega);have:=hm.2;omega⟩
theorem WV_In{n:Int}(h:In n):WV n=A8 (D0 n) (D1 n) (D2 n) (D3 n) 0 0 0 0:=by
 have e:D4 n=0:=by unfold D4;unfold In at h;omega
 rw[WV,e];rfl
theorem nAdd(a b:Int)(w:World)(ha:In a)(hb:In b):CC 115 #[NV a,NV b] w (.tuple #[NV (a+b),.bool (ovB a b)]):=by
 have k:=Add_any _ _ _ _ _ _ _ _ w (W_D0 a) (W_D1 a) (W_D2 a) (W_D3 a) (W_D0 b) (W_D1 b) (W_D2 b) (W_D3 b)
 simp only[V_In ha,V_In hb] at k
 have e:(D4 (a+b)==1)=ovB a b:=by
  unfold In at ha hb;unfold ovB D4;rw[Bool.eq_iff_iff];simp;omega
 rw[e] at k
 exact k
theorem nSub(a b:Int)(w:World)(ha:In a)(hb:In b):CC 107 #[NV a,NV b] w (.tuple #[NV (a -b),.bool (ltB a b)]):=by
 have k:=Sub_any _ _ _ _ _ _ _ _ w (W_D0 a) (W_D1 a) (W_D2 a) (W_D3 a) (W_D0 b) (W_D1 b) (W_D2 b) (W_D3 b)
 simp only[V_In ha,V_In hb] at k
 have e:(-D4 (a -b)==1)=ltB a b:=by
  unfold In at ha hb;unfold ltB D4;rw[Bool.eq_iff_iff];simp;omega
 rw[e] at k
 exact k
theorem V5(n:Int)(w:World)(hn:In n):CC 47 #[NV n] w (WV n):=by
 rw[WV_In hn];exact Widen_any _ _ _ _ w
theorem ln_u(n:Nat):LN (n:Int)=U64 (dgs 4 n):=by
 unfold LN D0 D1 D2 D3
 simp only[dgs,dgq,U64,List.range,List.range.loop,List.map_cons,List.map_nil]
 simp
theorem wv_u(n:Nat):LW (n:Int)=U64 (dgs 8 n):=by
 unfold LW D0 D1 D2 D3 D4
 simp only[dgs,dgq,U64,List.range,List.range.loop,List.map_cons,List.map_nil]
 simp
 omega
theorem U64_mono{l m:List Nat}{i j:Nat}(h: ∀x,l[i]?=some x->m[j]?=some x){v:Value}(hv:(U64 l)[i]?=some v):(U64 m)[j]?=some v:=by
 unfold U64 at *
 rw[List.getElem?_map] at *
 obtain⟨x,hx,rfl⟩:=Option.map_eq_some_iff.1 hv
 rw[h x hx];rfl
theorem bdQ(d0 d1 d2 d3:Int)(u:World):(Instr.build 24 ([0,1,2,3].zip [iU d0,iU d1,iU d2,iU d3]).toArray).run Tryz.prog u= .ok (A4 d0 d1 d2 d3) u:=by kernel_rfl
theorem mul_dg(a b i:Nat):a*(b%18446744073709551616^(i+1))/18446744073709551616^i=a*(b%18446744073709551616^i)/18446744073709551616^i+a*dgq b i:=by
 have e:b%18446744073709551616^(i+1)=b%18446744073709551616^i+18446744073709551616^i*dgq b i:=Nat.mod_pow_succ
 rw[e,Nat.mul_add,show a*(18446744073709551616^i*dgq b i)=18446744073709551616^i*(a*dgq b i) by grind,Nat.add_mul_div_left _ _ (Nat.pow_pos (by decide))]
theorem mul_pd(a b i:Nat):dgq (a*b) i=(a*(b%18446744073709551616^i)/18446744073709551616^i+a*dgq b i)%18446744073709551616:=by
 rw[<-mul_dg]
 unfold dgq
 have h:=Nat.div_add_mod b (18446744073709551616^(i+1))
 conv=>lhs;rw[<-h]
 rw[Nat.mul_add,show a*(18446744073709551616^(i+1)*(b/18446744073709551616^(i+1)))=18446744073709551616^i*(18446744073709551616*(a*(b/18446744073709551616^(i+1)))) by rw[Nat.pow_succ];grind,Nat.mul_add_div (Nat.pow_pos (by decide)),Nat.mul_add_mod]
theorem nMul(a b:Int)(w:World)(ha:In a)(hb:In b):CC 51 #[NV a,NV b] w (WV (a*b)):=by
 obtain⟨a,rfl⟩:=Int.eq_ofNat_of_zero_le ha.1
 obtain⟨b,rfl⟩:=Int.eq_ofNat_of_zero_le hb.1
 have h1:=ha.2
 have h2:=hb.2
 have hU: ∀i,a*(b%18446744073709551616^i)/18446744073709551616^i<=a:=fun i=>Nat.div_le_of_le_mul (by
  rw[Nat.mul_comm];exact Nat.mul_le_mul_right _ (Nat.le_of_lt (Nat.mod_lt _ (Nat.pow_pos (by decide)))))
 have key: ∀i:Nat,∃U x:Nat,a*(b%18446744073709551616^i)/18446744073709551616^i=U/\dgq b i=x/\U<=a/\x<18446744073709551616/\a*x<=a*18446744073709551615:=fun i=>⟨_,_,rfl,rfl,hU i,U5 b i,Nat.mul_le_mul_left _ (by have:=U5 b i;omega)⟩
 rw[show NV (b:Int)= .agg (LN (b:Int)).toArray from rfl,ln_u]
 refine mul_core (a:Int) ((a:Int)*b) (dgs 4 b) (fun i=>((a*(b%18446744073709551616^i)/18446744073709551616^i:Nat):Int)) (fun i=>((a*(b%18446744073709551616^i)/18446744073709551616^i:Nat):Int)+((a*dgq b i:Nat):Int)%0x10000000000000000000000000000000000000000000000000000000000000000) (fun i=>((a*dgq b i:Nat):Int)) (fun i=>D4 ((a*dgq b i:Nat):Int)) (fun i=>D4 (((a*(b%18446744073709551616^i)/18446744073709551616^i:Nat):Int)+((a*dgq b i:Nat):Int)%0x10000000000000000000000000000000000000000000000000000000000000000)) (fun i=>(((a*(b%18446744073709551616^i)/18446744073709551616^i+a*dgq b i)/0x10000000000000000000000000000000000000000000000000000000000000000:Nat):Int)) (dgq (a*b)) (upD 8 (a*b)) w (Xj _ _) rfl ?_ (fun i hi u=>?_) (fun i hi u=>?_) (fun i hi p q u=>?_) (fun i hi u=>?_) (upD_len 8 _) (fun i hi=>rfl) (fun i hi=>?_) ?_ ?_
 ·show ((a*(b%18446744073709551616^0)/18446744073709551616^0:Nat):Int)=0
  rw[Nat.pow_zero,Nat.mod_one,Nat.mul_zero,Nat.zero_div];rfl
 ·rw[Yx hi]
  have k:=scale_any _ _ _ _ ((dgq b i:Nat):Int) u (W_D0 a) (W_D1 a) (W_D2 a) (W_D3 a) ⟨by omega,by have:=U5 b i;omega⟩
  rw[V_In ha,<-Int.natCast_mul] at k
  exact k
 ·obtain⟨U,x,e1,e2,h3,h4,h5⟩:=key i
  rw[e1,e2]
  have k:=add_any _ _ _ _ _ _ _ _ u (W_D0 (U:Int)) (W_D1 (U:Int)) (W_D2 (U:Int)) (W_D3 (U:Int)) (W_D0 ((a*x:Nat):Int)) (W_D1 ((a*x:Nat):Int)) (W_D2 ((a*x:Nat):Int)) (W_D3 ((a*x:Nat):Int))
  rw[V_D ((a*x:Nat):Int),V_In (n:=(U:Int)) ⟨by omega,by omega⟩] at k
  exact k
 ·obtain⟨U,x,e1,e2,h3,h4,h5⟩:=key i
  rw[e1,e2]
  have e:IntKind.u64.wrap (D4 ((a*x:Nat):Int)+D4 ((U:Int)+((a*x:Nat):Int)%0x10000000000000000000000000000000000000000000000000000000000000000))=(((U+a*x)/0x10000000000000000000000000000000000000000000000000000000000000000:Nat):Int):=by
   rw[IntKind.wrap_u64];unfold D4
   obtain⟨y,ey⟩: ∃y,a*x=y:=⟨_,rfl⟩
   rw[ey] at h5⊢
   omega
  go_simp
  exact e
 ·obtain⟨U,x,e1,e2,h3,h4,h5⟩:=key i
  have e3:a*(b%18446744073709551616^(i+1))/18446744073709551616^(i+1)=(U+a*x)/18446744073709551616:=by rw[Nat.pow_succ,<-Nat.div_div_eq_div_mul,<-Nat.pow_succ,mul_dg,e1,e2]
  rw[e1,e2,e3]
  obtain⟨y,ey⟩: ∃y,a*x=y:=⟨_,rfl⟩
  rw[ey] at h5⊢
  have q1:D1 ((U:Int)+(y:Int)%0x10000000000000000000000000000000000000000000000000000000000000000)=D0 (((U+y)/18446744073709551616:Nat):Int):=by unfold D0 D1;omega
  have q2:D2 ((U:Int)+(y:Int)%0x10000000000000000000000000000000000000000000000000000000000000000)=D1 (((U+y)/18446744073709551616:Nat):Int):=by unfold D1 D2;omega
  have q3:D3 ((U:Int)+(y:Int)%0x10000000000000000000000000000000000000000000000000000000000000000)=D2 (((U+y)/18446744073709551616:Nat):Int):=by unfold D2 D3;omega
  have q4:(((U+y)/0x10000000000000000000000000000000000000000000000000000000000000000:Nat):Int)=D3 (((U+y)/18446744073709551616:Nat):Int):=by unfold D3;omega
  rw[q1,q2,q3,q4]
  exact bdQ _ _ _ _ u
 ·obtain⟨U,x,e1,e2,h3,h4,h5⟩:=key i
  rw[mul_pd,e1,e2]
  obtain⟨y,ey⟩: ∃y,a*x=y:=⟨_,rfl⟩
  rw[ey]
  unfold D0;omega
 ·show U64 (upD 8 (a*b) 4)=LN ((a:Int)*b)++Lq
  rw[<-Int.natCast_mul,ln_u]
  obtain⟨y,ey⟩: ∃y,a*b=y:=⟨_,rfl⟩
  rw[ey]
  rfl
 ·show ((a*(b%18446744073709551616^4)/18446744073709551616^4:Nat):Int)=D4 ((a:Int)*b)
  rw[<-Int.natCast_mul,Nat.mod_eq_of_lt (show b<18446744073709551616^4 by omega)]
  obtain⟨y,ey⟩: ∃y,a*b=y:=⟨_,rfl⟩
  rw[ey]
  unfold D4;omega
theorem nStep(r x d:Nat)(w:World)(hx:x<18446744073709551616)(h1:0x8000000000000000000000000000000000000000000000000000000000000000<=d)(h2:d<0x10000000000000000000000000000000000000000000000000000000000000000)(hr:r<d):CC 90 #[NV (r:Int),iU (x:Int),NV (d:Int)] w (.tuple #[iU (((r*18446744073709551616+x)/d:Nat):Int),NV (((r*18446744073709551616+x)%d:Nat):Int)]):=by
 have e1:V (D0 (r:Int)) (D1 (r:Int)) (D2 (r:Int)) (D3 (r:Int))=r:=V_In ⟨by omega,by omega⟩
 have e2:V (D0 (d:Int)) (D1 (d:Int)) (D2 (d:Int)) (D3 (d:Int))=d:=V_In ⟨by omega,by omega⟩
 have k:=step_any _ _ _ _ (x:Int) _ _ _ _ w (W_D0 r) (W_D1 r) (W_D2 r) (W_D3 r) (W_D0 d) (W_D1 d) (W_D2 d) (W_D3 d) ⟨by omega,by omega⟩ (by unfold D3;omega) (by rw[e1,e2];omega)
 rw[e1,e2] at k
 simpa using k
theorem nDivide(n m:Int)(w:World)(hn:InW n)(hm:In m)(h:m≠0):CC 58 #[WV n,NV m] w (.tuple #[WV (n/m),NV (n%m),iI 0]):=by
 obtain⟨N,rfl⟩:=Int.eq_ofNat_of_zero_le hn.1
 obtain⟨M,rfl⟩:=Int.eq_ofNat_of_zero_le hm.1
 have hM:=V_In hm
 obtain⟨u1,u2,u3,u4⟩:=lift_top _ _ _ _ (W_D0 M) (W_D1 M) (W_D2 M) (W_D3 M) (by rw[hM];exact h)
 have hL:=fun u=>Uv _ _ _ _ u (W_D0 M) (W_D1 M) (W_D2 M) (W_D3 M)
 have he0:eq4 (D0 (M:Int)) (D1 (M:Int)) (D2 (M:Int)) (D3 (M:Int)) 0 0 0 0=false:=by
  rw[Bool.eq_false_iff];intro hq
  rw[eq4_iff] at hq
  rw[hq.1,hq.2.1,hq.2.2.1,hq.2.2.2] at hM
  exact h hM.symm
 rw[hM] at u3 u4
 obtain⟨ln,el⟩: ∃ln,blen (D0 (M:Int)) (D1 (M:Int)) (D2 (M:Int)) (D3 (M:Int))=ln:=⟨_,rfl⟩
 rw[el] at u1 u2 u3 u4 hL
 obtain⟨up,eup⟩:=Int.eq_ofNat_of_zero_le u1
 rw[eup] at u2 u3 u4
 obtain⟨D,eD⟩: ∃D,M*2^up=D:=⟨_,rfl⟩
 have eDi:(M:Int)*2^(up:Int).toNat=(D:Int):=by rw[<-eD];simp
 rw[eDi] at u3 u4
 have hN:N<18446744073709551616^8:=by have:=hn.2;omega
 have hM8:M<18446744073709551616^8:=by have:=hm.2;omega
 have hup:up<=255:=by omega
 have hp:2^up<=2^255:=Nat.pow_le_pow_right (by decide) hup
 obtain⟨K,eK⟩: ∃K,N*2^up=K:=⟨_,rfl⟩
 have hK:K/18446744073709551616^8<D:=by
  refine Nat.div_lt_of_lt_mul ?_
  rw[<-eK]
  have h9:N*2^up<18446744073709551616^8*2^up:=Nat.mul_lt_mul_of_pos_right hN (Nat.two_pow_pos up)
  exact Nat.lt_of_lt_of_le h9 (Nat.mul_le_mul_left _ (by omega))
 have hQ:K/D=N/M:=by rw[<-eD,<-eK,Nat.mul_div_mul_right _ _ (Nat.two_pow_pos up)]
 have hR:K%D=N%M*2^up:=by rw[<-eD,<-eK,Nat.mul_mod_mul_right]
 have hK0:K/18446744073709551616^(8 -0)%D=K/18446744073709551616^8:=Nat.mod_eq_of_lt hK
 have hM0:0<M:=by omega
 have hmod:=Nat.mod_lt N hM0
 have hM2:=hm.2
 refine divide_core (N:Int) (M:Int) ln (D:Int) ((N:Int)/M) ((N:Int)%M) up (dgs 12 K) (dgs 12 D) (fun i=>((K/18446744073709551616^(8 -i)%D:Nat):Int)) (fun i=>dgq (K/D) (7 -i)) (dnD 8 (K/D)) w (Xj _ _) (Xj _ _) (by omega) hup (fun p q u=>?_) hL (fun u=>?_) (fun u=>V5 M u hm) (fun u=>?_) (fun j v hj=>?_) (fun j v hj=>?_) (fun i hi u=>?_) (fun u=>?_) rfl (Uz 8 _) (fun i hi=>rfl) ?_
 ·go_simp
 ·rw[show WV (N:Int)= .agg (LW (N:Int)).toArray from rfl,wv_u,<-eK];exact cLift N up u hN hup
 ·rw[show WV (M:Int)= .agg (LW (M:Int)).toArray from rfl,wv_u,<-eD];exact cLift M up u hM8 hup
 ·rw[ln_u] at hj;exact U64_mono (fun x hx=>dgs_pre (by decide) hx) hj
 ·simp only[hK0] at hj
  rw[ln_u] at hj;exact U64_mono (fun x hx=>dgs_suf (by decide) hx) hj
 ·obtain⟨d1,d2⟩:=div_dg (N:=K) (D:=D) (7 -i) (by omega)
  have:=nStep (K/18446744073709551616^(8 -i)%D) ((dgs 12 K).getD (7 -i) 0) D u (dgs_lt _ _ _) (by omega) (by omega) (Nat.mod_lt _ (by omega))
  rw[Yx (by omega)] at this⊢
  rw[show 8 -i=7 -i+1 by omega,d1,d2] at this
  rw[show 8 -(i+1)=7 -i by omega,show 8 -i=7 -i+1 by omega]
  exact this
 ·show Calls Tryz.prog _ #[NV ((K/18446744073709551616^0%D:Nat):Int),_] u _
  rw[Nat.pow_zero,Nat.div_one,hR,show NV ((N%M*2^up:Nat):Int)= .agg (LN ((N%M*2^up:Nat):Int)).toArray from rfl,ln_u]
  have k:=cLower (N%M*2^up) up u (by
   rw[<-hR];have:=Nat.mod_lt K (show 0<D by omega);omega) hup
  rw[Nat.mul_div_cancel _ (Nat.two_pow_pos up),<-ln_u (N%M)] at k
  rw[<-Int.natCast_emod];exact k
 ·show _=_
  rw[dnD_all,hQ,<-wv_u,Int.natCast_ediv]
theorem Vs{k:Int}(h0:0<=k)(h1:k<18446744073709551616):NV k=A4 k 0 0 0:=by
 have e0:D0 k=k:=by unfold D0;omega
 have e1:D1 k=0:=by unfold D1;omega
 have e2:D2 k=0:=by unfold D2;omega
 have e3:D3 k=0:=by unfold D3;omega
 rw[NV,e0,e1,e2,e3]
theorem nOf(k:Int)(w:World)(h0:0<=k)(h1:k<18446744073709551616):CC 12 #[iU k] w (NV k):=by
 rw[Vs h0 h1];exact of_any k w
def wordOf(a b c d i:Int):Int:=if i/64=0 then a else if i/64=1 then b else if i/64=2 then c else d
def bitv(a b c d i:Int):Bool:=decide (0<=i)&&decide (i<256)&&(wordOf a b c d i/2^(i%64).toNat%2==1)
theorem and1(x:Int)(h:W64 x):bits .and .u64 x 1=x%2:=by
 obtain⟨h1,h2⟩:=h
 obtain⟨x,rfl⟩:=Int.eq_ofNat_of_zero_le h1
 have e:=bits_and_u64_nat x 1 (by omega) (by omega)
 have f:x&&&1=x%2:=Nat.and_two_pow_sub_one_eq_mod x 1
 rw[f] at e
 exact e.trans (by omega)
theorem W_shr(x:Int)(n:Nat)(hx:W64 x):W64 (x/2^n):=by
 obtain⟨x1,x2⟩:=hx
 have p:(0:Int)<2^n:=Int.pow_pos (by omega)
 have h1:0<=x/2^n:=Int.ediv_nonneg x1 (by omega)
 have h2:x/2^n<=x:=Int.ediv_le_self _ x1
 exact⟨h1,by omega⟩
theorem bit_out(a b c d i:Int)(w:World)(h:i<0\/256<=i):
 CC 82 #[A4 a b c d,iI i] w (.bool false):=by
 by_cases h0:i<0
 ·go_enter Tryz.func82,Tryz.ntmps82
  go_wp2
  go_ret
  exact⟨rfl,by go_grown⟩
 ·have h1:256<=i:=by omega
  go_enter Tryz.func82,Tryz.ntmps82
  go_wp2
  go_ret
  exact⟨rfl,by go_grown⟩
theorem bit_in0(a b c d i r:Int)(w:World)(hx:W64 a)(h0:0<=i)(h1:i<256)(hk:i/64=0)(hr:i%64=r)(r0:0<=r)(r1:r<=63):
 CC 82 #[A4 a b c d,iI i] w (.bool (a/2^r.toNat%2==1)):=by
 have ha:=and1 _ (W_shr a r.toNat hx)
 go_enter Tryz.func82,Tryz.ntmps82
 go_wp2
 go_ret
 exact⟨rfl,by go_grown⟩
theorem bit_in1(a b c d i r:Int)(w:World)(hx:W64 b)(h0:0<=i)(h1:i<256)(hk:i/64=1)(hr:i%64=r)(r0:0<=r)(r1:r<=63):
 CC 82 #[A4 a b c d,iI i] w (.bool (b/2^r.toNat%2==1)):=by
 have ha:=and1 _ (W_shr b r.toNat hx)
 go_enter Tryz.func82,Tryz.ntmps82
 go_wp2
 go_ret
 exact⟨rfl,by go_grown⟩
theorem bit_in2(a b c d i r:Int)(w:World)(hx:W64 c)(h0:0<=i)(h1:i<256)(hk:i/64=2)(hr:i%64=r)(r0:0<=r)(r1:r<=63):
 CC 82 #[A4 a b c d,iI i] w (.bool (c/2^r.toNat%2==1)):=by
 have ha:=and1 _ (W_shr c r.toNat hx)
 go_enter Tryz.func82,Tryz.ntmps82
 go_wp2
 go_ret
 exact⟨rfl,by go_grown⟩
theorem bit_in3(a b c d i r:Int)(w:World)(hx:W64 d)(h0:0<=i)(h1:i<256)(hk:i/64=3)(hr:i%64=r)(r0:0<=r)(r1:r<=63):
 CC 82 #[A4 a b c d,iI i] w (.bool (d/2^r.toNat%2==1)):=by
 have ha:=and1 _ (W_shr d r.toNat hx)
 go_enter Tryz.func82,Tryz.ntmps82
 go_wp2
 go_ret
 exact⟨rfl,by go_grown⟩
theorem Bit_any(a b c d i:Int)(w:World)(ha:W64 a)(hb:W64 b)(hc:W64 c)(hd:W64 d):
 CC 82 #[A4 a b c d,iI i] w (.bool (bitv a b c d i)):=by
 by_cases h:i<0\/256<=i
 ·have e:bitv a b c d i=false:=by
   unfold bitv;rcases h with h | h
   ·simp;omega
   ·simp;omega
  rw[e];exact bit_out a b c d i w h
 ·have h0:0<=i:=by omega
  have h1:i<256:=by omega
  have hc4:i/64=0\/i/64=1\/i/64=2\/i/64=3:=by omega
  unfold bitv wordOf
  simp only[h0,h1,decide_true,Bool.true_and]
  rcases hc4 with hk | hk | hk | hk
  ·rw[hk];exact bit_in0 a b c d i (i%64) w ha h0 h1 hk rfl (by omega) (by omega)
  ·rw[hk];exact bit_in1 a b c d i (i%64) w hb h0 h1 hk rfl (by omega) (by omega)
  ·rw[hk];exact bit_in2 a b c d i (i%64) w hc h0 h1 hk rfl (by omega) (by omega)
  ·rw[hk];exact bit_in3 a b c d i (i%64) w hd h0 h1 hk rfl (by omega) (by omega)
def lenI(e:Int):Int:=blen (D0 e) (D1 e) (D2 e) (D3 e)
def bitI(e i:Int):Bool:=decide (e/2^i.toNat%2=1)
theorem nLen(e:Int)(w:World):CC 88 #[NV e] w (iI (lenI e)):=
 Uv _ _ _ _ w (W_D0 e) (W_D1 e) (W_D2 e) (W_D3 e)
theorem lenI_bd(e:Int):0<=lenI e/\lenI e<=256:=by
 have a:=Vw _ (W_D0 e);have b:=Vw _ (W_D1 e);have c:=Vw _ (W_D2 e);have d:=Vw _ (W_D3 e)
 unfold lenI blen
 repeat' split
 all_goals omega
theorem bl_lt(x:Int)(h:W64 x)(h0:x≠0):x+1<=2^(bl x).toNat:=by
 obtain⟨h1,h2⟩:=h
 obtain⟨n,rfl⟩:=Int.eq_ofNat_of_zero_le h1
 have:=(V1 64 n (by omega) (by omega) (by omega)).2.2
 unfold bl
 simp only[Int.toNat_natCast]
 have e:((2^Lib.bitLen n:Nat):Int)=(2:Int)^Lib.bitLen n:=by simp
 omega
theorem top_lt(x k:Int)(h:W64 x)(h0:x≠0)(hk:0<=k):(x+1)*2^k.toNat<=2^(k+bl x).toNat:=by
 have hb:=Vw x h
 rw[Int.toNat_add hk hb.1,Int.pow_add,Int.mul_comm]
 exact Int.mul_le_mul_of_nonneg_left (bl_lt x h h0) (Int.le_of_lt (Int.pow_pos (by decide)))
theorem lenI_lt{e:Int}(he:In e):e<2^(lenI e).toNat:=by
 have a:=W_D0 e;have b:=W_D1 e;have c:=W_D2 e;have d:=W_D3 e
 have hv:=V_In he
 have ha:=a;have hb:=b;have hc:=c;have hd:=d
 unfold W64 at a b c d
 unfold lenI blen
 unfold V at hv
 split
 ·have:=top_lt _ 192 hd ‹_› (by decide)
  have e2:((2:Int)^(192:Int).toNat)=0x1000000000000000000000000000000000000000000000000:=by decide
  rw[e2] at this
  omega
 ·split
  ·have:=top_lt _ 128 hc ‹_› (by decide)
   have e2:((2:Int)^(128:Int).toNat)=0x100000000000000000000000000000000:=by decide
   rw[e2] at this
   omega
  ·split
   ·have:=top_lt _ 64 hb ‹_› (by decide)
    have e2:((2:Int)^(64:Int).toNat)=18446744073709551616:=by decide
    rw[e2] at this
    omega
   ·split
    ·have:=bl_lt _ ha ‹_›
     omega
    ·have:e=0:=by omega
     rw[this];decide
theorem bit_mod(x:Int)(r:Nat)(hr:r<64):x%18446744073709551616/2^r%2=x/2^r%2:=by
 have e:=Int.mul_ediv_add_emod x 18446744073709551616
 have hp:(18446744073709551616:Int)=2^r*(2*2^(63 -r)):=by
  have:(18446744073709551616:Int)=2^(r+(1+(63 -r))):=by rw[show r+(1+(63 -r))=64 by omega];decide
  rw[this,Int.pow_add,Int.pow_add];simp
 have h2:(2:Int)^r≠0:=Int.ne_of_gt (Int.pow_pos (by decide))
 generalize x/18446744073709551616=q at *
 generalize x%18446744073709551616=s at *
 have hx:x=s+2^r*(2*2^(63 -r)*q):=by rw[<-e,hp];grind
 rw[hx,Int.add_mul_ediv_left _ _ h2,Int.mul_assoc,Int.add_mul_emod_self_left]
theorem bitv_I{e i:Int}(h0:0<=i)(h1:i<256):bitv (D0 e) (D1 e) (D2 e) (D3 e) i=bitI e i:=by
 unfold bitv bitI
 have hr:(i%64).toNat<64:=by omega
 have key: ∀(k:Int),wordOf (D0 e) (D1 e) (D2 e) (D3 e) i=e/2^(64*(i/64)).toNat%18446744073709551616:=fun _=>by
  unfold wordOf
  have h4:i/64=0\/i/64=1\/i/64=2\/i/64=3:=by omega
  rcases h4 with h | h | h | h<;>rw[h]
  ·simp[D0]
  ·have e2:((2:Int)^(64*(1:Int)).toNat)=18446744073709551616:=by decide
   rw[e2];simp[D1]
  ·have e2:((2:Int)^(64*(2:Int)).toNat)=0x100000000000000000000000000000000:=by decide
   rw[e2];simp[D2]
  ·have e2:((2:Int)^(64*(3:Int)).toNat)=0x1000000000000000000000000000000000000000000000000:=by decide
   rw[e2];simp[D3]
 rw[key 0,bit_mod _ _ hr,Int.ediv_ediv_of_nonneg (Int.le_of_lt (Int.pow_pos (by decide))),<-Int.pow_add,<-Int.toNat_add (by omega) (by omega),show 64*(i/64)+i%64=i by omega]
 simp[h0,h1]
 rw[Bool.eq_iff_iff];simp
theorem nBit(e i:Int)(w:World)(h0:0<=i)(h1:i<256):CC 82 #[NV e,iI i] w (.bool (bitI e i)):=by
 rw[<-bitv_I h0 h1];exact Bit_any _ _ _ _ i w (W_D0 e) (W_D1 e) (W_D2 e) (W_D3 e)
theorem top_step(e:Int)(he:0<=e)(k:Nat):e/2^k=2*(e/2^(k+1))+(if bitI e k then 1 else 0):=by
 unfold bitI
 rw[Int.toNat_natCast,Int.pow_succ,<-Int.ediv_ediv_of_nonneg (Int.le_of_lt (Int.pow_pos (by decide)))]
 generalize e/2^k=q
 by_cases h:q%2=1<;>simp[h]<;>omega
def byp(a b c d:Int)(p:Nat):Int:=(if p/8=0 then a else if p/8=1 then b else if p/8=2 then c else d)/2^(p%8*8)%256
def CB(w:World)(n k:Nat)(a b c d:Int):Prop:= ∀j,j<32->w.cell? ⟨n,j,none⟩=some (.int .u8 (if 32<=j+k then byp a b c d (31 -j) else 0))/\w.frozen? ⟨n,j,none⟩=false
theorem CB.below{w w':World}{m n k:Nat}{a b c d:Int}(h:CB w n k a b c d)(hb:Below m w w')(hn:n<m):CB w' n k a b c d:=fun j hj=>by
 rw[hb.cell (p:=⟨n,j,none⟩) hn,hb.frozen (p:=⟨n,j,none⟩) hn];exact h j hj
theorem CB.set{w:World}{n k:Nat}{a b c d:Int}(h:CB w n k a b c d)(hk:k<32)(v:Int)(hv:v=byp a b c d k):CB (w.setCell ⟨n,31 -k,none⟩ (.int .u8 v)) n (k+1) a b c d:=fun j hj=>by
 rw[World.frozen?_setCell]
 obtain⟨hc,hf⟩:=h (31 -k) (by omega)
 by_cases e:j=31 -k
 ·subst e
  refine⟨?_,hf⟩
  rw[if_pos (by omega),show 31 -(31 -k)=k by omega,hv]
  simp[go_sem,hc]
 ·obtain⟨hc',hf'⟩:=h j hj
  refine⟨?_,hf'⟩
  rw[World.cell?_setCell_other _ _ _ _ (by simp<;>omega),hc']
  by_cases g:32<=j+k
  ·rw[if_pos g,if_pos (by omega)]
  ·rw[if_neg g,if_neg (by omega)]
def z32b:Array Value:=Array.replicate 32 (.int .u8 0)
theorem CB.new(w:World)(a b c d:Int):CB (w.alloc (.cells z32b 5)) w.heap.size 0 a b c d:=fun j hj=>by
 have hf:(w.alloc (.cells z32b 5)).frozen? ⟨w.heap.size,j,none⟩=false:=by simp[go_sem]
 refine⟨?_,hf⟩
 rw[cell_of_row _ w.heap.size j _ 5 (0,0) (heap_alloc_new _ _),if_neg (by omega)]
 simp[z32b,hj]
theorem Bytes_any(a b c d:Int)(w:World)(ha:W64 a)(hb:W64 b)(hc:W64 c)(hd:W64 d):
 Calls Tryz.prog 49 #[A4 a b c d] w fun en w'=> ∃g,en= .returned (.slice (some ⟨g,0,none⟩) 32 32)/\CB w' g 32 a b c d/\w.heap.size<=g/\g<w'.heap.size/\Bw w w':=by
 have hmk: ∀w,(Instr.makeSlice 46 (iI 32) (iI 32)).run Tryz.prog w= .ok (.slice (some ⟨w.heap.size,0,none⟩) 32 32) (w.alloc (.cells z32b 5)):=fun _=>by kernel_rfl
 obtain⟨a1,a2⟩:=ha
 obtain⟨b1,b2⟩:=hb
 obtain⟨c1,c2⟩:=hc
 obtain⟨d1,d2⟩:=hd
 go_enter Tryz.func49,Tryz.ntmps49
 go_wp2
 go_loopw [6] (fun i wr=> ∃k:Nat,k<=32/\i=iI k/\Bw w wr/\w.heap.size+1<wr.heap.size/\C4 wr w.heap.size a b c d/\CB wr (w.heap.size+1) k a b c d) (fun i _=>32 -(intOf i).toNat)
 case atStart=>
  refine⟨0,by omega,rfl,?_,by simp,by unfold C4;simp[go_sem],?_⟩
  ·iterate 6 all_goals (go_grown<;>try with_reducible refine below_drewN ?_ _)
  ·have:=CB.new (w.alloc (.cells #[iU a,iU b,iU c,iU d] 24)) a b c d
   simpa using this
 case round=>
  obtain⟨k,hk,rfl,hB,hs,hA,hO⟩:=hrel
  by_cases hlt:k<32
  ·have hlt':(k:Int)<32:=by omega
   have hA':=hA
   obtain⟨⟨ac0,ac1,ac2,ac3⟩,_⟩:=hA'
   obtain⟨oc,of⟩:=hO (31 -k) (by omega)
   have hz:(if 32<=31 -k+k then byp a b c d (31 -(31 -k)) else 0)=0:=if_neg (by omega)
   rw[hz] at oc
   clear hz
   have hq:k/8=0\/k/8=1\/k/8=2\/k/8=3:=by omega
   rcases hq with hq | hq | hq | hq
   ·have hq':(k:Int)/8=0:=by omega
    go_wp2
    refine⟨⟨k+1,by omega,by go_num,?_,by simpa using hs,hA.other _ (by simp) _,hO.set hlt _ ?_⟩,by simp[intOf];omega⟩
    ·exact hB.setCell (by show _<=_;simp) _
    ·unfold byp;simp[hq]
   ·have hq':(k:Int)/8=1:=by omega
    go_wp2
    refine⟨⟨k+1,by omega,by go_num,?_,by simpa using hs,hA.other _ (by simp) _,hO.set hlt _ ?_⟩,by simp[intOf];omega⟩
    ·exact hB.setCell (by show _<=_;simp) _
    ·unfold byp;simp[hq]
   ·have hq':(k:Int)/8=2:=by omega
    go_wp2
    refine⟨⟨k+1,by omega,by go_num,?_,by simpa using hs,hA.other _ (by simp) _,hO.set hlt _ ?_⟩,by simp[intOf];omega⟩
    ·exact hB.setCell (by show _<=_;simp) _
    ·unfold byp;simp[hq]
   ·have hq':(k:Int)/8=3:=by omega
    go_wp2
    refine⟨⟨k+1,by omega,by go_num,?_,by simpa using hs,hA.other _ (by simp) _,hO.set hlt _ ?_⟩,by simp[intOf];omega⟩
    ·exact hB.setCell (by show _<=_;simp) _
    ·unfold byp;simp[hq]
  ·have hk32:k=32:=by omega
   subst hk32
   go_wp2
   go_ret
   exact⟨w.heap.size+1,rfl,hO,by omega,hs,hB⟩
theorem cGrow(n:Nat)(w:World)(h0:0<n)(hn:n<=100000):
 Calls Tryz.prog 73 #[.slice none 0 0,iI (n:Int)] w fun e u=> ∃y,e= .returned y/\PG w.heap.size 1 0 [] u y/\Bw w u:=by
 obtain⟨ti,hti,htm⟩:=Option.map_eq_some_iff.1 infoB
 simp only[Prod.mk.injEq] at htm
 obtain⟨hz,hs,hby⟩:=htm
 have hr:=Lib.run_append_nil_zeros (P:=Tryz.prog) w 46 3 46 5 ti (.int .u8 0) .i64 .i64 Tryz.underlying46 Tryz.underlying3 hti hz n h0 (by omega) (by omega) (by rw[hby];omega)
 have hcap:=grownCap_ge w n 0 5
 obtain⟨c,ec⟩: ∃c,grownCap w n 0 5=c:=⟨_,rfl⟩
 rw[ec] at hr hcap
 obtain⟨cs,ecs⟩: ∃cs:List Value,Builtin.zeroCells (Value.int .u8 0).cells n++Builtin.zeroCells (Value.int .u8 0).cells (c -n)=cs.toArray:=⟨(Builtin.zeroCells (Value.int .u8 0).cells n++Builtin.zeroCells (Value.int .u8 0).cells (c -n)).toList,by simp⟩
 have hcl:cs.length=c:=by
  have:=congrArg Array.size ecs
  rw[Array.size_append,size_zeroCells,size_zeroCells] at this
  simp[Value.cells] at this
  omega
 rw[ecs] at hr
 obtain⟨u,eu⟩: ∃u,w.drew.alloc (.cells cs.toArray 5)=u:=⟨_,rfl⟩
 have hB:Bw w u:=by rw[<-eu];exact Z7 (Zx w).drew _
 have hC:CV u w.heap.size cs:=by rw[<-eu];exact CV.new w.drew cs 5
 have hlt:w.heap.size<u.heap.size:=by rw[<-eu];simp
 rw[eu] at hr
 clear ec ecs eu hz hs hby hti
 have hC:Hid _:=hC
 have n0: ¬((n:Int)<0):=by omega
 have n1:(0:Int)<(n:Int):=by omega
 have e1:IntKind.i64.wrap ((n:Int) -0)=(n:Int):=by rw[IntKind.wrap_i64];omega
 have e2:IntKind.i64.wrap (n:Int)=(n:Int):=by rw[IntKind.wrap_i64];omega
 go_enter Tryz.func73,Tryz.ntmps73
 go_wp2_with (at_builtin;refine Lib.wpList_append_run _ rfl _ _ 46 3 rfl _ _ rfl rfl _ _ hr ?_)
 exact bodyPost_ret (v:= .slice (some ⟨w.heap.size,0,none⟩) 0 c) (by simp[results,Tryz.results73,go_sem]) rfl ⟨_,rfl,⟨_,c,cs,rfl,Nat.le_refl _,hlt,Nat.zero_le _,by omega,(by rw[List.nil_append];exact hC.out)⟩,hB⟩
theorem cConcat2(gl n1 n2 c1 c2:Nat)(s1 s2:Option Addr)(xs ys:List Nat)(w:World)(h1:w.cell? ⟨gl,0,none⟩=some (.slice s1 n1 c1))(h2:w.cell? ⟨gl,1,none⟩=some (.slice s2 n2 c2))(hgl:gl<w.heap.size)(i1:IN w w.heap.size (.slice s1 n1 c1) xs)(i2:IN w w.heap.size (.slice s2 n2 c2) ys)(hx:xs.length=n1)(hy:ys.length=n2)(hp:0<n1)(hle:n1+n2<=10000):
 Calls Tryz.prog 50 #[.slice (some ⟨gl,0,none⟩) 2 2] w fun e u=> ∃y,e= .returned y/\PG w.heap.size 1 (n1+n2) (U8 (xs++ys)) u y/\Bw w u:=by
 have hG:=cGrow (n1+n2) w (by omega) (by omega)
 rw[Int.natCast_add] at hG
 have q1:Hid (∀u,Bw w u->NW n1 (U8 xs) u (.slice s1 n1 c1)):=fun u hB=>by subst hx;exact IN_NW (IN.below i1 hB)
 have q2:Hid (∀u,Bw w u->NW n2 (U8 ys) u (.slice s2 n2 c2)):=fun u hB=>by subst hy;exact IN_NW (IN.below i2 hB)
 clear i1 i2
 have hx:Hid _:=hx
 have hy:Hid _:=hy
 have a1:IntKind.i64.wrap (n1:Int)=(n1:Int):=by rw[IntKind.wrap_i64];omega
 have a2:IntKind.i64.wrap (0+(n1:Int))=(n1:Int):=by rw[IntKind.wrap_i64];omega
 have a3:IntKind.i64.wrap ((n1:Int)+(n2:Int))=(n1:Int)+(n2:Int):=by rw[IntKind.wrap_i64];omega
 have b1: ¬((n1:Int)<0):=by omega
 have b2: ¬((n1:Int)+(n2:Int)<0):=by omega
 obtain⟨w0,rfl⟩: ∃x,x=w:=⟨_,rfl⟩
 go_enter Tryz.func50,Tryz.ntmps50
 go_wp2_with fail
 go_loopw [3,11] (fun s3 s11 wr=>wr=w0/\((s11=iI 0/\s3=iI 0)\/(s11=iI 1/\s3=iI (n1:Int))\/(s11=iI 2/\s3=iI ((n1:Int)+(n2:Int))))) (fun _ s11 _=>2 -(intOf s11).toNat)
 case atStart=>exact⟨rfl,.inl ⟨rfl,rfl⟩⟩
 case round=>
  obtain⟨rfl,⟨rfl,rfl⟩ | ⟨rfl,rfl⟩ | ⟨rfl,rfl⟩⟩:=hrel
  ·go_wp2
   exact⟨⟨by simp,.inr (.inl ⟨by simp,by simp⟩)⟩,by simp[intOf]⟩
  ·go_wp2
   exact⟨⟨by simp,.inr (.inr ⟨by simp,by simp⟩)⟩,by simp[intOf]⟩
  ·obtain⟨wo,rfl⟩: ∃x,x=wr:=⟨_,rfl⟩
   go_wp2_with (go_at_call 73;refine hG.mono ?_;clear hG;rintro e ua ⟨y,rfl,hpg,hBa⟩)
   have hpg:Hid (PG wo.heap.size 1 0 [] ua y):=hpg
   go_loopw [6,27] (fun s6 s27 wr=>Bw wo wr/\((s27=iI 0/\Hid (PG wo.heap.size 1 0 (U8 []) wr s6))\/(s27=iI 1/\Hid (PG wo.heap.size 1 n1 (U8 xs) wr s6))\/(s27=iI 2/\Hid (PG wo.heap.size 1 (n1+n2) (U8 (xs++ys)) wr s6)))) (fun _ s27 _=>2 -(intOf s27).toNat)
   case atStart=>exact⟨hBa,.inl ⟨rfl,hpg⟩⟩
   case round=>
    obtain⟨HBr,⟨rfl,hg⟩ | ⟨rfl,hg⟩ | ⟨rfl,hg⟩⟩:=hrel
    ·have k1:wr.cell? ⟨gl,0,none⟩=some (.slice s1 n1 c1):=(HBr.cell (p:=⟨gl,0,none⟩) hgl).trans h1
     have hnw:=q1.out wr HBr
     obtain⟨v,u,b,r,hb,hgr,hq⟩:=app_PG (ty:=46) (lo:=wo.heap.size) (xs:=[]) (n:=0) HBr.size rfl hx.out (by omega) hnw hg.out
     have hB2:=HBr.grown hgr HBr.size (fun j e=>by cases e;exact hb)
     rw[List.nil_append,Nat.zero_add] at hq
     have hq0:=hq
     have hq:Hid _:=hq
     obtain⟨b',c',z',rfl,-⟩:=hq0
     have hg0:=hg.out
     obtain⟨b2,c2',z2,rfl,-⟩:=hg0
     clear hgr hnw
     go_wp2_with (at_builtin;refine Xb rfl _ _ 46 rfl _ _ _ rfl rfl r ?_;clear r)
     exact⟨⟨hB2,.inr (.inl ⟨by simp,hq⟩)⟩,by simp[intOf]⟩
    ·have k1:wr.cell? ⟨gl,1,none⟩=some (.slice s2 n2 c2):=(HBr.cell (p:=⟨gl,1,none⟩) hgl).trans h2
     have hnw:=q2.out wr HBr
     obtain⟨v,u,b,r,hb,hgr,hq⟩:=app_PG (ty:=46) (lo:=wo.heap.size) HBr.size hx.out hy.out (by omega) hnw hg.out
     have hB2:=HBr.grown hgr HBr.size (fun j e=>by cases e;exact hb)
     have hq0:=hq
     have hq:Hid _:=hq
     obtain⟨b',c',z',rfl,-⟩:=hq0
     have hg0:=hg.out
     obtain⟨b2,c2',z2,rfl,-⟩:=hg0
     clear hgr hnw
     go_wp2_with (at_builtin;refine Xb rfl _ _ 46 rfl _ _ _ rfl rfl r ?_;clear r)
     exact⟨⟨hB2,.inr (.inr ⟨by simp,hq⟩)⟩,by simp[intOf]⟩
    ·have hg0:=hg.out
     obtain⟨b2,c2',z2,rfl,-⟩:=hg0
     go_wp2
     exact bodyPost_ret (v:= .slice (some ⟨b2,0,none⟩) (n1+n2) c2') (by simp[results,Tryz.results50,go_sem]) rfl ⟨_,rfl,hg.out,HBr⟩
end
section
theorem Yt(r:Nat):(0:Int)<2^r:=Int.pow_pos (by omega)
theorem or_apart(a b r:Nat)(ha:a<2^r):a ||| (b*2^r)=a+b*2^r:=by
 have:=Nat.shiftLeft_add_eq_or_of_lt ha b
 rw[Nat.shiftLeft_eq] at this
 rw[Nat.or_comm,<-this];omega
theorem or_int(a b:Int)(r:Nat)(ha:0<=a/\a<2^r)(hb:0<=b)(hs:a+b*2^r<18446744073709551616):bits .or .u64 a (b*2^r)=a+b*2^r:=by
 obtain⟨a,rfl⟩:=Int.eq_ofNat_of_zero_le ha.1
 obtain⟨b,rfl⟩:=Int.eq_ofNat_of_zero_le hb
 have e:((b:Int)*2^r)=((b*2^r:Nat):Int):=by simp
 have hlt:a<2^r:=by have:=ha.2;exact_mod_cast this
 rw[e] at hs⊢
 rw[bits_or_u64_nat a (b*2^r) (by omega) (by omega),or_apart a b r hlt]
 omega
end
end Go.Proofs.YtdhlekdohebbbaaGreatDoor
