import Derived.Test.YtclafkfelkmigaaGreatDoorSMU
import Derived.Lib.AppendZerosOnto
import Derived.Laws.CopyOwn
namespace Go.Proofs.YtclafkfelkmigaaGreatDoor
set_option linter.unusedVariables false
set_option linter.unusedSimpArgs false
set_option maxRecDepth 100000
set_option maxHeartbeats 4000000
section
theorem div_dg{N D:Nat}(p:Nat)(hD:0<D):(N/18446744073709551616^(p+1)%D*18446744073709551616+dgq N p)/D=dgq (N/D) p/\(N/18446744073709551616^(p+1)%D*18446744073709551616+dgq N p)%D=N/18446744073709551616^p%D:=by
 obtain⟨A,eA⟩: ∃A,N/18446744073709551616^p=A:=⟨_,rfl⟩
 have e1:N/18446744073709551616^(p+1)=A/18446744073709551616:=by rw[Nat.pow_succ,<-Nat.div_div_eq_div_mul,eA]
 have e2:dgq (N/D) p=A/D%18446744073709551616:=by unfold dgq;rw[Nat.div_div_eq_div_mul,Nat.mul_comm,<-Nat.div_div_eq_div_mul,eA]
 have e3:dgq N p=A%18446744073709551616:=by unfold dgq;rw[eA]
 rw[e1,e2,e3,eA]
 have h1:=Nat.div_add_mod A 18446744073709551616
 have h2:=Nat.div_add_mod (A/18446744073709551616) D
 have h3:A=(A/18446744073709551616%D*18446744073709551616+A%18446744073709551616)+D*(A/18446744073709551616/D*18446744073709551616):=by
  rw[show D*(A/18446744073709551616/D*18446744073709551616)=D*(A/18446744073709551616/D)*18446744073709551616 by grind]
  omega
 obtain⟨Z,eZ⟩: ∃Z,A/18446744073709551616%D*18446744073709551616+A%18446744073709551616=Z:=⟨_,rfl⟩
 rw[eZ] at h3⊢
 have hZ:Z<D*18446744073709551616:=by
  have:=Nat.mod_lt (A/18446744073709551616) hD
  have:=Nat.mod_lt A (show 0<18446744073709551616 by decide)
  have h5:(A/18446744073709551616%D+1)*18446744073709551616<=D*18446744073709551616:=Nat.mul_le_mul_right _ (by omega)
  omega
 have h6:A/D=Z/D+A/18446744073709551616/D*18446744073709551616:=by
  conv=>lhs;rw[h3]
  rw[Nat.add_mul_div_left _ _ hD]
 refine⟨?_,?_⟩
 ·rw[h6,Nat.add_mul_mod_self_right,Nat.mod_eq_of_lt (Nat.div_lt_of_lt_mul hZ)]
 ·conv=>rhs;rw[h3]
  rw[Nat.add_mul_mod_self_left]
def dnD(m n:Nat):Nat->List Nat
 | 0=>List.replicate m 0
 | i+1=>(dnD m n i).set (m -1 -i) (dgq n (m -1 -i))
theorem Us(m n:Nat): ∀i,(dnD m n i).length=m
 | 0=>List.length_replicate ..
 | i+1=>by rw[dnD,List.length_set];exact Us m n i
theorem dnD_get(m n:Nat): ∀i,i<=m-> ∀j,j<m->m<=i+j->(dnD m n i).getD j 0=dgq n j
 | 0,_,j,h1,h2=>by omega
 | i+1,h,j,h1,h2=>by
  rw[dnD,Wf _ _ _ _ (by rw[Us];omega)]
  by_cases e:j=m -1 -i
  ·rw[if_pos e,e]
  ·rw[if_neg e];exact dnD_get m n i (by omega) j h1 (by omega)
theorem dnD_all(m n:Nat):dnD m n m=dgs m n:=list_ext (n:=m) (Us _ _ _) (Yv _ _) fun j hj=>by rw[dnD_get m n m (Nat.le_refl _) j hj (by omega),Yg hj]
theorem dgs_pre{k m n j x:Nat}(h:k<=m)(hj:(dgs k n)[j]?=some x):(dgs m n)[j]?=some x:=by
 unfold dgs at *
 rw[List.getElem?_map] at *
 by_cases hk:j<k
 ·rw[List.getElem?_range hk] at hj;rw[List.getElem?_range (by omega)];exact hj
 ·rw[List.getElem?_eq_none (by simp;omega)] at hj;cases hj
theorem dgt_div(n a j:Nat):dgq (n/18446744073709551616^a) j=dgq n (a+j):=by unfold dgq;rw[Nat.div_div_eq_div_mul,<-Nat.pow_add]
theorem dgs_suf{k a m n j x:Nat}(h:a+k<=m)(hj:(dgs k (n/18446744073709551616^a))[j]?=some x):(dgs m n)[a+j]?=some x:=by
 unfold dgs at *
 rw[List.getElem?_map] at *
 by_cases hk:j<k
 ·rw[List.getElem?_range hk] at hj;rw[List.getElem?_range (by omega)]
  rw[Option.map_some,dgt_div] at hj;exact hj
 ·rw[List.getElem?_eq_none (by simp;omega)] at hj;cases hj
end
section
open Go.RowKit
def In(n:Int):Prop:=0<=n/\n<0x10000000000000000000000000000000000000000000000000000000000000000
def InW(n:Int):Prop:=0<=n/\n<0x10000000000000000000000000000000000000000000000000000000000000000*0x10000000000000000000000000000000000000000000000000000000000000000
def ovB(a b:Int):Bool:=decide (0x10000000000000000000000000000000000000000000000000000000000000000<=a+b)
def ltB(a b:Int):Bool:=decide (a<b)
theorem V_In{n:Int}(h:In n):V (D0 n) (D1 n) (D2 n) (D3 n)=n:=by rw[V_D];unfold In at h;omega
theorem In_V{a b c d:Int}(ha:W64 a)(hb:W64 b)(hc:W64 c)(hd:W64 d):In (V a b c d):=V_bd a b c d ha hb hc hd
theorem NV_V{a b c d:Int}(ha:W64 a)(hb:W64 b)(hc:W64 c)(hd:W64 d):NV (V a b c d)=A4 a b c d:=by
 obtain⟨h0,h1,h2,h3,_⟩:=D_of (V a b c d) a b c d 0 ha hb hc hd (by omega)
 rw[NV,h0,h1,h2,h3]
theorem In.wide{n:Int}(h:In n):InW n:=by unfold In at h;unfold InW;omega
theorem In_mul{a b:Int}(ha:In a)(hb:In b):InW (a*b):=by
 refine⟨Int.mul_nonneg ha.1 hb.1,?_⟩
 have k1:=Int.mul_le_mul_of_nonneg_right (a:=a) (b:=0x10000000000000000000000000000000000000000000000000000000000000000 -1) (by have:=ha.2;omega) hb.1
 have:=hb.2;omega
theorem Zg{n m:Int}(hm:In m)(h:m≠0):In (n%m):=by
 have h0:=hm.1
 exact⟨Int.emod_nonneg _ h,by have:=Int.emod_lt_of_pos n (show 0<m by omega);have:=hm.2;omega⟩
theorem WV_In{n:Int}(h:In n):WV n=A8 (D0 n) (D1 n) (D2 n) (D3 n) 0 0 0 0:=by
 have e:D4 n=0:=by unfold D4;unfold In at h;omega
 rw[WV,e];rfl
theorem nAdd(a b:Int)(w:World)(ha:In a)(hb:In b):CC 103 #[NV a,NV b] w (.tuple #[NV (a+b),.bool (ovB a b)]):=by
 have k:=Add_any _ _ _ _ _ _ _ _ w (W_D0 a) (W_D1 a) (W_D2 a) (W_D3 a) (W_D0 b) (W_D1 b) (W_D2 b) (W_D3 b)
 simp only[V_In ha,V_In hb] at k
 have e:(D4 (a+b)==1)=ovB a b:=by
  unfold In at ha hb;unfold ovB D4;rw[Bool.eq_iff_iff];simp;omega
 rw[e] at k
 exact k
theorem nSub(a b:Int)(w:World)(ha:In a)(hb:In b):CC 132 #[NV a,NV b] w (.tuple #[NV (a -b),.bool (ltB a b)]):=by
 have k:=Sub_any _ _ _ _ _ _ _ _ w (W_D0 a) (W_D1 a) (W_D2 a) (W_D3 a) (W_D0 b) (W_D1 b) (W_D2 b) (W_D3 b)
 simp only[V_In ha,V_In hb] at k
 have e:(-D4 (a -b)==1)=ltB a b:=by
  unfold In at ha hb;unfold ltB D4;rw[Bool.eq_iff_iff];simp;omega
 rw[e] at k
 exact k
theorem Xr(n:Int)(w:World)(hn:In n):CC 85 #[NV n] w (WV n):=by
 rw[WV_In hn];exact Widen_any _ _ _ _ w
theorem ln_u(n:Nat):LN (n:Int)=U64 (dgs 4 n):=by
 unfold LN D0 D1 D2 D3
 simp only[dgs,dgq,U64,List.range,List.range.loop,List.map_cons,List.map_nil]
 simp
theorem wv_u(n:Nat):LW (n:Int)=U64 (dgs 8 n):=by
 unfold LW D0 D1 D2 D3 D4
 simp only[dgs,dgq,U64,List.range,List.range.loop,List.map_cons,List.map_nil]
 simp
 omega
theorem U64_mono{l m:List Nat}{i j:Nat}(h: ∀x,l[i]?=some x->m[j]?=some x){v:Value}(hv:(U64 l)[i]?=some v):(U64 m)[j]?=some v:=by
 unfold U64 at *
 rw[List.getElem?_map] at *
 obtain⟨x,hx,rfl⟩:=Option.map_eq_some_iff.1 hv
 rw[h x hx];rfl
theorem bdQ(d0 d1 d2 d3:Int)(u:World):(Instr.build 36 ([0,1,2,3].zip [iU d0,iU d1,iU d2,iU d3]).toArray).run Tryz.prog u= .ok (A4 d0 d1 d2 d3) u:=by kernel_rfl
theorem mul_dg(a b i:Nat):a*(b%18446744073709551616^(i+1))/18446744073709551616^i=a*(b%18446744073709551616^i)/18446744073709551616^i+a*dgq b i:=by
 have e:b%18446744073709551616^(i+1)=b%18446744073709551616^i+18446744073709551616^i*dgq b i:=Nat.mod_pow_succ
 rw[e,Nat.mul_add,show a*(18446744073709551616^i*dgq b i)=18446744073709551616^i*(a*dgq b i) by grind,Nat.add_mul_div_left _ _ (Nat.pow_pos (by decide))]
theorem mul_pd(a b i:Nat):dgq (a*b) i=(a*(b%18446744073709551616^i)/18446744073709551616^i+a*dgq b i)%18446744073709551616:=by
 rw[<-mul_dg]
 unfold dgq
 have h:=Nat.div_add_mod b (18446744073709551616^(i+1))
 conv=>lhs;rw[<-h]
 rw[Nat.mul_add,show a*(18446744073709551616^(i+1)*(b/18446744073709551616^(i+1)))=18446744073709551616^i*(18446744073709551616*(a*(b/18446744073709551616^(i+1)))) by rw[Nat.pow_succ];grind,Nat.mul_add_div (Nat.pow_pos (by decide)),Nat.mul_add_mod]
theorem nMul(a b:Int)(w:World)(ha:In a)(hb:In b):CC 131 #[NV a,NV b] w (WV (a*b)):=by
 obtain⟨a,rfl⟩:=Int.eq_ofNat_of_zero_le ha.1
 obtain⟨b,rfl⟩:=Int.eq_ofNat_of_zero_le hb.1
 have h1:=ha.2
 have h2:=hb.2
 have hU: ∀i,a*(b%18446744073709551616^i)/18446744073709551616^i<=a:=fun i=>Nat.div_le_of_le_mul (by
  rw[Nat.mul_comm];exact Nat.mul_le_mul_right _ (Nat.le_of_lt (Nat.mod_lt _ (Nat.pow_pos (by decide)))))
 have key: ∀i:Nat,∃U x:Nat,a*(b%18446744073709551616^i)/18446744073709551616^i=U/\dgq b i=x/\U<=a/\x<18446744073709551616/\a*x<=a*18446744073709551615:=fun i=>⟨_,_,rfl,rfl,hU i,Vu b i,Nat.mul_le_mul_left _ (by have:=Vu b i;omega)⟩
 rw[show NV (b:Int)= .agg (LN (b:Int)).toArray from rfl,ln_u]
 refine mul_core (a:Int) ((a:Int)*b) (dgs 4 b) (fun i=>((a*(b%18446744073709551616^i)/18446744073709551616^i:Nat):Int)) (fun i=>((a*(b%18446744073709551616^i)/18446744073709551616^i:Nat):Int)+((a*dgq b i:Nat):Int)%0x10000000000000000000000000000000000000000000000000000000000000000) (fun i=>((a*dgq b i:Nat):Int)) (fun i=>D4 ((a*dgq b i:Nat):Int)) (fun i=>D4 (((a*(b%18446744073709551616^i)/18446744073709551616^i:Nat):Int)+((a*dgq b i:Nat):Int)%0x10000000000000000000000000000000000000000000000000000000000000000)) (fun i=>(((a*(b%18446744073709551616^i)/18446744073709551616^i+a*dgq b i)/0x10000000000000000000000000000000000000000000000000000000000000000:Nat):Int)) (dgq (a*b)) (upD 8 (a*b)) w (Yv _ _) rfl ?_ (fun i hi u=>?_) (fun i hi u=>?_) (fun i hi p q u=>?_) (fun i hi u=>?_) (upD_len 8 _) (fun i hi=>rfl) (fun i hi=>?_) ?_ ?_
 ·show ((a*(b%18446744073709551616^0)/18446744073709551616^0:Nat):Int)=0
  rw[Nat.pow_zero,Nat.mod_one,Nat.mul_zero,Nat.zero_div];rfl
 ·rw[Yg hi]
  have k:=scale_any _ _ _ _ ((dgq b i:Nat):Int) u (W_D0 a) (W_D1 a) (W_D2 a) (W_D3 a) ⟨by omega,by have:=Vu b i;omega⟩
  rw[V_In ha,<-Int.natCast_mul] at k
  exact k
 ·obtain⟨U,x,e1,e2,h3,h4,h5⟩:=key i
  rw[e1,e2]
  have k:=add_any _ _ _ _ _ _ _ _ u (W_D0 (U:Int)) (W_D1 (U:Int)) (W_D2 (U:Int)) (W_D3 (U:Int)) (W_D0 ((a*x:Nat):Int)) (W_D1 ((a*x:Nat):Int)) (W_D2 ((a*x:Nat):Int)) (W_D3 ((a*x:Nat):Int))
  rw[V_D ((a*x:Nat):Int),V_In (n:=(U:Int)) ⟨by omega,by omega⟩] at k
  exact k
 ·obtain⟨U,x,e1,e2,h3,h4,h5⟩:=key i
  rw[e1,e2]
  have e:IntKind.u64.wrap (D4 ((a*x:Nat):Int)+D4 ((U:Int)+((a*x:Nat):Int)%0x10000000000000000000000000000000000000000000000000000000000000000))=(((U+a*x)/0x10000000000000000000000000000000000000000000000000000000000000000:Nat):Int):=by
   rw[IntKind.wrap_u64];unfold D4
   obtain⟨y,ey⟩: ∃y,a*x=y:=⟨_,rfl⟩
   rw[ey] at h5⊢
   omega
  go_simp
  exact e
 ·obtain⟨U,x,e1,e2,h3,h4,h5⟩:=key i
  have e3:a*(b%18446744073709551616^(i+1))/18446744073709551616^(i+1)=(U+a*x)/18446744073709551616:=by rw[Nat.pow_succ,<-Nat.div_div_eq_div_mul,<-Nat.pow_succ,mul_dg,e1,e2]
  rw[e1,e2,e3]
  obtain⟨y,ey⟩: ∃y,a*x=y:=⟨_,rfl⟩
  rw[ey] at h5⊢
  have q1:D1 ((U:Int)+(y:Int)%0x10000000000000000000000000000000000000000000000000000000000000000)=D0 (((U+y)/18446744073709551616:Nat):Int):=by unfold D0 D1;omega
  have q2:D2 ((U:Int)+(y:Int)%0x10000000000000000000000000000000000000000000000000000000000000000)=D1 (((U+y)/18446744073709551616:Nat):Int):=by unfold D1 D2;omega
  have q3:D3 ((U:Int)+(y:Int)%0x10000000000000000000000000000000000000000000000000000000000000000)=D2 (((U+y)/18446744073709551616:Nat):Int):=by unfold D2 D3;omega
  have q4:(((U+y)/0x10000000000000000000000000000000000000000000000000000000000000000:Nat):Int)=D3 (((U+y)/18446744073709551616:Nat):Int):=by unfold D3;omega
  rw[q1,q2,q3,q4]
  exact bdQ _ _ _ _ u
 ·obtain⟨U,x,e1,e2,h3,h4,h5⟩:=key i
  rw[mul_pd,e1,e2]
  obtain⟨y,ey⟩: ∃y,a*x=y:=⟨_,rfl⟩
  rw[ey]
  unfold D0;omega
 ·show U64 (upD 8 (a*b) 4)=LN ((a:Int)*b)++Lq
  rw[<-Int.natCast_mul,ln_u]
  obtain⟨y,ey⟩: ∃y,a*b=y:=⟨_,rfl⟩
  rw[ey]
  rfl
 ·show ((a*(b%18446744073709551616^4)/18446744073709551616^4:Nat):Int)=D4 ((a:Int)*b)
  rw[<-Int.natCast_mul,Nat.mod_eq_of_lt (show b<18446744073709551616^4 by omega)]
  obtain⟨y,ey⟩: ∃y,a*b=y:=⟨_,rfl⟩
  rw[ey]
  unfold D4;omega
theorem nStep(r x d:Nat)(w:World)(hx:x<18446744073709551616)(h1:0x8000000000000000000000000000000000000000000000000000000000000000<=d)(h2:d<0x10000000000000000000000000000000000000000000000000000000000000000)(hr:r<d):CC 123 #[NV (r:Int),iU (x:Int),NV (d:Int)] w (.tuple #[iU (((r*18446744073709551616+x)/d:Nat):Int),NV (((r*18446744073709551616+x)%d:Nat):Int)]):=by
 have e1:V (D0 (r:Int)) (D1 (r:Int)) (D2 (r:Int)) (D3 (r:Int))=r:=V_In ⟨by omega,by omega⟩
 have e2:V (D0 (d:Int)) (D1 (d:Int)) (D2 (d:Int)) (D3 (d:Int))=d:=V_In ⟨by omega,by omega⟩
 have k:=step_any _ _ _ _ (x:Int) _ _ _ _ w (W_D0 r) (W_D1 r) (W_D2 r) (W_D3 r) (W_D0 d) (W_D1 d) (W_D2 d) (W_D3 d) ⟨by omega,by omega⟩ (by unfold D3;omega) (by rw[e1,e2];omega)
 rw[e1,e2] at k
 simpa using k
theorem nDivide(n m:Int)(w:World)(hn:InW n)(hm:In m)(h:m≠0):CC 96 #[WV n,NV m] w (.tuple #[WV (n/m),NV (n%m),iI 0]):=by
 obtain⟨N,rfl⟩:=Int.eq_ofNat_of_zero_le hn.1
 obtain⟨M,rfl⟩:=Int.eq_ofNat_of_zero_le hm.1
 have hM:=V_In hm
 obtain⟨u1,u2,u3,u4⟩:=lift_top _ _ _ _ (W_D0 M) (W_D1 M) (W_D2 M) (W_D3 M) (by rw[hM];exact h)
 have hL:=fun u=>Uo _ _ _ _ u (W_D0 M) (W_D1 M) (W_D2 M) (W_D3 M)
 have he0:eq4 (D0 (M:Int)) (D1 (M:Int)) (D2 (M:Int)) (D3 (M:Int)) 0 0 0 0=false:=by
  rw[Bool.eq_false_iff];intro hq
  rw[eq4_iff] at hq
  rw[hq.1,hq.2.1,hq.2.2.1,hq.2.2.2] at hM
  exact h hM.symm
 rw[hM] at u3 u4
 obtain⟨ln,el⟩: ∃ln,blen (D0 (M:Int)) (D1 (M:Int)) (D2 (M:Int)) (D3 (M:Int))=ln:=⟨_,rfl⟩
 rw[el] at u1 u2 u3 u4 hL
 obtain⟨up,eup⟩:=Int.eq_ofNat_of_zero_le u1
 rw[eup] at u2 u3 u4
 obtain⟨D,eD⟩: ∃D,M*2^up=D:=⟨_,rfl⟩
 have eDi:(M:Int)*2^(up:Int).toNat=(D:Int):=by rw[<-eD];simp
 rw[eDi] at u3 u4
 have hN:N<18446744073709551616^8:=by have:=hn.2;omega
 have hM8:M<18446744073709551616^8:=by have:=hm.2;omega
 have hup:up<=255:=by omega
 have hp:2^up<=2^255:=Nat.pow_le_pow_right (by decide) hup
 obtain⟨K,eK⟩: ∃K,N*2^up=K:=⟨_,rfl⟩
 have hK:K/18446744073709551616^8<D:=by
  refine Nat.div_lt_of_lt_mul ?_
  rw[<-eK]
  have h9:N*2^up<18446744073709551616^8*2^up:=Nat.mul_lt_mul_of_pos_right hN (Nat.two_pow_pos up)
  exact Nat.lt_of_lt_of_le h9 (Nat.mul_le_mul_left _ (by omega))
 have hQ:K/D=N/M:=by rw[<-eD,<-eK,Nat.mul_div_mul_right _ _ (Nat.two_pow_pos up)]
 have hR:K%D=N%M*2^up:=by rw[<-eD,<-eK,Nat.mul_mod_mul_right]
 have hK0:K/18446744073709551616^(8 -0)%D=K/18446744073709551616^8:=Nat.mod_eq_of_lt hK
 have hM0:0<M:=by omega
 have hmod:=Nat.mod_lt N hM0
 have hM2:=hm.2
 refine divide_core (N:Int) (M:Int) ln (D:Int) ((N:Int)/M) ((N:Int)%M) up (dgs 12 K) (dgs 12 D) (fun i=>((K/18446744073709551616^(8 -i)%D:Nat):Int)) (fun i=>dgq (K/D) (7 -i)) (dnD 8 (K/D)) w (Yv _ _) (Yv _ _) (by omega) hup (fun p q u=>?_) hL (fun u=>?_) (fun u=>Xr M u hm) (fun u=>?_) (fun j v hj=>?_) (fun j v hj=>?_) (fun i hi u=>?_) (fun u=>?_) rfl (Us 8 _) (fun i hi=>rfl) ?_
 ·go_simp
 ·rw[show WV (N:Int)= .agg (LW (N:Int)).toArray from rfl,wv_u,<-eK];exact cLift N up u hN hup
 ·rw[show WV (M:Int)= .agg (LW (M:Int)).toArray from rfl,wv_u,<-eD];exact cLift M up u hM8 hup
 ·rw[ln_u] at hj;exact U64_mono (fun x hx=>dgs_pre (by decide) hx) hj
 ·simp only[hK0] at hj
  rw[ln_u] at hj;exact U64_mono (fun x hx=>dgs_suf (by decide) hx) hj
 ·obtain⟨d1,d2⟩:=div_dg (N:=K) (D:=D) (7 -i) (by omega)
  have:=nStep (K/18446744073709551616^(8 -i)%D) ((dgs 12 K).getD (7 -i) 0) D u (dgs_lt _ _ _) (by omega) (by omega) (Nat.mod_lt _ (by omega))
  rw[Yg (by omega)] at this⊢
  rw[show 8 -i=7 -i+1 by omega,d1,d2] at this
  rw[show 8 -(i+1)=7 -i by omega,show 8 -i=7 -i+1 by omega]
  exact this
 ·show Calls Tryz.prog _ #[NV ((K/18446744073709551616^0%D:Nat):Int),_] u _
  rw[Nat.pow_zero,Nat.div_one,hR,show NV ((N%M*2^up:Nat):Int)= .agg (LN ((N%M*2^up:Nat):Int)).toArray from rfl,ln_u]
  have k:=cLower (N%M*2^up) up u (by
   rw[<-hR];have:=Nat.mod_lt K (show 0<D by omega);omega) hup
  rw[Nat.mul_div_cancel _ (Nat.two_pow_pos up),<-ln_u (N%M)] at k
  rw[<-Int.natCast_emod];exact k
 ·show _=_
  rw[dnD_all,hQ,<-wv_u,Int.natCast_ediv]
theorem Xz{k:Int}(h0:0<=k)(h1:k<18446744073709551616):NV k=A4 k 0 0 0:=by
 have e0:D0 k=k:=by unfold D0;omega
 have e1:D1 k=0:=by unfold D1;omega
 have e2:D2 k=0:=by unfold D2;omega
 have e3:D3 k=0:=by unfold D3;omega
 rw[NV,e0,e1,e2,e3]
theorem nOf(k:Int)(w:World)(h0:0<=k)(h1:k<18446744073709551616):CC 97 #[iU k] w (NV k):=by
 rw[Xz h0 h1];exact of_any k w
theorem neq_w(p q:Operand)(a b c d x y z t:Int)(w:World):(do eqGuard .neq 36 p q (A4 a b c d) (A4 x y z t);binOp .neq 36 (A4 a b c d) (A4 x y z t):Sem Value).run Tryz.prog w= .ok (.bool (!eq4 a b c d x y z t)) w:=by
 go_simp
theorem eql_w(p q:Operand)(a b c d x y z t:Int)(w:World):(do eqGuard .eql 36 p q (A4 a b c d) (A4 x y z t);binOp .eql 36 (A4 a b c d) (A4 x y z t):Sem Value).run Tryz.prog w= .ok (.bool (eq4 a b c d x y z t)) w:=by
 go_simp
theorem eq4_N{n m:Int}(hn:In n)(hm:In m):eq4 (D0 n) (D1 n) (D2 n) (D3 n) (D0 m) (D1 m) (D2 m) (D3 m)=decide (n=m):=by
 rw[Bool.eq_iff_iff,eq4_V _ _ _ _ _ _ _ _ (W_D0 _) (W_D1 _) (W_D2 _) (W_D3 _) (W_D0 _) (W_D1 _) (W_D2 _) (W_D3 _),V_In hn,V_In hm];simp
theorem eq4_N0{n:Int}(hn:In n):eq4 (D0 n) (D1 n) (D2 n) (D3 n) 0 0 0 0=decide (n=0):=by
 have w0:W64 0:=by unfold W64;omega
 rw[Bool.eq_iff_iff,eq4_V _ _ _ _ _ _ _ _ (W_D0 _) (W_D1 _) (W_D2 _) (W_D3 _) w0 w0 w0 w0,V_In hn];simp[V]
theorem Tb(p q:Operand){n m:Int}(hn:In n)(hm:In m)(b:Bool)(hb:decide (n=m)=!b)(w:World):(do eqGuard .neq 36 p q (NV n) (NV m);binOp .neq 36 (NV n) (NV m):Sem Value).run Tryz.prog w= .ok (.bool b) w:=by
 rw[neq_w,eq4_N hn hm,hb];simp
theorem neq_0(p q:Operand){n:Int}(hn:In n)(b:Bool)(hb:decide (n=0)=!b)(w:World):(do eqGuard .neq 36 p q (NV n) (A4 0 0 0 0);binOp .neq 36 (NV n) (A4 0 0 0 0):Sem Value).run Tryz.prog w= .ok (.bool b) w:=by
 rw[neq_w,eq4_N0 hn,hb];simp
theorem eql_n(p q:Operand){n m:Int}(hn:In n)(hm:In m)(b:Bool)(hb:decide (n=m)=b)(w:World):(do eqGuard .eql 36 p q (NV n) (NV m);binOp .eql 36 (NV n) (NV m):Sem Value).run Tryz.prog w= .ok (.bool b) w:=by
 rw[eql_w,eq4_N hn hm,hb]
theorem eql_0(p q:Operand){n:Int}(hn:In n)(b:Bool)(hb:decide (n=0)=b)(w:World):(do eqGuard .eql 36 p q (NV n) (A4 0 0 0 0);binOp .eql 36 (NV n) (A4 0 0 0 0):Sem Value).run Tryz.prog w= .ok (.bool b) w:=by
 rw[eql_w,eq4_N0 hn,hb]
theorem ld_u64(w:World)(b k:Nat)(v:Int)(h:w.cell? ⟨b,k,none⟩=some (iU v)):(Instr.loadAt 34 (.pointer (some ⟨b,k,none⟩))).run Tryz.prog w= .ok (iU v) w:=by
 go_simp
theorem st_u64(w:World)(b k:Nat)(v x:Int)(h:w.cell? ⟨b,k,none⟩=some (iU v))(hf:w.frozen? ⟨b,k,none⟩=false):(Instr.storeAt 34 (.pointer (some ⟨b,k,none⟩)) (iU x)).run Tryz.prog w= .ok () (w.setCell ⟨b,k,none⟩ (iU x)):=by
 go_simp
theorem ix_nat(w:World)(b k:Nat)(h:k<4):(Instr.indexAt 36 (.pointer (some ⟨b,0,none⟩)) (iI k)).run Tryz.prog w= .ok (.pointer (some ⟨b,k,none⟩)) w:=by
 have h0:(0:Int)<=k:=by omega
 have h1:(k:Int)<4:=by omega
 go_simp
theorem ix_wide(w:World)(b k:Nat)(h:k<8):(Instr.indexAt 115 (.pointer (some ⟨b,0,none⟩)) (iI k)).run Tryz.prog w= .ok (.pointer (some ⟨b,k,none⟩)) w:=by
 have h0:(0:Int)<=k:=by omega
 have h1:(k:Int)<8:=by omega
 go_simp
theorem Y1(w:World)(b k:Nat)(h:k<5):(Instr.indexAt 217 (.pointer (some ⟨b,0,none⟩)) (iI k)).run Tryz.prog w= .ok (.pointer (some ⟨b,k,none⟩)) w:=by
 have h0:(0:Int)<=k:=by omega
 have h1:(k:Int)<5:=by omega
 go_simp
theorem add_u(p q:Operand)(x y z:Int)(w:World)(h:(x+y)%18446744073709551616=z):(do eqGuard .add 34 p q (iU x) (iU y);binOp .add 34 (iU x) (iU y):Sem Value).run Tryz.prog w= .ok (iU z) w:=by
 subst h
 go_simp
 simp[IntKind.wrap,IntKind.signed,IntKind.bits]
theorem mul_u(p q:Operand)(x y z:Int)(w:World)(h:(x*y)%18446744073709551616=z):(do eqGuard .mul 34 p q (iU x) (iU y);binOp .mul 34 (iU x) (iU y):Sem Value).run Tryz.prog w= .ok (iU z) w:=by
 subst h
 go_simp
 simp[IntKind.wrap,IntKind.signed,IntKind.bits]
end
section
def natAt(w:World)(b:Nat):Nat:=(V (wordAt w b 0) (wordAt w b 1) (wordAt w b 2) (wordAt w b 3)).toNat
theorem natAt_of{w:World}{b:Nat}{n:Int}(h:CV w b (LN n))(hn:In n):natAt w b=n.toNat:=by
 have h0:=(h 0 _ rfl).1;have h1:=(h 1 _ rfl).1;have h2:=(h 2 _ rfl).1;have h3:=(h 3 _ rfl).1
 unfold natAt wordAt
 rw[h0,h1,h2,h3]
 show (V (D0 n) (D1 n) (D2 n) (D3 n)).toNat=_
 rw[V_In hn]
end
section
open Go.RowKit
section
section
variable {P:Program} {o:Oper} {a:Act} {w:World} {K:Act->World->Prop} {Q:Exit->Act->World->Prop}
end
theorem al__5_uint64(w:World):(Instr.alloc 217 true (.tuple #[])).run Tryz.prog w= .ok (.pointer (some ⟨w.heap.size,0,none⟩)) (w.alloc (.cells L05.toArray 217)):=by kernel_rfl
theorem sl_five(b:Nat)(w:World):(Instr.sliceAt 217 (.pointer (some ⟨b,0,none⟩)) none (some (iI 4)) none).run Tryz.prog w= .ok (.slice (some ⟨b,0,none⟩) 4 5) w:=by kernel_rfl
theorem ap_five(b:Nat)(w:World):(Instr.arrayAt 36 (.slice (some ⟨b,0,none⟩) 4 5)).run Tryz.prog w= .ok (.pointer (some ⟨b,0,none⟩)) w:=by kernel_rfl
theorem fd_m(b:Nat)(w:World):(Instr.fieldAt 199 (.pointer (some ⟨b,0,none⟩)) 0).run Tryz.prog w= .ok (.pointer (some ⟨b,0,none⟩)) w:=by kernel_rfl
theorem fd_c(b:Nat)(w:World):(Instr.fieldAt 199 (.pointer (some ⟨b,0,none⟩)) 1).run Tryz.prog w= .ok (.pointer (some ⟨b,4,none⟩)) w:=by go_simp
end
theorem Ys(T:TypeId)(p q:Operand)(x y:Int)(b:Bool)(w:World)(h:(x !=y)=b):(do eqGuard .neq T p q (iI x) (iI y);binOp .neq T (iI x) (iI y):Sem Value).run Tryz.prog w= .ok (.bool b) w:=by
 subst h;go_simp
section
section
variable {R:Rg} {P:Program} {ops:Array Oper} {Q:Exit->Act->World->Prop} {f:Nat->Bool} {t:Nat->Value} {u:World} {a:Act} {i:Nat} {o:Oper}
end
end
section
section
variable {R:Rg} {P:Program} {ops:Array Oper} {Q:Exit->Act->World->Prop} {f:Nat->Bool} {t:Nat->Value} {u:World} {a:Act} {i:Nat} {o:Oper}
end
end
section
section
variable {R:Rg} {P:Program} {ops:Array Oper} {Q:Exit->Act->World->Prop} {f:Nat->Bool} {t:Nat->Value} {u:World} {a:Act} {i:Nat} {o:Oper}
end
section
variable {P:Program} {ops:Array Oper} {Q:Exit->Act->World->Prop} {id:Nat} {w0 w:World} {fr:List Value} {lo:Nat} {ks:List Blk}
end
end
theorem uN:Tryz.prog.underlying 36=some (.array 4 34):=Tryz.underlying36
theorem uW:Tryz.prog.underlying 115=some (.array 8 34):=Tryz.underlying115
theorem iN:(Tryz.prog.info? 36).map (·.size)=some 4:=info_api_Nat
theorem iW:(Tryz.prog.info? 115).map (·.size)=some 8:=info_api_Wide
theorem aN(w:World):(Instr.alloc 36 true (.tuple #[])).run Tryz.prog w= .ok (.pointer (some ⟨w.heap.size,0,none⟩)) (w.alloc (.cells L0s.toArray 36)):=al_api_Nat w
theorem aW(w:World):(Instr.alloc 115 true (.tuple #[])).run Tryz.prog w= .ok (.pointer (some ⟨w.heap.size,0,none⟩)) (w.alloc (.cells L0w.toArray 115)):=al_api_Wide w
theorem zN(w:World):(Instr.build 36 [].toArray).run Tryz.prog w= .ok (A4 0 0 0 0) w:=by kernel_rfl
theorem lU{b c:Nat}{v:Int}(w:World)(h:w.cell? ⟨b,c,none⟩=some (iU v)):(Instr.loadAt 34 (.pointer (some ⟨b,c,none⟩))).run Tryz.prog w= .ok (iU v) w:=ld_u64 w b c v h
theorem sU{b c:Nat}{v x:Int}(w:World)(h:w.cell? ⟨b,c,none⟩=some (iU v))(hf:w.frozen? ⟨b,c,none⟩=false):(Instr.storeAt 34 (.pointer (some ⟨b,c,none⟩)) (iU x)).run Tryz.prog w= .ok () (w.setCell ⟨b,c,none⟩ (iU x)):=st_u64 w b c v x h hf
theorem jN{b:Nat}(k:Nat)(w:World)(h:k<4:=by decide):(Instr.indexAt 36 (.pointer (some ⟨b,0,none⟩)) (iI k)).run Tryz.prog w= .ok (.pointer (some ⟨b,k,none⟩)) w:=ix_nat w b k h
theorem jW{b:Nat}(k:Nat)(w:World)(h:k<8:=by decide):(Instr.indexAt 115 (.pointer (some ⟨b,0,none⟩)) (iI k)).run Tryz.prog w= .ok (.pointer (some ⟨b,k,none⟩)) w:=ix_wide w b k h
section
def flN:List Int->List Value
 | []=>[]
 | n::r=>LN n++flN r
def SN(w:World)(g o:Nat)(ns:List Int):Prop:= ∀j v,(flN ns)[j]?=some v->w.cell? ⟨g,o+j,none⟩=some v
theorem SN.below{w w':World}{m g o:Nat}{ns:List Int}(h:SN w g o ns)(hb:Below m w w')(hg:g<m):SN w' g o ns:=fun j v hj=>(hb.cell (p:=⟨g,o+j,none⟩) hg).trans (h j v hj)
theorem SN.empty{w:World}{g o:Nat}{ns:List Int}(h:ns.length=0):SN w g o ns:=fun j v hj=>by
 have e:ns=[]:=List.eq_nil_of_length_eq_zero h
 subst e;simp[flN] at hj
theorem SN.below2{w w':World}{m g o:Nat}{ns:List Int}(h:SN w g o ns)(hb:Below m w w')(hg:ns.length=0\/g<m):SN w' g o ns:=by
 rcases hg with e | hg
 ·exact SN.empty e
 ·exact h.below hb hg
theorem Wj: ∀ns:List Int,(flN ns).length=4*ns.length
 | []=>rfl
 | n::r=>by rw[flN,List.length_append,Wj r,List.length_cons];simp;omega
theorem flN_get: ∀(ns:List Int) (j c:Nat) (v:Value),j<ns.length->(LN (ns.getD j 0))[c]?=some v->(flN ns)[4*j+c]?=some v
 | [],j,c,v,h,_=>by simp at h
 | n::r,0,c,v,h,e=>by
  rw[flN,List.getElem?_append_left]
  ·simpa using e
  ·have:=(List.getElem?_eq_some_iff.1 e).1
   simpa using this
 | n::r,j+1,c,v,h,e=>by
  rw[flN,List.getElem?_append_right (by simp;omega)]
  have:=flN_get r j c v (by simpa using h) (by simpa using e)
  simpa [show 4*(j+1)+c -4=4*j+c by omega] using this
theorem SN.at{w:World}{g o:Nat}{ns:List Int}(h:SN w g o ns)(j:Nat)(hj:j<ns.length):w.rangeAt g (o+4*j) (LN (ns.getD j 0)):=fun c v hc=>by
 have:=h (4*j+c) v (flN_get ns j c v hj hc)
 rwa [<-Nat.add_assoc] at this
section
variable {R:Rg} {P:Program} {ops:Array Oper} {Q:Exit->Act->World->Prop} {i:Nat} {o:Oper}
end
theorem ixS(g o n cap j:Nat)(h:j<n)(w:World):(Instr.indexAt 27 (.slice (some ⟨g,o,none⟩) n cap) (iI j)).run Tryz.prog w= .ok (.pointer (some ⟨g,o+4*j,none⟩)) w:=by
 have h2:(j:Int)<n:=by omega
 go_simp
end
section
section
variable {R:Rg} {P:Program} {ops:Array Oper} {Q:Exit->Act->World->Prop} {f:Nat->Bool} {t:Nat->Value} {u:World} {a:Act} {i:Nat} {o:Oper}
end
end
section
section
variable {R:Rg} {P:Program} {ops:Array Oper} {Q:Exit->Act->World->Prop} {f:Nat->Bool} {t:Nat->Value} {u:World} {a:Act} {i:Nat} {o:Oper}
end
abbrev CE(n f a:Int):List Value:=[iU (D0 n),iU (D1 n),iU (D2 n),iU (D3 n),iU (D0 f),iU (D1 f),iU (D2 f),iU (D3 f),iU (D0 a),iU (D1 a),iU (D2 a),iU (D3 a)]
abbrev CX(n f a:Int):Value:= .agg #[iU (D0 n),iU (D1 n),iU (D2 n),iU (D3 n),iU (D0 f),iU (D1 f),iU (D2 f),iU (D3 f),iU (D0 a),iU (D1 a),iU (D2 a),iU (D3 a)]
theorem U9:(Tryz.prog.info? 89).map (·.size)=some 12:=by kernel_rfl
theorem fdC0(b:Nat)(w:World):(Instr.fieldAt 89 (.pointer (some ⟨b,0,none⟩)) 0).run Tryz.prog w= .ok (.pointer (some ⟨b,0,none⟩)) w:=by go_simp
theorem fdC1(b:Nat)(w:World):(Instr.fieldAt 89 (.pointer (some ⟨b,0,none⟩)) 1).run Tryz.prog w= .ok (.pointer (some ⟨b,4,none⟩)) w:=by go_simp
end
section
section
variable {R:Rg} {P:Program} {ops:Array Oper} {Q:Exit->Act->World->Prop} {f:Nat->Bool} {t:Nat->Value} {u:World} {a:Act} {i:Nat} {o:Oper}
end
end
theorem infoN:(Tryz.prog.info? 36).map (fun i=>(i.zero,i.size,i.bytes))=some (some (A4 0 0 0 0),4,32):=by kernel_rfl
def PE(base:Nat)(u:World)(v:Value):Prop:= ∃b,v= .slice (some ⟨b,0,none⟩) 0 0/\base<=b/\u.heap[b]?=some (.cells #[] 36 (0,0))
def PO(base:Nat)(ns:List Int)(u:World)(v:Value):Prop:=(∃b c,v= .slice (some ⟨b,0,none⟩) ns.length c)/\u.ownsRow base 36 4 v ns.length (flN ns)
theorem PE.stab{base:Nat}{u v:World}{x:Value}(hB:Bw u v)(h:PE base u x):PE base v x:=by
 obtain⟨b,e,h1,h2⟩:=h
 exact⟨b,e,h1,by rw[hB.block b (Array.getElem?_eq_some_iff.1 h2).1];exact h2⟩
theorem PO.stab{base:Nat}{ns:List Int}{u v:World}{x:Value}(hB:Bw u v)(h:PO base ns u x):PO base ns v x:=by
 obtain⟨⟨b,c,rfl⟩,h2⟩:=h
 exact⟨⟨b,c,rfl⟩,h2.kept (U1 hB) (.inr (by simp[Value.ownBlock]))⟩
theorem PO.at{base:Nat}{ns:List Int}{u:World}{x:Value}(h:PO base ns u x): ∃b c,x= .slice (some ⟨b,0,none⟩) ns.length c/\b<u.heap.size/\SN u b 0 ns:=by
 obtain⟨⟨b,c,rfl⟩,h2⟩:=h
 have hl:=h2.lt b rfl
 refine⟨b,c,rfl,hl.2,fun j v hj=>?_⟩
 have:=h2.cells (g:=b) rfl j v hj
 have e:(⟨b,0,none⟩:Addr).add j=⟨b,j,none⟩:=by unfold Addr.add;split<;>simp_all
 rw[e] at this
 rw[Nat.zero_add];exact this
theorem SN.news{u:World}{g o:Nat}{ns:List Int}(h:SN u g o ns): ∀j v,(flN ns)[j]?=some v->u.cell? ((⟨g,o,none⟩:Addr).add j)=some v:=fun j v hj=>by
 have e:(⟨g,o,none⟩:Addr).add j=⟨g,o+j,none⟩:=by unfold Addr.add;split<;>simp_all
 rw[e];exact h j v hj
theorem V8: ∀(a b:List Int),flN (a++b)=flN a++flN b
 | [],_=>rfl
 | n::r,b=>by rw[List.cons_append,flN,flN,V8 r b,List.append_assoc]
theorem PE.new{base:Nat}{u:World}(h:base<=u.heap.size):PE base (u.alloc (.cells #[] 36)) (.slice (some ⟨u.heap.size,0,none⟩) 0 0):=⟨_,rfl,h,heap_alloc_new u _⟩
theorem PO.cv{base:Nat}{ns:List Int}{u:World}{x:Value}(h:PO base ns u x): ∃b c,x= .slice (some ⟨b,0,none⟩) ns.length c/\base<=b/\b<u.heap.size/\CV u b (flN ns):=by
 obtain⟨⟨b,c,rfl⟩,h2⟩:=h
 have hl:=h2.lt b rfl
 refine⟨b,c,rfl,hl.1,hl.2,fun j v hj=>⟨?_,?_⟩⟩
 ·have:=h2.cells (g:=b) rfl j v hj
  have e:(⟨b,0,none⟩:Addr).add j=⟨b,j,none⟩:=by unfold Addr.add;split<;>simp_all
  rw[e] at this;exact this
 ·rcases h2.2 with⟨e,_⟩ | ⟨g',cap',cur,e,_,hh,_⟩
  ·cases e
  ·cases e;simp[World.frozen?,hh]
theorem CV.sn{u:World}{b:Nat}{ns:List Int}(h:CV u b (flN ns)):SN u b 0 ns:=fun j v hj=>by rw[Nat.zero_add];exact(h j v hj).1
def NL(u:World)(v:Value)(ns:List Int):Prop:= ∃sl gb go cap,v= .slice sl ns.length cap/\ns.length<=cap/\(sl=none->cap=0)/\(ns=[]\/sl=some ⟨gb,go,none⟩)/\(ns.length=0\/gb<u.heap.size)/\SN u gb go ns
theorem NL.up{w u:World}{v:Value}{ns:List Int}(h:NL w v ns)(hB:Bw w u):NL u v ns:=by
 obtain⟨sl,gb,go,cap,h1,h2,h3,h4,h5,h6⟩:=h
 refine⟨sl,gb,go,cap,h1,h2,h3,h4,h5.imp id fun e=>Nat.lt_of_lt_of_le e hB.size,?_⟩
 rcases h5 with h5 | h5
 ·exact SN.empty h5
 ·exact h6.below hB h5
def N2(a b:Int)(u:World)(v:Value):Prop:=NL u v [a,b]
theorem N2.stab{a b:Int}{u u2:World}{x:Value}(hB:Bw u u2)(h:N2 a b u x):N2 a b u2 x:=NL.up h hB
theorem bsN2(a b:Int)(w:World):(Instr.buildSlice 27 2 ([0,1].zip [NV a,NV b]).toArray).run Tryz.prog w= .ok (.slice (some ⟨w.heap.size,0,none⟩) 2 2) (w.alloc (.cells (flN [a,b]).toArray 36)):=by kernel_rfl
theorem inN2(a b:Int)(u:World):N2 a b (u.alloc (.cells (flN [a,b]).toArray 36)) (.slice (some ⟨u.heap.size,0,none⟩) 2 2):=
 ⟨_,u.heap.size,0,2,rfl,by simp,by simp,.inr rfl,.inr (by simp),fun j v hj=>by rw[Nat.zero_add];exact(CV.new u (flN [a,b]) 36 j v hj).1⟩
def N1x(a:Int)(u:World)(v:Value):Prop:=NL u v [a]
theorem N1x.stab{a:Int}{u u2:World}{x:Value}(hB:Bw u u2)(h:N1x a u x):N1x a u2 x:=NL.up h hB
theorem bsNx1(a:Int)(w:World):(Instr.buildSlice 27 1 ([0].zip [NV a]).toArray).run Tryz.prog w= .ok (.slice (some ⟨w.heap.size,0,none⟩) 1 1) (w.alloc (.cells (flN [a]).toArray 36)):=by kernel_rfl
theorem inNx1(a:Int)(u:World):N1x a (u.alloc (.cells (flN [a]).toArray 36)) (.slice (some ⟨u.heap.size,0,none⟩) 1 1):=
 ⟨_,u.heap.size,0,1,rfl,by simp,by simp,.inr rfl,.inr (by simp),fun j v hj=>by rw[Nat.zero_add];exact(CV.new u (flN [a]) 36 j v hj).1⟩
theorem WV_of(n a b c d e f g h:Int)(ha:W64 a)(hb:W64 b)(hc:W64 c)(hd:W64 d)(he:W64 e)(hf:W64 f)(hg:W64 g)(hh:W64 h)(hn:n=V a b c d+V e f g h*0x10000000000000000000000000000000000000000000000000000000000000000):WV n=A8 a b c d e f g h:=by
 obtain⟨h0,h1,h2,h3,h4⟩:=D_of n a b c d (V e f g h) ha hb hc hd hn
 obtain⟨k0,k1,k2,k3,k4⟩:=D_of (V e f g h) e f g h 0 he hf hg hh (by omega)
 rw[WV,h0,h1,h2,h3,h4,k0,k1,k2,k3]
def H32(x:Int):Prop:=0<=x/\x<4294967296
theorem wide_any(g cap:Nat)(xw0 xw1 xw2 xw3 xw4 xw5 xw6 xw7 xw8 xw9 xw10 xw11 xw12 xw13 xw14 xw15:Int)(w:World)(c0:w.cell? ⟨g,0,none⟩=some (iU xw0))(c1:w.cell? ⟨g,1,none⟩=some (iU xw1))(c2:w.cell? ⟨g,2,none⟩=some (iU xw2))(c3:w.cell? ⟨g,3,none⟩=some (iU xw3))(c4:w.cell? ⟨g,4,none⟩=some (iU xw4))(c5:w.cell? ⟨g,5,none⟩=some (iU xw5))(c6:w.cell? ⟨g,6,none⟩=some (iU xw6))(c7:w.cell? ⟨g,7,none⟩=some (iU xw7))(c8:w.cell? ⟨g,8,none⟩=some (iU xw8))(c9:w.cell? ⟨g,9,none⟩=some (iU xw9))(c10:w.cell? ⟨g,10,none⟩=some (iU xw10))(c11:w.cell? ⟨g,11,none⟩=some (iU xw11))(c12:w.cell? ⟨g,12,none⟩=some (iU xw12))(c13:w.cell? ⟨g,13,none⟩=some (iU xw13))(c14:w.cell? ⟨g,14,none⟩=some (iU xw14))(c15:w.cell? ⟨g,15,none⟩=some (iU xw15))(h0:H32 xw0)(h1:H32 xw1)(h2:H32 xw2)(h3:H32 xw3)(h4:H32 xw4)(h5:H32 xw5)(h6:H32 xw6)(h7:H32 xw7)(h8:H32 xw8)(h9:H32 xw9)(h10:H32 xw10)(h11:H32 xw11)(h12:H32 xw12)(h13:H32 xw13)(h14:H32 xw14)(h15:H32 xw15):
 CC 93 #[.slice (some ⟨g,0,none⟩) 16 cap] w (A8 (xw0+xw1*4294967296) (xw2+xw3*4294967296) (xw4+xw5*4294967296) (xw6+xw7*4294967296) (xw8+xw9*4294967296) (xw10+xw11*4294967296) (xw12+xw13*4294967296) (xw14+xw15*4294967296)):=by
 obtain⟨l0,u0⟩:=h0
 obtain⟨l1,u1⟩:=h1
 obtain⟨l2,u2⟩:=h2
 obtain⟨l3,u3⟩:=h3
 obtain⟨l4,u4⟩:=h4
 obtain⟨l5,u5⟩:=h5
 obtain⟨l6,u6⟩:=h6
 obtain⟨l7,u7⟩:=h7
 obtain⟨l8,u8⟩:=h8
 obtain⟨l9,u9⟩:=h9
 obtain⟨l10,u10⟩:=h10
 obtain⟨l11,u11⟩:=h11
 obtain⟨l12,u12⟩:=h12
 obtain⟨l13,u13⟩:=h13
 obtain⟨l14,u14⟩:=h14
 obtain⟨l15,u15⟩:=h15
 have lg:g<w.heap.size:=World.block_lt_of_cell? w _ c0
 have lg1:g<w.heap.size+1:=by omega
 have lg2:g<w.heap.size+1+1:=by omega
 go_enter Tryz.func93,Tryz.ntmps93
 go_wp2
 refine wp_loop_rounds 9 ?_
 rw[rounds_succ]
 go_wp2
 go_region
 go_wp2
 rw[rounds_succ]
 go_wp2
 go_region
 go_wp2
 rw[rounds_succ]
 go_wp2
 go_region
 go_wp2
 rw[rounds_succ]
 go_wp2
 go_region
 go_wp2
 rw[rounds_succ]
 go_wp2
 go_region
 go_wp2
 rw[rounds_succ]
 go_wp2
 go_region
 go_wp2
 rw[rounds_succ]
 go_wp2
 go_region
 go_wp2
 rw[rounds_succ]
 go_wp2
 go_region
 go_wp2
 rw[rounds_succ]
 go_wp2
 refine bodyPost_ret (v:=A8 (xw0+xw1*4294967296) (xw2+xw3*4294967296) (xw4+xw5*4294967296) (xw6+xw7*4294967296) (xw8+xw9*4294967296) (xw10+xw11*4294967296) (xw12+xw13*4294967296) (xw14+xw15*4294967296)) (by simp[results,Tryz.results93,go_sem]) rfl ⟨rfl,?_⟩
 iterate 6 all_goals (go_grown<;>try with_reducible refine below_drewN ?_ _)
theorem zc8L:Builtin.zeroCells (Value.int .u64 0).cells 8=#[iU 0,iU 0,iU 0,iU 0,iU 0,iU 0,iU 0,iU 0]:=by kernel_rfl
abbrev z8L:List Value:=[iU 0,iU 0,iU 0,iU 0,iU 0,iU 0,iU 0,iU 0]
theorem run_app16(w:World)(base b cap:Nat)(xs:List Value)(hbase:base<=w.heap.size)(hown:w.ownsRow base 34 1 (.slice (some ⟨b,0,none⟩) 8 cap) 8 xs):
 ∃b' cap' w',(Builtin.append_ #[138,3] 138 #[.slice (some ⟨b,0,none⟩) 8 cap,iI 8]).run Tryz.prog w= .ok (.slice (some ⟨b',0,none⟩) 16 cap') w'/\
  (∀i u,(xs++z8L)[i]?=some u->w'.cell? ⟨b',i,none⟩=some u)/\Below base w w':=by
 obtain⟨i0,hi0,hz0,hz1,hz2⟩:=info_parts Tryz.info34
 obtain⟨hlen,hr⟩:=hown
 rcases hr with⟨h,_⟩ | ⟨g,cap',cur,hv,hbg,hg,hcap,hcm,hcs,htake⟩
 ·simp at h
 ·simp at hv
  obtain⟨rfl,rfl⟩:=hv
  simp only[Nat.mul_one] at hcs htake hlen
  by_cases hroom:16<=cap
  ·refine⟨b,cap,w.setRow b (cur.toList.take 8++z8L++cur.toList.drop 16).toArray,?_,?_,?_⟩
   ·have hst:=run_storeCells_at (P:=Tryz.prog) b 8 34 z8L 0 cur w hg (by simp;omega) (by intro v hv;simp at hv;subst hv;rfl)
    simp only[Nat.add_zero] at hst
    have hw:IntKind.i64.wrap (8:Int)=8:=by decide
    simp[Builtin.append_,run_underlying Tryz.underlying138,run_underlying Tryz.underlying3,sizeOf,typeInfo,zeroValue,hi0,hz0,hz1,hz2,asInt,asIntOf,hw,hroom,zc8L,Addr.add_lit,hst]
   ·intro i u hu
    rw[cell_setRow_same w b i cur _ 34 (0,0) hg]
    rw[htake]
    have hi:i<16:=by
     have:=(List.getElem?_eq_some_iff.1 hu).1
     simp[hlen] at this;exact this
    rw[List.getElem?_toArray,List.getElem?_append_left (by simp[hlen];omega)]
    exact hu
   ·exact below_setRow (Below.refl _ _) hbg _
  ·have hold:(Builtin.firstCells i0.size 8 (.slice (some ⟨b,0,none⟩) 8 cap)).run Tryz.prog w.drew= .ok xs.toArray w.drew:=by
    refine run_firstCells_some (P:=Tryz.prog) w.drew i0.size 8 ⟨b,0,none⟩ 8 cap xs (by rw[hz1];simpa using hlen) ?_
    intro j v hj
    have hadd:(⟨b,0,none⟩:Addr).add j=⟨b,j,none⟩:=by unfold Addr.add;split<;>simp_all
    rw[hadd]
    show w.cell? ⟨b,j,none⟩=some v
    rw[cell_of_row w b j cur 34 (0,0) hg]
    rw[<-htake,List.getElem?_take] at hj
    split at hj
    ·simpa using hj
    ·cases hj
   have hrun:=Lib.run_append_grow_zeros (P:=Tryz.prog) w 138 3 138 34 i0 (iU 0) .i64 .i64 Tryz.underlying138 Tryz.underlying3 hi0 hz0 (some ⟨b,0,none⟩) 8 cap xs hold 8 (by omega) (by omega) (by omega) (by simp) (by rw[hz2];omega) (by
    rw[hz2];unfold Builtin.nextslicecap;split
    ·omega
    ·rw[if_pos (by omega)];omega)
   refine⟨_,_,_,hrun,?_,?_⟩
   ·intro i u hu
    rw[cell_of_row _ w.heap.size i _ 34 (0,0) (heap_alloc_new w.drew _)]
    rw[zc8L]
    have hi:i<16:=by
     have:=(List.getElem?_eq_some_iff.1 hu).1
     simp[hlen] at this;exact this
    rw[Array.getElem?_append_left (by simp[hlen];omega)]
    simpa using hu
   ·exact((Below.refl _ _).drew).alloc hbase _
theorem lo32(x:Int):H32 (x%4294967296):=by unfold H32;omega
theorem hi32(x:Int)(h:W64 x):H32 (x/4294967296):=by unfold W64 at h;unfold H32;omega
theorem z32L:H32 0:=by unfold H32;omega
theorem lohi(x:Int):x%4294967296+x/4294967296*4294967296=x:=by omega
theorem zz:(0:Int)+0*4294967296=0:=by omega
theorem rWiden_any(p q r s:Int)(w:World)(hp:W64 p)(hq:W64 q)(hr:W64 r)(hs:W64 s):
 CC 69 #[A4 p q r s] w (A8 p q r s 0 0 0 0):=by
 have hW:=fun(g cap:Nat) (w:World)=>wide_any g cap (p%4294967296) (p/4294967296) (q%4294967296) (q/4294967296) (r%4294967296) (r/4294967296) (s%4294967296) (s/4294967296) 0 0 0 0 0 0 0 0 w
 simp only[lohi,zz] at hW
 have HW:=hW
 clear hW
 have hWW:Hid _:=HW
 clear HW
 go_enter Tryz.func69,Tryz.ntmps69
 go_wp2_with fail
 refine(Vg _ p q r s _ (by unfold C4;simp[go_sem]) hp hq hr hs).mono ?_
 rintro e w1 ⟨b,cap,rfl,hown,hB⟩
 simp only[World.size_alloc] at hown
 obtain⟨b',cap',w2,hrun,hcells,hB2⟩:=run_app16 w1 _ b cap _ (by have:=hB.size;simp at this;omega) hown
 clear hown
 have hR:Hid _:=hrun
 clear hrun
 go_wp2_with (at_builtin;refine Lib.wpList_append_run _ rfl _ _ _ _ rfl _ _ rfl rfl _ _ hR.out ?_)
 refine(hWW.out b' cap' _ (hcells 0 _ rfl) (hcells 1 _ rfl) (hcells 2 _ rfl) (hcells 3 _ rfl) (hcells 4 _ rfl) (hcells 5 _ rfl) (hcells 6 _ rfl) (hcells 7 _ rfl) (hcells 8 _ rfl) (hcells 9 _ rfl) (hcells 10 _ rfl) (hcells 11 _ rfl) (hcells 12 _ rfl) (hcells 13 _ rfl) (hcells 14 _ rfl) (hcells 15 _ rfl) (lo32 p) (hi32 p hp) (lo32 q) (hi32 q hq) (lo32 r) (hi32 r hr) (lo32 s) (hi32 s hs) z32L z32L z32L z32L z32L z32L z32L z32L).mono ?_
 rintro e w3 ⟨rfl,hB3⟩
 simp only[Bw,World.size_alloc] at hB
 have hsz1:=hB.size
 have hsz2:=hB2.size
 have hsz3:=hB3.size
 simp only[World.size_alloc] at hsz1
 have hall:=hB.trans (hB2.trans (hB3.mono (by omega)))
 clear hB hB2 hB3 hcells
 have hcell: ∀o,w3.cell? ⟨w.heap.size+1,o,none⟩=_:=fun o=>hall.cell (p:=⟨w.heap.size+1,o,none⟩) (by show w.heap.size+1<w.heap.size+1+1;omega)
 have hfroz: ∀o,w3.frozen? ⟨w.heap.size+1,o,none⟩=_:=fun o=>hall.frozen (p:=⟨w.heap.size+1,o,none⟩) (by show w.heap.size+1<w.heap.size+1+1;omega)
 go_wp2
 refine bodyPost_ret (v:=A8 p q r s 0 0 0 0) (by simp[results,Tryz.results69,go_sem,hcell]) rfl ⟨rfl,?_⟩
 have hB':Bw w w3:=Below.trans (by go_grown) (hall.mono (by omega))
 go_grown
end
end Go.Proofs.YtclafkfelkmigaaGreatDoor
