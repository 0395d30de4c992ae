import Derived.Test.YtgieoghechekpaaGreatDoorAPC
namespace Go.Proofs.YtgieoghechekpaaGreatDoor
set_option linter.unusedVariables false
set_option linter.unusedSimpArgs false
set_option maxRecDepth 100000
set_option maxHeartbeats 4000000
section
section
section ring
variable {R:Type} [Lean.Grind.CommRing R]
def cR(z:Int):R:= @Int.cast R Lean.Grind.Ring.intCast z
theorem cR_add(x y:Int):(cR (x+y):R)=cR x+cR y:=Lean.Grind.Ring.intCast_add x y
theorem cR_mul(x y:Int):(cR (x*y):R)=cR x*cR y:=Lean.Grind.Ring.intCast_mul x y
theorem cR_sub(x y:Int):(cR (x -y):R)=cR x -cR y:=Lean.Grind.Ring.intCast_sub x y
theorem cR_1:(cR 1:R)=1:=Lean.Grind.Ring.intCast_one
theorem cR_0:(cR 0:R)=0:=Lean.Grind.Ring.intCast_zero
def sfx(xs vs:List Int)(k:Nat):List (R×R):=((xs.zip vs).drop k).map fun p=>(cR p.1,cR p.2)
theorem sfx_at{xs vs:List Int}{k:Nat}(hl:vs.length=xs.length)(h:k<xs.length):(sfx xs vs k:List (R×R))=(cR (xs.getD k 0),cR (vs.getD k 0))::sfx xs vs (k+1):=by
 unfold sfx
 rw[List.drop_eq_getElem_cons (by simp;omega),List.map_cons,List.getElem_zip]
 simp[List.getElem?_eq_getElem h,List.getElem?_eq_getElem (show k<vs.length by omega)]
theorem sfx_end{xs vs:List Int}(hl:vs.length=xs.length):(sfx xs vs xs.length:List (R×R))=[]:=by
 unfold sfx
 rw[List.drop_eq_nil_of_le (by simp;omega),List.map_nil]
theorem sfx_len{xs vs:List Int}(hl:vs.length=xs.length):(sfx xs vs 0:List (R×R)).length=xs.length:=by simp[sfx,hl]
def preR(xs:List Int):Nat->R->R
 | 0=>fun _=>1
 | k+1=>fun z=>preR xs k z*(z -cR (xs.getD k 0))
def mdR(xs:List Int)(z:R)(a:Nat):Nat->R
 | 0=>1
 | m+1=>mdR xs z a m*(z -cR (xs.getD (a+m) 0))
theorem mdR_sfx{xs vs:List Int}(hl:vs.length=xs.length)(z:R)(a:Nat): ∀m,a+m<=xs.length->mdR xs z a m*pP z (sfx xs vs (a+m))=pP z (sfx xs vs a)
 | 0,h=>by rw[mdR,Nat.add_zero];grind
 | m+1,h=>by
  rw[<-mdR_sfx hl z a m (by omega),sfx_at hl (show a+m<xs.length by omega),mdR,pP]
  rw[<-Nat.add_assoc];grind
theorem preR_zero{xs:List Int}{k:Nat}: ∀{i},k<i->(preR xs i (cR (xs.getD k 0)):R)=0
 | 0,h=>by omega
 | i+1,h=>by
  rw[preR]
  by_cases e:k=i
  ·subst e;grind
  ·show preR xs i (cR (xs.getD k 0))*(cR (xs.getD k 0) -cR (xs.getD i 0))=0
   rw[preR_zero (show k<i by omega)];grind
theorem pP_zero{xs vs:List Int}(hl:vs.length=xs.length){k:Nat}(hk:k<xs.length): ∀(d:Nat),d<=k->(pP (cR (xs.getD k 0)) (sfx xs vs (k -d)):R)=0
 | 0,_=>by rw[Nat.sub_zero,sfx_at hl hk,pP];grind
 | d+1,h=>by
  rw[sfx_at hl (show k -(d+1)<xs.length by omega),pP,show k -(d+1)+1=k -d by omega,pP_zero hl hk d (by omega)];grind
variable (p:Nat) [Lean.Grind.IsCharP R p]
theorem Yj(x:Int):(cR (x%(p:Int)):R)=cR x:=Lean.Grind.IsCharP.intCast_emod p x
theorem cR_ext{x y:Int}:(cR x:R)=cR y↔x%(p:Int)=y%(p:Int):=Lean.Grind.IsCharP.intCast_ext_iff p
theorem cR_ah(t:Int)(xs:List Int): ∀k,(cR (ahN p t xs k):R)=preR xs k (cR t)
 | 0=>by rw[ahN,preR,cR_1]
 | k+1=>by rw[ahN,preR,Yj,cR_mul,Yj,cR_sub,cR_ah t xs k]
theorem cR_bh{xs vs:List Int}(hl:vs.length=xs.length)(t:Int): ∀k,k<=xs.length->(cR (bhN p t xs k):R)=pP (cR t) (sfx xs vs (xs.length -k))
 | 0,_=>by rw[bhN,Nat.sub_zero,sfx_end hl,pP,cR_1]
 | k+1,h=>by
  rw[bhN,Yj,cR_mul,Yj,cR_sub,cR_bh hl t k (by omega),sfx_at hl (show xs.length -(k+1)<xs.length by omega),pP,show xs.length -(k+1)+1=xs.length -k by omega,show xs.length -1 -k=xs.length -(k+1) by omega]
  grind
theorem cR_ds{xs:List Int}{i:Nat}: ∀j,(cR (dsN p xs i j):R)=if j<=i then preR xs j (cR (xs.getD i 0)) else preR xs i (cR (xs.getD i 0))*mdR xs (cR (xs.getD i 0)) (i+1) (j -(i+1))
 | 0=>by rw[dsN,if_pos (Nat.zero_le _),preR,cR_1]
 | j+1=>by
  rw[dsN]
  by_cases e:j=i
  ·rw[if_pos e,cR_ds j,if_pos (by omega),if_neg (by omega),e,Nat.sub_self,mdR];grind
  ·rw[if_neg e,Yj,cR_mul,Yj,cR_sub,cR_ds j]
   by_cases h:j<=i
   ·rw[if_pos h,if_pos (by omega),preR]
   ·rw[if_neg h,if_neg (by omega),show j+1 -(i+1)=(j -(i+1))+1 by omega,mdR,show i+1+(j -(i+1))=j by omega];grind
theorem cR_dst{xs vs:List Int}(hl:vs.length=xs.length){i:Nat}(hi:i<xs.length):(cR (dsN p xs i xs.length):R)=preR xs i (cR (xs.getD i 0))*pP (cR (xs.getD i 0)) (sfx xs vs (i+1)):=by
 rw[cR_ds p,if_neg (by omega),<-mdR_sfx hl (cR (xs.getD i 0)) (i+1) (xs.length -(i+1)) (by omega),show i+1+(xs.length -(i+1))=xs.length by omega,sfx_end hl,pP];grind
theorem cR_inv{a x:Int}(h:IsInv (a%(p:Int)) p x):(cR x:R)*cR a=1:=by
 rw[<-Yj (R:=R) p a,<-cR_mul,<-cR_1,cR_ext p]
 obtain⟨c,hc⟩:=h.2.2
 rw[show x*(a%(p:Int))=1+(p:Int)*c by omega,Int.add_mul_emod_self_left]
theorem wt_sfx{xs vs:List Int}(h:Invs p xs vs): ∀d,d<=xs.length->wtP (preR xs (xs.length -d):R->R) (sfx xs vs (xs.length -d))
 | 0,_=>by rw[Nat.sub_zero,sfx_end h.1];trivial
 | d+1,hd=>by
  have hi:xs.length -(d+1)<xs.length:=by omega
  rw[sfx_at h.1 hi]
  refine⟨?_,?_⟩
  ·rw[<-cR_dst p h.1 hi];exact cR_inv p (h.2 _ hi)
  ·have:=wt_sfx h d (by omega)
   rw[show xs.length -(d+1)+1=xs.length -d by omega]
   rwa [show xs.length -d=(xs.length -(d+1))+1 by omega] at this⊢
theorem wt_all{xs vs:List Int}(h:Invs p xs vs):wtP (fun _=>(1:R)) (sfx xs vs 0):=by
 have:=wt_sfx (R:=R) p h xs.length (Nat.le_refl _)
 rwa [Nat.sub_self] at this
theorem cR_fac{xs vs:List Int}(hl:vs.length=xs.length)(t:Int){i:Nat}(hi:i<xs.length):(cR ((fac p t xs vs).getD i 0):R)=cR (vs.getD i 0)*(preR xs i (cR t)*pP (cR t) (sfx xs vs (i+1))):=by
 rw[fac_get hi,Yj,cR_mul,Yj,cR_mul,cR_ah,cR_bh p hl t _ (by omega),show xs.length -(xs.length -1 -i)=i+1 by omega];grind
theorem ga_go{xs vs:List Int}(hl:vs.length=xs.length)(t:Int): ∀k,k<=xs.length->cR (gat (fun a b=>(a+b)%(p:Int)) (0%(p:Int)) (fac p t xs vs) k)+smP (fun _=>(1:R)) (preR xs k) (cR t) (sfx xs vs k)=smP (fun _=>1) (fun _=>1) (cR t) (sfx xs vs 0)
 | 0,_=>by rw[gat,Yj,cR_0];show 0+smP (fun _=>1) (fun _=>1) _ _=_;grind
 | k+1,h=>by
  rw[<-ga_go hl t k (by omega),gat,Yj,cR_add,cR_fac p hl t (show k<xs.length by omega),sfx_at hl (show k<xs.length by omega),smP]
  show _+smP (fun _=>1) (fun z=>preR xs k z*(z -cR (xs.getD k 0))) _ _=_
  grind
end ring
theorem oneN(p:Nat)[NeZero p](hp2:2<=p){xs vs:List Int}(h:Invs p xs vs)(h1:1<=xs.length)(t:Int):gat (fun a b=>(a+b)%(p:Int)) (0%(p:Int)) (fac p t xs vs) (fac p t xs vs).length=1:=by
 have e1:=ga_go (R:=Fin p) p h.1 t xs.length (Nat.le_refl _)
 have hne:(sfx xs vs 0:List (Fin p×Fin p))≠[]:=fun e=>by
  have:=sfx_len (R:=Fin p) h.1
  rw[e] at this;simp at this;omega
 rw[sfx_end h.1,smP,onP xs.length (sfx xs vs 0) (cR t) (sfx_len h.1) hne (wt_all p h),<-cR_1] at e1
 have e2:(cR (gat (fun a b=>(a+b)%(p:Int)) (0%(p:Int)) (fac p t xs vs) xs.length):Fin p)=cR 1:=by rw[<-e1];grind
 rw[cR_ext p] at e2
 rw[Ys]
 have r1: ∀k,0<=gat (fun a b=>(a+b)%(p:Int)) (0%(p:Int)) (fac p t xs vs) k/\gat (fun a b=>(a+b)%(p:Int)) (0%(p:Int)) (fac p t xs vs) k<p:=fun k=>by
  cases k with
  | zero=>exact⟨Int.emod_nonneg _ (by omega),Int.emod_lt_of_pos _ (by omega)⟩
  | succ k=>exact⟨Int.emod_nonneg _ (by omega),Int.emod_lt_of_pos _ (by omega)⟩
 rw[Int.emod_eq_of_lt (r1 _).1 (r1 _).2,show (1:Int)%(p:Int)=1 from Int.emod_eq_of_lt (by omega) (by omega)] at e2
 exact e2
theorem fac_rng{q:Int}(hq:0<q){t:Int}{xs vs:List Int}{i:Nat}(hi:i<xs.length):0<=(fac q t xs vs).getD i 0/\(fac q t xs vs).getD i 0<q:=by
 rw[fac_get hi];exact⟨Int.emod_nonneg _ (by omega),Int.emod_lt_of_pos _ hq⟩
theorem atN(p:Nat)[NeZero p](hp2:2<=p){xs vs:List Int}(h:Invs p xs vs){i k:Nat}(hi:i<xs.length)(hk:k<xs.length):(fac p (xs.getD k 0) xs vs).getD i 0=if i=k then 1 else 0:=by
 have r1:=fac_rng (q:=p) (by omega) (t:=xs.getD k 0) (xs:=xs) (vs:=vs) hi
 have e:=cR_fac (R:=Fin p) p h.1 (xs.getD k 0) hi
 have hz:(cR ((fac p (xs.getD k 0) xs vs).getD i 0):Fin p)=cR (if i=k then 1 else 0):=by
  rw[e]
  by_cases hik:i=k
  ·subst hik
   rw[if_pos rfl,cR_1,<-cR_dst p h.1 hi];exact cR_inv p (h.2 _ hi)
  ·rw[if_neg hik,cR_0]
   by_cases hlt:k<i
   ·rw[preR_zero hlt];grind
   ·have:=pP_zero (R:=Fin p) h.1 hk (k -(i+1)) (by omega)
    rw[show k -(k -(i+1))=i+1 by omega] at this
    rw[this];grind
 rw[cR_ext p,Int.emod_eq_of_lt r1.1 r1.2] at hz
 rw[hz]
 split
 ·exact Int.emod_eq_of_lt (by omega) (by omega)
 ·simp
end
def UN(q a:Int):Prop:= ∃b,q∣b*a -1
theorem UN.one(q:Int):UN q 1:=⟨1,⟨0,by simp⟩⟩
theorem UN.mul{q a b:Int}(ha:UN q a)(hb:UN q b):UN q (a*b):=by
 obtain⟨x,k,hx⟩:=ha
 obtain⟨y,m,hy⟩:=hb
 exact⟨x*y,k*(y*b)+m,by grind⟩
theorem UN.mod{q a:Int}(h:UN q a):UN q (a%q):=by
 obtain⟨x,k,hx⟩:=h
 have e:=Int.emod_add_mul_ediv a q
 exact⟨x,k -x*(a/q),by grind⟩
theorem UN.neg{q a:Int}(h:UN q a):UN q (-a):=by
 obtain⟨x,k,hx⟩:=h
 exact⟨-x,k,by grind⟩
theorem UN.inv{q a:Int}(hq:0<q)(h:UN q a): ∃v,IsInv (a%q) q v:=by
 obtain⟨x,k,hx⟩:=h
 have e:=Int.emod_add_mul_ediv a q
 have e2:=Int.emod_add_mul_ediv x q
 refine⟨x%q,Int.emod_nonneg _ (by omega),Int.emod_lt_of_pos _ hq,⟨k -(x/q)*a -(x%q)*(a/q),?_⟩⟩
 generalize a%q=r at *
 generalize a/q=s at *
 generalize x%q=u at *
 generalize x/q=v at *
 grind
theorem ds_un{q:Int}{xs:List Int}{i:Nat}(h: ∀j,j<xs.length->j≠i->UN q (xs.getD i 0 -xs.getD j 0)): ∀j,j<=xs.length->UN q (dsN q xs i j)
 | 0,_=>UN.one q
 | j+1,hj=>by
  rw[dsN];split
  ·exact ds_un h j (by omega)
  ·next e=>exact((ds_un h j (by omega)).mul (h j (by omega) e).mod).mod
theorem list_of2{p:Nat->Int->Prop}: ∀n,(∀i,i<n-> ∃z,p i z)-> ∃ns:List Int,ns.length=n/\ ∀i,i<n->p i (ns.getD i 0)
 | 0,_=>⟨[],rfl,fun i hi=>by omega⟩
 | n+1,h=>by
  obtain⟨ns,hl,hp⟩:=list_of2 n (fun i hi=>h i (by omega))
  obtain⟨z,hz⟩:=h n (by omega)
  refine⟨ns++[z],by simp[hl],fun i hi=>?_⟩
  by_cases e:i=n
  ·subst e
   have:(ns++[z]).getD i 0=z:=by rw[<-hl];simp
   rw[this];exact hz
  ·have:(ns++[z]).getD i 0=ns.getD i 0:=by simp[List.getElem?_append_left (show i<ns.length by omega)]
   rw[this];exact hp i (by omega)
theorem invs_ex{q:Int}(hq:0<q){xs:List Int}(h: ∀i j,i<xs.length->j<xs.length->j≠i->UN q (xs.getD i 0 -xs.getD j 0)): ∃vs,Invs q xs vs:=by
 obtain⟨vs,hl,hv⟩:=list_of2 (p:=fun i z=>IsInv (dsN q xs i xs.length%q) q z) xs.length (fun i hi=>(ds_un (fun j hj hne=>h i j hi hj hne) xs.length (Nat.le_refl _)).inv hq)
 exact⟨vs,hl,hv⟩
abbrev OQ:Int:=581039633
theorem OQ_small: ∀d:Fin 64,d.val≠0->gI OQ (d.val:Int)=1:=by decide+kernel
theorem un_small{d:Int}(h0:d≠0)(h1: -64<d)(h2:d<64):UN OQ d:=by
 have key: ∀e:Int,0<e->e<64->UN OQ e:=fun e he h=>by
  have hg:=OQ_small ⟨e.toNat,by omega⟩ (by show e.toNat≠0;omega)
  have he2:((e.toNat:Nat):Int)=e:=Int.toNat_of_nonneg (by omega)
  rw[show (((⟨e.toNat,by omega⟩:Fin 64).val:Nat):Int)=e from he2] at hg
  obtain⟨x,hx⟩:=IsInv.ex (m:=OQ) (a:=e) (by omega) (by unfold OQ;omega) hg
  exact⟨x,hx.2.2⟩
 by_cases hp:0<d
 ·exact key d hp h2
 ·have:=(key (-d) (by omega) (by omega)).neg
  rwa [Int.neg_neg] at this
def Apart(xs:List Int):Prop:=xs.Nodup/\ ∀x∈xs,1<=x/\x<64
theorem Apart.invs{xs:List Int}(h:Apart xs): ∃vs,Invs OQ xs vs:=by
 refine invs_ex (by decide) fun i j hi hj hne=>?_
 have ei:xs.getD i 0=xs[i]:=by simp[List.getElem?_eq_getElem hi]
 have ej:xs.getD j 0=xs[j]:=by simp[List.getElem?_eq_getElem hj]
 rw[ei,ej]
 have hi2:=h.2 _ (List.getElem_mem hi)
 have hj2:=h.2 _ (List.getElem_mem hj)
 have hn:xs[i]≠xs[j]:=by
  have hp:=List.pairwise_iff_getElem.1 h.1
  rcases Nat.lt_or_gt_of_ne hne with hlt | hlt
  ·exact fun e=>hp j i hj hi hlt e.symm
  ·exact hp i j hi hj hlt
 exact un_small (by omega) (by omega) (by omega)
theorem invs11:Invs 11 [1,2] [10,1]:=by
 refine⟨rfl,fun i hi=>?_⟩
 match i,hi with
 | 0,_=>exact⟨by decide,by decide,⟨9,by decide⟩⟩
 | 1,_=>exact⟨by decide,by decide,⟨0,by decide⟩⟩
end
section
open Go.RowKit
theorem Zq(n:Int)(w:World)(h0:0<=n)(h1:n<9223372036854775808):CC 19 #[.int .i64 n] w (NV n):=by
 rw[NV_small h0 (by omega)]
 have hw:IntKind.u64.wrap n=n:=by simp[IntKind.wrap,IntKind.signed,IntKind.bits];omega
 go_enter Tryz.func19,Tryz.ntmps19
 go_wp2
 go_returns
 exact⟨by simp,by go_grown⟩
theorem eqb(p q:Operand){n m:Int}(hn:In n)(hm:In m)(b:Bool)(hb:decide (n=m)=b)(w:World):(do eqGuard .eql 24 p q (NV n) (NV m);binOp .eql 24 (NV n) (NV m):Sem Value).run Tryz.prog w= .ok (.bool b) w:=eql_n p q hn hm b hb w
def I2(a b:Int)(u:World)(v:Value):Prop:=IL u v [a,b]
theorem I2.stab{a b:Int}{u u2:World}{x:Value}(hB:Bw u u2)(h:I2 a b u x):I2 a b u2 x:=IL.up h hB
theorem bsI2(a b:Int)(w:World):(Instr.buildSlice 26 2 ([0,1].zip [.int .i64 a,.int .i64 b]).toArray).run Tryz.prog w= .ok (.slice (some ⟨w.heap.size,0,none⟩) 2 2) (w.alloc (.cells [Value.int .i64 a,.int .i64 b].toArray 3)):=by kernel_rfl
theorem inI2(a b:Int)(u:World):I2 a b (u.alloc (.cells [Value.int .i64 a,.int .i64 b].toArray 3)) (.slice (some ⟨u.heap.size,0,none⟩) 2 2):=
 ⟨_,u.heap.size,0,2,rfl,by simp,by simp,.inr rfl,.inr (by simp),fun j hj=>by
  match j,hj with
  | 0,_=>simp
  | 1,_=>simp⟩
def W2(lo:Nat)(u:World)(v:Value):Prop:= ∃b,v= .slice (some ⟨b,0,none⟩) 2 2/\lo<=b/\b<u.heap.size/\CV u b (flN [1,5,2,7])
theorem W2.stab{lo:Nat}{u u2:World}{x:Value}(hB:Bw u u2)(h:W2 lo u x):W2 lo u2 x:=by
 obtain⟨b,e,h1,h2,h3⟩:=h
 exact⟨b,e,h1,Nat.lt_of_lt_of_le h2 hB.size,h3.below hB h2⟩
def W2t(lo:Nat)(u:World)(v:Value):Prop:= ∃y,v= .tuple #[y,.int .i64 0]/\W2 lo u y
theorem W2t.stab{lo:Nat}{u u2:World}{x:Value}(hB:Bw u u2)(h:W2t lo u x):W2t lo u2 x:=by
 obtain⟨y,e,h⟩:=h
 exact⟨y,e,h.stab hB⟩
theorem W2.of{lo:Nat}{u:World}{v:Value}(h:PRp lo (pts 11 [3,2] [1,2]) u v):W2 lo u v:=by
 have e:pts 11 [3,2] [1,2]=[(1,5),(2,7)]:=by decide
 rw[e] at h
 exact h
theorem W2.pl{lo:Nat}{u:World}{v:Value}(h:W2 lo u v):PtL u v [(1,5),(2,7)]:=PRp.pl (lo:=lo) h
theorem ixPa(g n cap:Nat)(h:0<n)(w:World):(Instr.indexAt 31 (.slice (some ⟨g,0,none⟩) n cap) (.int .i64 0)).run Tryz.prog w= .ok (.pointer (some ⟨g,0,none⟩)) w:=ixPZ g n cap 0 h w
theorem ixPb(g n cap:Nat)(h:1<n)(w:World):(Instr.indexAt 31 (.slice (some ⟨g,0,none⟩) n cap) (.int .i64 1)).run Tryz.prog w= .ok (.pointer (some ⟨g,8,none⟩)) w:=ixPZ g n cap 1 h w
theorem ent_poly_Eval:EnT 8:=fun _ _=>by kernel_rfl
theorem ent_poly_Points:EnT 10:=fun _ _=>by kernel_rfl
theorem Xj:EnT 37:=fun _ _=>by kernel_rfl
theorem cWorks(w:World)(hG:GP w):
 CC 16 #[] w (.bool true):=by
 go_enter Tryz.func16,Tryz.ntmps16
 go_upto_region 2 with(go_at_call 19;first | (refine(Zq 11 w (by omega) (by omega)).mono ?_;rintro e ua ⟨rfl,hBa⟩) | (refine(Zq 3 ua (by omega) (by omega)).mono ?_;rintro e ub ⟨rfl,hBb⟩) | (refine(Zq 2 ub (by omega) (by omega)).mono ?_;rintro e uc ⟨rfl,hBc⟩))
 generalize hC:(uc.alloc (.cells (PtE 3 2:List Value).toArray 24)).alloc (.cells (LN 11:List Value).toArray 24)=v0 at *
 have hB0:Bw w v0:=by rw[<-hC];exact Z0 (Z0 (Z4 (Z4 hBa hBb) hBc) _) _
 have KQ:CV v0 (uc.heap.size+1) (LN 11):=by rw[<-hC];exact CV.newAt _ _ _ _ (by simp)
 have lQ:uc.heap.size+1<v0.heap.size:=by rw[<-hC];simp
 have fl_0:NL v0 (.slice (some ⟨uc.heap.size,0,none⟩) 2 2) [3,2]:=by rw[<-hC];exact NL.up (inN2 3 2 uc) (Z0 (Z2 _) _)
 have HB0:Bw v0 v0:=Below.refl _ _
 clear hC
 have K0_1:Bk v0.heap.size v0 [(false,uc.heap.size+1,LN 11)]:=⟨.c lQ KQ<|trivial,by simp⟩
 go_upto_region 2 with fail
 refine rgD K0_1 HB0 HB0.size [] [(7,3,L0s,some (8,LN 0))] [(0,14,NV 11),(1,15,.slice (some ⟨uc.heap.size,0,none⟩) 2 2),(2,16,NV 4),(3,17,.tuple #[NV 0,.int .i64 0]),(4,13,.tuple #[NV 0,.int .i64 0]),(5,18,NV 0),(6,19,.int .i64 0),(9,4,.int .i64 0)] [(8,7)] [] [] ?_ ?_
 ·exact oc (g_ld 0 uN iN)<|oc g_mv<|oc (g_cl Z5 (fun uZ=>Zq 4 uZ (by omega) (by omega)))<|oc (g_cb ent_poly_Eval (fun uZ bZ=>by have h:=cEval 11 4 [3,2] (.slice (some ⟨uc.heap.size,0,none⟩) 2 2) uZ ((hG.below hB0).below bZ) (⟨by decide,by decide⟩:In 11) (by decide) ⟨by decide,by decide⟩ (fl_0.up bZ) (by intro z hz;simp at hz;rcases hz with rfl | rfl<;>exact⟨by decide,by decide⟩) (by decide) (by decide);rw[show hoN 11 4 [3,2] ([3,2]:List Int).length=0 from by decide] at h;exact h))<|oc g_mv<|oc g_ex<|oc g_ex<|oc (g_al 0 aN)<|oc (g_sn 0 iN)<|oc g_as on
 intro u1 b1_7 HB1 sz1 K1
 simp only[sQ] at K1⊢
 clear HB0
 go_upto_region 3 with fail
 refine rgF K1 HB1 HB1.size [] [] [(0,21,NV 11),(1,22,.slice (some ⟨uc.heap.size,0,none⟩) 2 2),(6,26,.int .i64 0),(8,6,.int .i64 0)] [] [] [⟨2,23,some 3,I2 1 2⟩,⟨3,24,none,W2t u1.heap.size⟩,⟨4,20,none,W2t u1.heap.size⟩,⟨5,25,some 7,W2 u1.heap.size⟩,⟨7,5,none,W2 u1.heap.size⟩] [] (.cons (fun _ _ _ h1 h2=>h2.stab h1)<| .cons (fun _ _ _ h1 h2=>h2.stab h1)<| .cons (fun _ _ _ h1 h2=>h2.stab h1)<| .cons (fun _ _ _ h1 h2=>h2.stab h1)<| .cons (fun _ _ _ h1 h2=>h2.stab h1)<|Stab.nil) ?_ ?_
 ·exact oc (g_ld 0 uN iN)<|oc g_mv<|oc (g_bS 0 (I2 1 2) [0,1] [.int .i64 1,.int .i64 2] (bsI2 1 2) (fun u=>inI2 1 2 u))<|oc (g_cZ 0 1 (I2 1 2) (W2t u1.heap.size) (fun y=>[NV 11,(.slice (some ⟨uc.heap.size,0,none⟩) 2 2),y]) ent_poly_Points (fun u y bZ hs hy=>(cPoints 11 [3,2] [1,2] (.slice (some ⟨uc.heap.size,0,none⟩) 2 2) y u ((hG.below hB0).below bZ) (⟨by decide,by decide⟩:In 11) (by decide) (fl_0.up bZ) (by intro z hz;simp at hz;rcases hz with rfl | rfl<;>exact⟨by decide,by decide⟩) (by decide) (by decide) hy (by intro z hz;simp at hz;rcases hz with rfl | rfl<;>decide) (by decide)).mono fun e u2 ⟨v,e1,h1,h2⟩=>⟨_,e1,⟨v,rfl,(W2.of (by obtain⟨b,q1,q2,q3⟩:=h1;exact⟨b,q1,Nat.le_trans hs q2,q3⟩))⟩,h2⟩))<|oc (g_mE 1 2 (W2t u1.heap.size))<|oc (g_xE 2 3 (W2t u1.heap.size) (W2 u1.heap.size) (fun u v ⟨y,e,h⟩=>⟨_,y,e,rfl,h⟩))<|oc (g_xV 2 (W2t u1.heap.size) (fun u v ⟨y,e,h⟩=>⟨_,e,rfl⟩))<|oc (g_sE 3 4 (W2 u1.heap.size))<|oc g_as on
 intro u2 v2_2 hv2_2 v2_3 hv2_3 v2_4 hv2_4 v2_5 hv2_5 v2_7 hv2_7 HB2 sz2 K2
 simp only[sQ] at K2⊢
 clear K1 HB1
 have hW:=hv2_7 rfl
 have hWl:=hW.pl
 obtain⟨bp,rfl,p1,p2,p3⟩:=hW
 have hnK2:=K2.n
 simp at hnK2
 have hT2:Bw w u2:=Z4 hB0 HB2
 have fl_2:NL u2 (.slice (some ⟨uc.heap.size,0,none⟩) 2 2) [3,2]:=fl_0.up HB2
 have fp_2:PtL u2 (.slice (some ⟨bp,0,none⟩) 2 2) [(1,5),(2,7)]:=hWl
 have HBz2:Bw u2 u2:=Below.refl _ _
 have hbp:bp<u2.heap.size:=p2
 have hY0:u2.rangeAt bp (0+4) (LN 5):=fun j v hj=>(p3 (4+j) v (by match j,hj with | 0,hj=>exact hj | 1,hj=>exact hj | 2,hj=>exact hj | 3,hj=>exact hj)).1
 have hY1:u2.rangeAt bp (8+4) (LN 7):=fun j v hj=>(p3 (12+j) v (by match j,hj with | 0,hj=>exact hj | 1,hj=>exact hj | 2,hj=>exact hj | 3,hj=>exact hj)).1
 have hY0:Hid _:=hY0
 have hY1:Hid _:=hY1
 have K2_2:Bk u2.heap.size u2 [(false,uc.heap.size+1,LN 11),(false,b1_7,LN 0)]:=⟨.c (K2.lt 0) (K2.cv 0)<| .c (K2.lt 1) (K2.cv 1)<|trivial,by simp<;>omega⟩
 go_upto_region 4 with fail
 refine rgP K2_2 HBz2 HBz2.size [] [(7,7,L0s,some (8,LN 3))] [(0,28,NV 11),(1,29,A4 (0) (0) (0) (0)),(2,30,.slice (some ⟨bp,0,none⟩) 2 2),(3,31,.tuple #[NV 3,.int .i64 0]),(4,27,.tuple #[NV 3,.int .i64 0]),(5,32,NV 3),(6,33,.int .i64 0),(9,8,.int .i64 0)] [(8,7)] [] [] ?_ ?_
 ·exact oc (g_ld 0 uN iN)<|oc (g_bd zN)<|oc g_mv<|oc (g_cb Xj (fun uZ bZ=>by have h:=cCombine 11 0 [10,1] [(1,5),(2,7)] (.slice (some ⟨bp,0,none⟩) 2 2) uZ ((hG.below hT2).below bZ) (⟨by decide,by decide⟩:In 11) (by decide) In_0 (fp_2.up bZ) (by intro z hz;simp at hz;rcases hz with rfl | rfl<;>exact⟨⟨by decide,by decide⟩,⟨by decide,by decide⟩⟩) (by decide) (by decide) invs11;rw[show smN 11 (fac 11 0 (List.map Prod.fst ([(1,5),(2,7)]:List (Int×Int))) [10,1]) [(1,5),(2,7)] ([(1,5),(2,7)]:List (Int×Int)).length=3 from by decide,NV_0] at h;exact h))<|oc g_mv<|oc g_ex<|oc g_ex<|oc (g_al 0 aN)<|oc (g_sn 0 iN)<|oc g_as on
 intro u3 b3_7 HB3 sz3 K3
 simp only[sQ] at K3⊢
 go_upto_region 5 with fail
 refine rgD K3 HB3 HB3.size [] [] [(0,34,NV 0),(1,35,A4 (0) (0) (0) (0)),(2,36,.bool true),(3,37,.bool true),(4,38,.int .i64 0),(5,39,.bool true),(6,40,.bool true),(7,41,.bool true),(8,42,.slice (some ⟨bp,0,none⟩) 2 2),(9,43,.int .i64 2),(10,44,.bool true),(11,45,.bool true),(12,46,.bool true),(13,47,.int .i64 0),(14,48,.bool true),(15,49,.bool true),(16,50,.bool true),(17,51,.slice (some ⟨bp,0,none⟩) 2 2),(18,52,.pointer (some ⟨bp,0,none⟩)),(19,53,.pointer (some ⟨bp,0+4,none⟩)),(20,54,NV 5),(21,55,NV 5),(22,56,.bool true),(23,57,.bool true),(24,58,.bool true),(25,59,.slice (some ⟨bp,0,none⟩) 2 2),(26,60,.pointer (some ⟨bp,8,none⟩)),(27,61,.pointer (some ⟨bp,8+4,none⟩)),(28,62,NV 7),(29,63,NV 7),(30,64,.bool true),(31,65,.bool true),(32,66,.bool true),(33,67,NV 3),(34,68,NV 3),(35,69,.bool true),(36,70,.bool true),(37,71,.bool true),(38,72,.int .i64 0),(39,73,.bool true),(40,74,.bool true),(41,0,.bool true)] [] [] [] ?_ ?_
 ·exact oc (g_ld 1 uN iN)<|oc (g_bd zN)<|oc (g_bn (fun uZ=>eql_0 _ _ In_0 true (by decide) uZ))<|oc g_mv<|oc g_mv<|oc (g_bn (fun uZ=>eql_i _ _ _ 0 0 _ uZ rfl))<|oc g_pk<|oc g_mv<|oc g_mv<|oc (g_ln Tryz.underlying31)<|oc (g_bn (fun uZ=>eql_i _ _ _ 2 2 _ uZ rfl))<|oc g_pk<|oc g_mv<|oc g_mv<|oc (g_bn (fun uZ=>eql_i _ _ _ 0 0 _ uZ rfl))<|oc g_pk<|oc g_mv<|oc g_mv<|oc (g_ix (fun uZ=>ixPa bp 2 2 (by decide) uZ))<|oc (g_fd (fun uZ=>fdP1 _ _ uZ))<|oc (g_lf hY0.out hbp uN iN)<|oc (g_cl Z5 (fun uZ=>Zq 5 uZ (by omega) (by omega)))<|oc (g_bn (fun uZ=>eqb _ _ (⟨by decide,by decide⟩:In 5) (⟨by decide,by decide⟩:In 5) true (by decide) uZ))<|oc g_pk<|oc g_mv<|oc g_mv<|oc (g_ix (fun uZ=>ixPb bp 2 2 (by decide) uZ))<|oc (g_fd (fun uZ=>fdP1 _ _ uZ))<|oc (g_lf hY1.out hbp uN iN)<|oc (g_cl Z5 (fun uZ=>Zq 7 uZ (by omega) (by omega)))<|oc (g_bn (fun uZ=>eqb _ _ (⟨by decide,by decide⟩:In 7) (⟨by decide,by decide⟩:In 7) true (by decide) uZ))<|oc g_pk<|oc g_mv<|oc (g_ld 2 uN iN)<|oc (g_cl Z5 (fun uZ=>Zq 3 uZ (by omega) (by omega)))<|oc (g_bn (fun uZ=>eqb _ _ (⟨by decide,by decide⟩:In 3) (⟨by decide,by decide⟩:In 3) true (by decide) uZ))<|oc g_pk<|oc g_mv<|oc g_mv<|oc (g_bn (fun uZ=>eql_i _ _ _ 0 0 _ uZ rfl))<|oc g_pk<|oc g_as on
 intro u4 HB4 sz4 K4
 simp only[sQ] at K4⊢
 clear K3 HB3
 go_wp2
 exact bodyPost_ret (v:= .bool true) (by simp[results,Tryz.results16,go_sem]) rfl ⟨rfl,Z4 hT2 HB4⟩
end
end Go.Proofs.YtgieoghechekpaaGreatDoor
