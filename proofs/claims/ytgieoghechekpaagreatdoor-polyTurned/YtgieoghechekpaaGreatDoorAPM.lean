import Derived.Test.YtgieoghechekpaaGreatDoorAPC
namespace Go.Proofs.YtgieoghechekpaaGreatDoor
set_option linter.unusedVariables false
set_option linter.unusedSimpArgs false
set_option maxRecDepth 100000
set_option maxHeartbeats 4000000
section
section
section ring
variable {R:Type} [Lean.Grind.CommRing R]
def cR(z:Int):R:= @Int.cast R Lean.Grind.Ring.intCast z
theorem cR_add(x y:Int):(cR (x+y):R)=cR x+cR y:=Lean.Grind.Ring.intCast_add x y
theorem Yp(x y:Int):(cR (x*y):R)=cR x*cR y:=Lean.Grind.Ring.intCast_mul x y
theorem cR_sub(x y:Int):(cR (x -y):R)=cR x -cR y:=Lean.Grind.Ring.intCast_sub x y
theorem cR_1:(cR 1:R)=1:=Lean.Grind.Ring.intCast_one
theorem cR_0:(cR 0:R)=0:=Lean.Grind.Ring.intCast_zero
def sfx(xs vs:List Int)(k:Nat):List (R×R):=((xs.zip vs).drop k).map fun p=>(cR p.1,cR p.2)
theorem sfx_at{xs vs:List Int}{k:Nat}(hl:vs.length=xs.length)(h:k<xs.length):(sfx xs vs k:List (R×R))=(cR (xs.getD k 0),cR (vs.getD k 0))::sfx xs vs (k+1):=by
 unfold sfx
 rw[List.drop_eq_getElem_cons (by simp;omega),List.map_cons,List.getElem_zip]
 simp[List.getElem?_eq_getElem h,List.getElem?_eq_getElem (show k<vs.length by omega)]
theorem sfx_end{xs vs:List Int}(hl:vs.length=xs.length):(sfx xs vs xs.length:List (R×R))=[]:=by
 unfold sfx
 rw[List.drop_eq_nil_of_le (by simp;omega),List.map_nil]
theorem sfx_len{xs vs:List Int}(hl:vs.length=xs.length):(sfx xs vs 0:List (R×R)).length=xs.length:=by simp[sfx,hl]
def preR(xs:List Int):Nat->R->R
 | 0=>fun _=>1
 | k+1=>fun z=>preR xs k z*(z -cR (xs.getD k 0))
def mdR(xs:List Int)(z:R)(a:Nat):Nat->R
 | 0=>1
 | m+1=>mdR xs z a m*(z -cR (xs.getD (a+m) 0))
theorem mdR_sfx{xs vs:List Int}(hl:vs.length=xs.length)(z:R)(a:Nat): ∀m,a+m<=xs.length->mdR xs z a m*pP z (sfx xs vs (a+m))=pP z (sfx xs vs a)
 | 0,h=>by rw[mdR,Nat.add_zero];grind
 | m+1,h=>by
  rw[<-mdR_sfx hl z a m (by omega),sfx_at hl (show a+m<xs.length by omega),mdR,pP]
  rw[<-Nat.add_assoc];grind
variable (p:Nat) [Lean.Grind.IsCharP R p]
theorem Zs(x:Int):(cR (x%(p:Int)):R)=cR x:=Lean.Grind.IsCharP.intCast_emod p x
theorem cR_ext{x y:Int}:(cR x:R)=cR y↔x%(p:Int)=y%(p:Int):=Lean.Grind.IsCharP.intCast_ext_iff p
theorem cR_ho(x:Int)(ns:List Int): ∀k,k<=ns.length->(cR (hoN p x ns k):R)=evPR ((ns.drop (ns.length -k)).map cR) (cR x)
 | 0,h=>by rw[hoN,Nat.sub_zero,List.drop_length,List.map_nil,evPR,cR_0]
 | k+1,h=>by
  have hi:ns.length -(k+1)<ns.length:=by omega
  rw[hoN,Zs,cR_add,Zs,Yp,cR_ho x ns k (by omega),List.drop_eq_getElem_cons hi,List.map_cons,evPR,show ns.length -(k+1)+1=ns.length -k by omega,show ns.length -1 -k=ns.length -(k+1) by omega]
  rw[show ns.getD (ns.length -(k+1)) 0=ns[ns.length -(k+1)] by simp[List.getElem?_eq_getElem hi]]
  grind
theorem cR_hoN(x:Int)(ns:List Int):(cR (hoN p x ns ns.length):R)=evPR (ns.map cR) (cR x):=by
 have:=cR_ho (R:=R) p x ns ns.length (Nat.le_refl _)
 rwa [Nat.sub_self,List.drop_zero] at this
theorem cR_ah(t:Int)(xs:List Int): ∀k,(cR (ahN p t xs k):R)=preR xs k (cR t)
 | 0=>by rw[ahN,preR,cR_1]
 | k+1=>by rw[ahN,preR,Zs,Yp,Zs,cR_sub,cR_ah t xs k]
theorem cR_bh{xs vs:List Int}(hl:vs.length=xs.length)(t:Int): ∀k,k<=xs.length->(cR (bhN p t xs k):R)=pP (cR t) (sfx xs vs (xs.length -k))
 | 0,_=>by rw[bhN,Nat.sub_zero,sfx_end hl,pP,cR_1]
 | k+1,h=>by
  rw[bhN,Zs,Yp,Zs,cR_sub,cR_bh hl t k (by omega),sfx_at hl (show xs.length -(k+1)<xs.length by omega),pP,show xs.length -(k+1)+1=xs.length -k by omega,show xs.length -1 -k=xs.length -(k+1) by omega]
  grind
theorem cR_ds{xs:List Int}{i:Nat}: ∀j,(cR (dsN p xs i j):R)=if j<=i then preR xs j (cR (xs.getD i 0)) else preR xs i (cR (xs.getD i 0))*mdR xs (cR (xs.getD i 0)) (i+1) (j -(i+1))
 | 0=>by rw[dsN,if_pos (Nat.zero_le _),preR,cR_1]
 | j+1=>by
  rw[dsN]
  by_cases e:j=i
  ·rw[if_pos e,cR_ds j,if_pos (by omega),if_neg (by omega),e,Nat.sub_self,mdR];grind
  ·rw[if_neg e,Zs,Yp,Zs,cR_sub,cR_ds j]
   by_cases h:j<=i
   ·rw[if_pos h,if_pos (by omega),preR]
   ·rw[if_neg h,if_neg (by omega),show j+1 -(i+1)=(j -(i+1))+1 by omega,mdR,show i+1+(j -(i+1))=j by omega];grind
theorem cR_dst{xs vs:List Int}(hl:vs.length=xs.length){i:Nat}(hi:i<xs.length):(cR (dsN p xs i xs.length):R)=preR xs i (cR (xs.getD i 0))*pP (cR (xs.getD i 0)) (sfx xs vs (i+1)):=by
 rw[cR_ds p,if_neg (by omega),<-mdR_sfx hl (cR (xs.getD i 0)) (i+1) (xs.length -(i+1)) (by omega),show i+1+(xs.length -(i+1))=xs.length by omega,sfx_end hl,pP];grind
theorem cR_inv{a x:Int}(h:IsInv (a%(p:Int)) p x):(cR x:R)*cR a=1:=by
 rw[<-Zs (R:=R) p a,<-Yp,<-cR_1,cR_ext p]
 obtain⟨c,hc⟩:=h.2.2
 rw[show x*(a%(p:Int))=1+(p:Int)*c by omega,Int.add_mul_emod_self_left]
theorem wt_sfx{xs vs:List Int}(h:Invs p xs vs): ∀d,d<=xs.length->wtP (preR xs (xs.length -d):R->R) (sfx xs vs (xs.length -d))
 | 0,_=>by rw[Nat.sub_zero,sfx_end h.1];trivial
 | d+1,hd=>by
  have hi:xs.length -(d+1)<xs.length:=by omega
  rw[sfx_at h.1 hi]
  refine⟨?_,?_⟩
  ·rw[<-cR_dst p h.1 hi];exact cR_inv p (h.2 _ hi)
  ·have:=wt_sfx h d (by omega)
   rw[show xs.length -(d+1)+1=xs.length -d by omega]
   rwa [show xs.length -d=(xs.length -(d+1))+1 by omega] at this⊢
theorem wt_all{xs vs:List Int}(h:Invs p xs vs):wtP (fun _=>(1:R)) (sfx xs vs 0):=by
 have:=wt_sfx (R:=R) p h xs.length (Nat.le_refl _)
 rwa [Nat.sub_self] at this
theorem cR_fac{xs vs:List Int}(hl:vs.length=xs.length)(t:Int){i:Nat}(hi:i<xs.length):(cR ((fac p t xs vs).getD i 0):R)=cR (vs.getD i 0)*(preR xs i (cR t)*pP (cR t) (sfx xs vs (i+1))):=by
 rw[fac_get hi,Zs,Yp,Zs,Yp,cR_ah,cR_bh p hl t _ (by omega),show xs.length -(xs.length -1 -i)=i+1 by omega];grind
theorem sm_go{xs vs:List Int}(hl:vs.length=xs.length)(t:Int)(ps:List (Int×Int))(f:R->R)(hf: ∀i,i<xs.length->(cR (ps.getD i (0,0)).2:R)=f (cR (xs.getD i 0))): ∀k,k<=xs.length->cR (smN p (fac p t xs vs) ps k)+smP f (preR xs k) (cR t) (sfx xs vs k)=smP f (fun _=>1) (cR t) (sfx xs vs 0)
 | 0,_=>by rw[smN,cR_0];show 0+smP f (fun _=>1) _ _=_;grind
 | k+1,h=>by
  rw[<-sm_go hl t ps f hf k (by omega),smN,Zs,cR_add,Zs,Yp,cR_fac p hl t (show k<xs.length by omega),hf k (by omega),sfx_at hl (show k<xs.length by omega),smP]
  show _+smP f (fun z=>preR xs k z*(z -cR (xs.getD k 0))) _ _=_
  grind
end ring
theorem smN_rng{q:Int}(hq:0<q){fs:List Int}{ps:List (Int×Int)}: ∀k,0<=smN q fs ps k/\smN q fs ps k<q
 | 0=>⟨Int.le_refl _,hq⟩
 | k+1=>⟨Int.emod_nonneg _ (by omega),Int.emod_lt_of_pos _ hq⟩
theorem hoN_rng{q:Int}(hq:0<q){x:Int}{ns:List Int}: ∀k,0<=hoN q x ns k/\hoN q x ns k<q
 | 0=>⟨Int.le_refl _,hq⟩
 | k+1=>⟨Int.emod_nonneg _ (by omega),Int.emod_lt_of_pos _ hq⟩
theorem lagN(p:Nat)[NeZero p]{xs vs:List Int}(h:Invs p xs vs)(ns:List Int)(hn:ns.length<=xs.length)(t:Int)(ps:List (Int×Int))(hp: ∀i,i<xs.length->(ps.getD i (0,0)).2=hoN p (xs.getD i 0) ns ns.length):smN p (fac p t xs vs) ps xs.length=hoN p t ns ns.length:=by
 have hp0:0<p:=Nat.pos_of_ne_zero (NeZero.ne p)
 have e1:=sm_go (R:=Fin p) p h.1 t ps (evPR (ns.map cR)) (fun i hi=>by rw[hp i hi,cR_hoN]) xs.length (Nat.le_refl _)
 rw[sfx_end h.1,smP,lagP xs.length (sfx xs vs 0) (ns.map cR) (cR t) (sfx_len h.1) (by simpa using hn) (wt_all p h),<-cR_hoN] at e1
 have e2:(cR (smN p (fac p t xs vs) ps xs.length):Fin p)=cR (hoN p t ns ns.length):=by rw[<-e1];grind
 rw[cR_ext p] at e2
 have r1:=smN_rng (q:=p) (by omega) (fs:=fac p t xs vs) (ps:=ps) xs.length
 have r2:=hoN_rng (q:=p) (by omega) (x:=t) (ns:=ns) ns.length
 rwa [Int.emod_eq_of_lt r1.1 r1.2,Int.emod_eq_of_lt r2.1 r2.2] at e2
end
def UN(q a:Int):Prop:= ∃b,q∣b*a -1
theorem UN.one(q:Int):UN q 1:=⟨1,⟨0,by simp⟩⟩
theorem UN.mul{q a b:Int}(ha:UN q a)(hb:UN q b):UN q (a*b):=by
 obtain⟨x,k,hx⟩:=ha
 obtain⟨y,m,hy⟩:=hb
 exact⟨x*y,k*(y*b)+m,by grind⟩
theorem UN.mod{q a:Int}(h:UN q a):UN q (a%q):=by
 obtain⟨x,k,hx⟩:=h
 have e:=Int.emod_add_mul_ediv a q
 exact⟨x,k -x*(a/q),by grind⟩
theorem UN.neg{q a:Int}(h:UN q a):UN q (-a):=by
 obtain⟨x,k,hx⟩:=h
 exact⟨-x,k,by grind⟩
theorem UN.inv{q a:Int}(hq:0<q)(h:UN q a): ∃v,IsInv (a%q) q v:=by
 obtain⟨x,k,hx⟩:=h
 have e:=Int.emod_add_mul_ediv a q
 have e2:=Int.emod_add_mul_ediv x q
 refine⟨x%q,Int.emod_nonneg _ (by omega),Int.emod_lt_of_pos _ hq,⟨k -(x/q)*a -(x%q)*(a/q),?_⟩⟩
 generalize a%q=r at *
 generalize a/q=s at *
 generalize x%q=u at *
 generalize x/q=v at *
 grind
theorem ds_un{q:Int}{xs:List Int}{i:Nat}(h: ∀j,j<xs.length->j≠i->UN q (xs.getD i 0 -xs.getD j 0)): ∀j,j<=xs.length->UN q (dsN q xs i j)
 | 0,_=>UN.one q
 | j+1,hj=>by
  rw[dsN];split
  ·exact ds_un h j (by omega)
  ·next e=>exact((ds_un h j (by omega)).mul (h j (by omega) e).mod).mod
theorem list_of2{p:Nat->Int->Prop}: ∀n,(∀i,i<n-> ∃z,p i z)-> ∃ns:List Int,ns.length=n/\ ∀i,i<n->p i (ns.getD i 0)
 | 0,_=>⟨[],rfl,fun i hi=>by omega⟩
 | n+1,h=>by
  obtain⟨ns,hl,hp⟩:=list_of2 n (fun i hi=>h i (by omega))
  obtain⟨z,hz⟩:=h n (by omega)
  refine⟨ns++[z],by simp[hl],fun i hi=>?_⟩
  by_cases e:i=n
  ·subst e
   have:(ns++[z]).getD i 0=z:=by rw[<-hl];simp
   rw[this];exact hz
  ·have:(ns++[z]).getD i 0=ns.getD i 0:=by simp[List.getElem?_append_left (show i<ns.length by omega)]
   rw[this];exact hp i (by omega)
theorem invs_ex{q:Int}(hq:0<q){xs:List Int}(h: ∀i j,i<xs.length->j<xs.length->j≠i->UN q (xs.getD i 0 -xs.getD j 0)): ∃vs,Invs q xs vs:=by
 obtain⟨vs,hl,hv⟩:=list_of2 (p:=fun i z=>IsInv (dsN q xs i xs.length%q) q z) xs.length (fun i hi=>(ds_un (fun j hj hne=>h i j hi hj hne) xs.length (Nat.le_refl _)).inv hq)
 exact⟨vs,hl,hv⟩
abbrev OQ:Int:=581039633
theorem OQ_small: ∀d:Fin 64,d.val≠0->gI OQ (d.val:Int)=1:=by decide+kernel
theorem un_small{d:Int}(h0:d≠0)(h1: -64<d)(h2:d<64):UN OQ d:=by
 have key: ∀e:Int,0<e->e<64->UN OQ e:=fun e he h=>by
  have hg:=OQ_small ⟨e.toNat,by omega⟩ (by show e.toNat≠0;omega)
  have he2:((e.toNat:Nat):Int)=e:=Int.toNat_of_nonneg (by omega)
  rw[show (((⟨e.toNat,by omega⟩:Fin 64).val:Nat):Int)=e from he2] at hg
  obtain⟨x,hx⟩:=IsInv.ex (m:=OQ) (a:=e) (by omega) (by unfold OQ;omega) hg
  exact⟨x,hx.2.2⟩
 by_cases hp:0<d
 ·exact key d hp h2
 ·have:=(key (-d) (by omega) (by omega)).neg
  rwa [Int.neg_neg] at this
def Apart(xs:List Int):Prop:=xs.Nodup/\ ∀x∈xs,1<=x/\x<64
theorem Apart.invs{xs:List Int}(h:Apart xs): ∃vs,Invs OQ xs vs:=by
 refine invs_ex (by decide) fun i j hi hj hne=>?_
 have ei:xs.getD i 0=xs[i]:=by simp[List.getElem?_eq_getElem hi]
 have ej:xs.getD j 0=xs[j]:=by simp[List.getElem?_eq_getElem hj]
 rw[ei,ej]
 have hi2:=h.2 _ (List.getElem_mem hi)
 have hj2:=h.2 _ (List.getElem_mem hj)
 have hn:xs[i]≠xs[j]:=by
  have hp:=List.pairwise_iff_getElem.1 h.1
  rcases Nat.lt_or_gt_of_ne hne with hlt | hlt
  ·exact fun e=>hp j i hj hi hlt e.symm
  ·exact hp i j hi hj hlt
 exact un_small (by omega) (by omega) (by omega)
theorem invs11:Invs 11 [1,2] [10,1]:=by
 refine⟨rfl,fun i hi=>?_⟩
 match i,hi with
 | 0,_=>exact⟨by decide,by decide,⟨9,by decide⟩⟩
 | 1,_=>exact⟨by decide,by decide,⟨0,by decide⟩⟩
end
section
open Go.RowKit
theorem Yg(n:Int)(w:World)(h0:0<=n)(h1:n<9223372036854775808):CC 19 #[.int .i64 n] w (NV n):=by
 rw[X9 h0 (by omega)]
 have hw:IntKind.u64.wrap n=n:=by simp[IntKind.wrap,IntKind.signed,IntKind.bits];omega
 go_enter Tryz.func19,Tryz.ntmps19
 go_wp2
 go_returns
 exact⟨by simp,by go_grown⟩
end
end Go.Proofs.YtgieoghechekpaaGreatDoor
