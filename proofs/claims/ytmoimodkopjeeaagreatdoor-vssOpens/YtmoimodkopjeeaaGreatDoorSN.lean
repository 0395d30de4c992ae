import Derived.Test.YtmoimodkopjeeaaGreatDoorSH7
import Derived.Deep.Upon
import Derived.Lib.SlBytesConst
namespace Go.Proofs.YtmoimodkopjeeaaGreatDoor
set_option linter.unusedVariables false
set_option linter.unusedSimpArgs false
set_option maxRecDepth 100000
set_option maxHeartbeats 4000000
section
open Go.RowKit
section
def tk1(q:List Nat×List Nat×Nat)(x:Nat):List Nat×List Nat×Nat:=
 (if (q.2.2+1)%64=0 then blk q.1 (q.2.1.set (q.2.2%64) x) else q.1,q.2.1.set (q.2.2%64) x,q.2.2+1)
def tkA(q:List Nat×List Nat×Nat)(xs:List Nat):List Nat×List Nat×Nat:=xs.foldl tk1 q
theorem tkA_app(q:List Nat×List Nat×Nat)(xs ys:List Nat):tkA q (xs++ys)=tkA (tkA q xs) ys:=List.foldl_append
theorem tkA_is(q:List Nat×List Nat×Nat)(xs:List Nat): ∀j,j<=xs.length->tkA q (xs.take j)=(tkS q.2.2 q.1 q.2.1 xs j,tkB q.2.2 q.2.1 xs j,q.2.2+j)
 | 0,_=>by simp[tkA,tkS,tkB]
 | j+1,h=>by
  have hg:xs.getD j 0=xs[j]:=by simp[List.getElem?_eq_getElem (show j<xs.length by omega)]
  rw[List.take_succ_eq_append_getElem (by omega),tkA_app,tkA_is q xs j (by omega)]
  show tk1 _ _=_
  unfold tk1
  simp only[tkS,tkB,hg,Nat.add_assoc]
theorem tkA_all(q:List Nat×List Nat×Nat)(xs:List Nat):tkA q xs=(tkS q.2.2 q.1 q.2.1 xs xs.length,tkB q.2.2 q.2.1 xs xs.length,q.2.2+xs.length):=by
 have:=tkA_is q xs xs.length (Nat.le_refl _)
 rwa [List.take_length] at this
structure QW(q:List Nat×List Nat×Nat):Prop where
 s:WW 8 q.1
 b:BB 64 q.2.1
theorem QW.go{q:List Nat×List Nat×Nat}(h:QW q)(xs:List Nat)(hx: ∀j,xs.getD j 0<256):QW (tkA q xs):=by
 rw[tkA_all];exact⟨tkS_W h.s _,tkB_B h.b hx _⟩
theorem BB.all{n:Nat}{l:List Nat}(h:BB n l): ∀j,l.getD j 0<256:=h.lt
def q00:List Nat×List Nat×Nat:=(fst8,z64,0)
theorem q00_W:QW q00:=⟨⟨rfl,fun j=>by
 by_cases h:j<8
 ·exact(by decide: ∀j,j<8->fst8.getD j 0<M32) j h
 ·rw[List.getD_eq_getElem?_getD,List.getElem?_eq_none (by show 8<=j;omega)];decide⟩,BB_rep 64⟩
def dig(xs:List Nat):List Nat:=told (tkA q00 (xs++ending xs.length)).1
section
variable {R:Rg} {P:Program} {ops:Array Oper} {Q:Exit->Act->World->Prop} {f:Nat->Bool} {t:Nat->Value} {u:World} {a:Act} {i:Nat} {o:Oper}
end
end
def IN(w:World)(m:Nat)(v:Value)(xs:List Nat):Prop:= ∃(sl:Option Addr) (cap gb go:Nat),v= .slice sl xs.length cap/\xs.length<=cap/\(xs.length=0\/sl=some ⟨gb,go,none⟩)/\gb<m/\SB w gb go xs
theorem IN.below{w u:World}{m:Nat}{v:Value}{xs:List Nat}(h:IN w m v xs)(hB:Below m w u):IN u m v xs:=by
 obtain⟨sl,cap,gb,go,e,h1,h2,h3,h4⟩:=h
 exact⟨sl,cap,gb,go,e,h1,h2,h3,h4.below hB h3⟩
theorem IN.mono{w:World}{m m':Nat}{v:Value}{xs:List Nat}(h:IN w m v xs)(hm:m<=m'):IN w m' v xs:=by
 obtain⟨sl,cap,gb,go,e,h1,h2,h3,h4⟩:=h
 exact⟨sl,cap,gb,go,e,h1,h2,Nat.lt_of_lt_of_le h3 hm,h4⟩
def PL(w:World)(gl go:Nat)(ps:List (List Nat)):Prop:= ∀i p,ps[i]?=some p-> ∃v,w.cell? ⟨gl,go+i,none⟩=some v/\IN w w.heap.size v p
theorem by_getD{l:List Nat}(h: ∀x∈l,x<256)(j:Nat):l.getD j 0<256:=by
 rw[List.getD_eq_getElem?_getD]
 cases e:l[j]? with
 | none=>decide
 | some x=>exact h x (List.mem_of_getElem? e)
theorem BB.mem{n:Nat}{l:List Nat}(h:BB n l): ∀x∈l,x<256:=fun x hx=>by
 obtain⟨j,hj⟩:=List.mem_iff_getElem?.1 hx
 have:=h.lt j
 rwa [List.getD_eq_getElem?_getD,hj] at this
theorem ending_B(n:Nat):BB (nou n+9) (ending n):=enL_B n 8
theorem nou_lt(n:Nat):nou n<64:=Nat.mod_lt _ (by decide)
theorem told_B(ss:List Nat):BB 32 (told ss):=tld_B ss 32
theorem dig_B(xs:List Nat):BB 32 (dig xs):=told_B _
section
theorem Addr.add0(b j:Nat):(⟨b,0,none⟩:Addr).add j=⟨b,j,none⟩:=by unfold Addr.add;split<;>simp_all
theorem Addr.addo(b o j:Nat):(⟨b,o,none⟩:Addr).add j=⟨b,o+j,none⟩:=by unfold Addr.add;split<;>simp_all
def NW(m:Nat)(news:List Value)(u:World)(y:Value):Prop:= ∃sl c,y= .slice sl m c/\(m=0\/ ∃ad,sl=some ad/\ ∀j v,news[j]?=some v->u.cell? (ad.add j)=some v)
def PH(base b0 s n:Nat)(xs:List Value)(u:World)(v:Value):Prop:= ∃b cap zs,v= .slice (some ⟨b,0,none⟩) n cap/\(b=b0\/base<=b)/\b<u.heap.size/\n<=cap/\zs.length=(cap -n)*s/\CV u b (xs++zs)
theorem PH.stab{base b0 s n:Nat}{xs:List Value}{u v:World}{x:Value}(hB:Bw u v)(h:PH base b0 s n xs u x):PH base b0 s n xs v x:=by
 obtain⟨b,cap,zs,e,h1,h2,h3,h4,h5⟩:=h
 exact⟨b,cap,zs,e,h1,Nat.lt_of_lt_of_le h2 hB.size,h3,h4,h5.below hB h2⟩
theorem grown_setCells(u:World)(b o:Nat)(vs:List Value):u.grownBy (u.setCells b o vs) (some b):=by
 have h:Below (min b u.heap.size) u (u.setCells b o vs):=Zr (Nat.min_le_left _ _) _ _ _ (Below.refl _ _)
 refine⟨h.os,h.tape,h.output,by rw[Zh];exact Nat.le_refl _,fun k hk hne=>?_⟩
 exact World.heap_setCells_other u b o vs hk (fun e=>hne (by rw[e]))
section
variable {P:Program}
theorem Vh(w:World){T ty e:TypeId}{ti:TypeInfo}{z:Value}(ht:P.underlying T=some (.slice e))(hi:P.info? e=some ti)(hz:ti.zero=some z)(hzs:z.cells.size=ti.size){base b n cap m:Nat}{xs zs news:List Value}{y:Value}(hcv:CV w b (xs++zs))(hlt:b<w.heap.size)(hx:xs.length=n*ti.size)(hzl:zs.length=(cap -n)*ti.size)(hnc:n<=cap)(hbase:base<=w.heap.size)(hy:NW m news w y)(hl:news.length=m*ti.size)(h1: ∀v∈news,v.oneCell'=true)(hb:(n+m)*ti.bytes<=140737488355328)(h63:n+m<=9223372036854775807):
 ∃v' w',(Builtin.append_ #[T,T] ty #[.slice (some ⟨b,0,none⟩) n cap,y]).run P w= .ok v' w'/\w.grownBy w' (some b)/\PH base b ti.size (n+m) (xs++news) w' v':=by
 obtain⟨sl,c,rfl,hy⟩:=hy
 by_cases hm:m=0
 ·subst hm
  have hn0:news=[]:=List.eq_nil_of_length_eq_zero (by omega)
  subst hn0
  refine⟨.slice (some ⟨b,0,none⟩) n cap,w,?_,World.grownBy.refl _ _,b,cap,zs,rfl,.inl rfl,hlt,hnc,hzl,by simpa using hcv⟩
  have hf:(Builtin.firstCells ti.size 0 (.slice sl 0 c)).run P w= .ok #[] w:=by
   cases sl with
   | none=>exact run_firstCells_none (P:=P) w ti.size 0 0 c
   | some ad=>exact run_firstCells_some (P:=P) w ti.size 0 ad 0 c [] (by simp) (fun j v h=>by simp at h)
  simp[Builtin.append_,run_underlying ht,sizeOf,typeInfo,hi,Builtin.lenOf,hnc,hf,storeCells]
 ·obtain⟨ad,rfl,hnews⟩:=hy.resolve_left hm
  have hmul:(n+m)*ti.size=n*ti.size+m*ti.size:=Nat.add_mul _ _ _
  by_cases hr:n+m<=cap
  ·have hk:(cap -n)*ti.size=m*ti.size+(cap -(n+m))*ti.size:=by rw[<-Nat.add_mul];congr 1;omega
   have h:=Vv (P:=P) w (ty:=ty) ht hi hcv (m:=m) (c:=c) hl hnews h1 hr (by rw[List.length_append];omega)
   refine⟨_,_,h,grown_setCells _ _ _ _,b,cap,zs.drop news.length,rfl,.inl rfl,by rw[Zh];exact hlt,hr,by rw[List.length_drop];omega,?_⟩
   have hcv2:CV w b (xs++zs.take news.length++zs.drop news.length):=by rw[List.append_assoc,List.take_append_drop];exact hcv
   exact hcv2.mid hx (by rw[List.length_take];omega)
  ·have h:=run_append_grow (P:=P) w T ty e ti z ht hi hz ⟨b,0,none⟩ n cap xs hx (fun j v hj=>by rw[Addr.add0];exact(hcv.pre2 j v hj).1) ad m c news hl hnews (by omega) (by omega) (growslice_fits (by omega) hb)
   have hB:Bw w (w.drew.alloc (.cells (xs.toArray++news.toArray++Builtin.zeroCells z.cells (grownCap w (n+m) cap e -(n+m))) e)):=Z1 (Z5 w).drew _
   refine⟨_,_,h,(Vs hB).but _,w.heap.size,_,(Builtin.zeroCells z.cells (grownCap w (n+m) cap e -(n+m))).toList,rfl,.inr hbase,by simp,grownCap_ge w (n+m) cap e,by rw[Array.length_toList,size_zeroCells,hzs],?_⟩
   have e1:xs.toArray++news.toArray++Builtin.zeroCells z.cells (grownCap w (n+m) cap e -(n+m))=(xs++news++(Builtin.zeroCells z.cells (grownCap w (n+m) cap e -(n+m))).toList).toArray:=by apply Array.ext';simp
   rw[e1];exact CV.new w.drew _ e
end
theorem KC.putG{f:Nat->Bool}{u v:World}{lo base i b:Nat}(hg:u.grownBy v (some b))(hs:base<=u.heap.size): ∀{es:List Ent} {k:Nat} {o:Bool} {l:List Value},KC f u lo base es->es[k]?=some (o,b,l,.all i [])->(es.map (·.2.1)).Nodup->((es.eraseIdx k).all fun q=>q.2.2.2.free i)=true->KC (updF f i) v lo base es:=by
 have oth: ∀{n:Nat} {l:List Value},n<base->n≠b->CV u n l->CV v n l:=fun{n l} hn hne h j x hj=>by
  have hk:v.heap[n]?=u.heap[n]?:=hg.block _ (by omega) (fun e=>hne (by cases e;rfl))
  rw[World.cell?_of_block (a:=⟨n,j,none⟩) hk,World.frozen?_of_block (a:=⟨n,j,none⟩) hk]
  exact h j x hj
 have hr: ∀{es:List Ent},b∉es.map (·.2.1)->(es.all fun q=>q.2.2.2.free i)=true->KC f u lo base es->KC (updF f i) v lo base es:=by
  intro es
  induction es with
  | nil=>intros;trivial
  | cons y ys ih=>
   intro hb ha h
   simp only[List.map_cons,List.mem_cons,not_or] at hb
   simp only[List.all_cons,Bool.and_eq_true] at ha
   have hfr:=KC.free (i:=i) (es:=[y]) (by simp[ha.1]) (show KC f u lo base [y] from ⟨h.1,trivial⟩)
   exact⟨⟨h.1.1,h.1.2.1,oth h.1.1 (fun e=>hb.1 e.symm) hfr.1.2.2⟩,ih hb.2 ha.2 h.2⟩
 intro es
 induction es with
 | nil=>intro k o l _ e;simp at e
 | cons q r ih=>
  intro k o l h e n hx
  simp only[List.map_cons,List.nodup_cons] at n
  cases k with
  | zero=>
   simp at e;subst e
   simp only[List.eraseIdx_cons_zero] at hx
   refine⟨⟨h.1.1,h.1.2.1,?_⟩,hr n.1 hx h.2⟩
   intro j x hj
   simp[Wr.val,updF] at hj
  | succ k=>
   simp only[List.getElem?_cons_succ] at e
   simp only[List.eraseIdx_cons_succ,List.all_cons,Bool.and_eq_true] at hx
   have hm:b∈r.map (·.2.1):=by
    have:=List.mem_of_getElem? e
    exact List.mem_map.2 ⟨_,this,rfl⟩
   have hfr:=KC.free (i:=i) (es:=[q]) (by simp[hx.1]) (show KC f u lo base [q] from ⟨h.1,trivial⟩)
   exact⟨⟨h.1.1,h.1.2.1,oth h.1.1 (fun e=>n.1 (e▸hm)) hfr.1.2.2⟩,ih h.2 e n.2 hx.2⟩
def Rg.chkG(R:Rg)(ops:Array Oper)(n k i:Nat)(o:Oper):Bool:=
 (match o.dst,R.E[n]? with | some d,some q=>q.i==i&&q.d==d&&owns i d R.G&&U4 i d R.Ns&&R.S.contains d | _,_=>false)
 &&R.okO i o&&((R.es.eraseIdx k).all fun q=>q.2.2.2.free i)&&((R.E.eraseIdx n).all (eGone R.O i o))&&(V5 R ops o==some true)
section
variable {R:Rg} {P:Program} {ops:Array Oper} {Q:Exit->Act->World->Prop} {f:Nat->Bool} {t:Nat->Value} {u:World} {a:Act} {i:Nat} {o:Oper}
theorem Um{n k:Nat}(h:R.chkG ops n k i o=true): ∃d q,o.dst=some d/\R.E[n]?=some q/\(q.i=i/\q.d=d)/\owns i d R.G=true/\U4 i d R.Ns=true/\d∈R.S/\R.okO i o=true/\((R.es.eraseIdx k).all fun q=>q.2.2.2.free i)=true/\((R.E.eraseIdx n).all (eGone R.O i o))=true/\V5 R ops o=some true:=by
 unfold Rg.chkG at h
 cases hd:o.dst with
 | none=>rw[hd] at h;simp at h
 | some d=>
  cases hq:R.E[n]? with
  | none=>rw[hd,hq] at h;simp at h
  | some q=>
   rw[hd,hq] at h
   rw[Bool.and_eq_true,Bool.and_eq_true,Bool.and_eq_true,Bool.and_eq_true,Bool.and_eq_true,Bool.and_eq_true,Bool.and_eq_true,Bool.and_eq_true,List.contains_iff_mem,beq_iff_eq,beq_iff_eq,beq_iff_eq] at h
   obtain⟨⟨⟨⟨⟨⟨⟨⟨a1,a2⟩,a3⟩,a4⟩,a5⟩,a6⟩,a7⟩,a8⟩,a9⟩:=h
   exact⟨d,q,rfl,rfl,⟨a1,a2⟩,a3,a4,a5,a6,a7,a8,a9⟩
theorem Xs.putG{n k b:Nat}{l:List Value}{p:World->Value->Prop}{v:Value}{u':World}(X:Xs R ops f t u a i o)(hg:u.grownBy u' (some b))(hn:R.es[k]?=some (true,b,l,.all i []))(hw0:R.nw=[])(hc:R.chkG ops n k i o=true)(hn0:(R.E[n]?).map (·.p)=some p)(hp:p u' v): ∃t',Fr R.fr R.S (a.put o.dst v) t'/\Inv R (updF f i) t' u':=by
 obtain⟨d',q',hd',hq',⟨e1,e2⟩,k1,k2,k3,k6,k7,k8,hw⟩:=Um hc
 obtain⟨_,q2,_⟩:=X.I.2.1.get hn
 refine⟨updT t d' v,by rw[hd'];exact X.F.put X.parts.1 k3 v,?_,KC.putG hg X.I.1.sz X.I.2.1 hn X.nd k7,Gs.other k1 X.I.2.2.1,Yv k6 X.I.2.2.2.1 X.dep,Ns.step X.I.2.2.2.2.1 k2,?_⟩
 ·have hM:=X.I.1
  rw[hw0] at hM⊢
  exact{bel:=hM.bel.grown hg (Nat.le_trans hM.lo hM.sz) (fun k e=>by cases e;exact q2 rfl),lo:=hM.lo,sz:=Nat.le_trans hM.sz hg.size,ks:=trivial,ex:=trivial,nw:=trivial,nd:=trivial}
 ·exact Es.last (O:=R.O) (fun j hj=>X.later (by unfold Rg.later;rw[hj];simp)) X.dep (by rw[hq',<-e1,<-e2]) k8 (by rw[hq'] at hn0;cases hn0;exact hp)
theorem g_pE(k m n':Nat)(p:World->Value->Prop){T e:TypeId}{ti:TypeInfo}{z:Value}{x:Operand}{j d b n q cap:Nat}{l:List Value}(xs zs news:List Value)(ht:P.underlying T=some (.slice e))(hi:P.info? e=some ti)(hz:ti.zero=some z)(hzs:z.cells.size=ti.size)(hl:l=xs++zs)(hp: ∀u y,p u y->NW q news u y)(h1: ∀v∈news,v.oneCell'=true)(hnl:news.length=q*ti.size)(hxl:xs.length=n*ti.size)(hzl:zs.length=(cap -n)*ti.size)(hnc:n<=cap)(hb:(n+q)*ti.bytes<=140737488355328)(h63:n+q<=9223372036854775807)
 (hop:o.op= .call {callee:= .builtin .append,args:=[x,.tmp d].toArray,argTypes:=[T,T].toArray}:=by rfl)(hn:R.es[k]?=some (true,b,l,.all i []):=by rfl)(hx:evR R i o x=some (.slice (some ⟨b,0,none⟩) n cap):=by rfl)(hm:R.E[m]?=some ⟨j,d,some i,p⟩:=by rfl)(hd:(Y3 o j&&R.S.contains d)=true:=by rfl)(hn0:(R.E[n']?).map (·.p)=some (PH R.base b ti.size (n+q) (xs++news)):=by rfl)
 (hw:R.nw=[]:=by rfl)(hc:R.chkG ops n' k i o=true:=by rfl):OG R P ops Q i o:=fun f t u a X=>by
 rw[Bool.and_eq_true,List.contains_iff_mem] at hd
 obtain⟨h2,h4⟩:=hd
 obtain⟨d',q',hd',hq',_,_,_,_,_,_,_,hwt⟩:=Um hc
 obtain⟨q1,q2,q3⟩:=X.I.2.1.get hn
 have q3:CV u b (bif f i then [] else l):=q3
 rw[X.fi] at q3
 have q3:CV u b l:=q3
 rw[hl] at q3
 have hy:p u (t d):=X.val hm h2 rfl
 obtain⟨v',w',hr,hg,hph⟩:=Vh (P:=P) u (ty:=o.type) ht hi hz hzs (base:=R.base) q3 (Nat.lt_of_lt_of_le q1 X.I.1.sz) hxl hzl hnc X.I.1.sz (hp u (t d) hy) hnl h1 hb h63
 exact X.go hwt fun K hK=>Ur hop (X.ev hx) (X.inS h4) hr (hK _ _ (X.putG hg hn hw hc hn0 hph))
theorem g_pV(k n':Nat){T e:TypeId}{ti:TypeInfo}{z vy:Value}{x y:Operand}{b n q cap:Nat}{l:List Value}(xs zs news:List Value)(ht:P.underlying T=some (.slice e))(hi:P.info? e=some ti)(hz:ti.zero=some z)(hzs:z.cells.size=ti.size)(hl:l=xs++zs)(hp: ∀f u,KC f u R.lo R.base R.es->Below R.lo R.w u->NW q news u vy)(h1: ∀v∈news,v.oneCell'=true)(hnl:news.length=q*ti.size)(hxl:xs.length=n*ti.size)(hzl:zs.length=(cap -n)*ti.size)(hnc:n<=cap)(hb:(n+q)*ti.bytes<=140737488355328)(h63:n+q<=9223372036854775807)
 (hop:o.op= .call {callee:= .builtin .append,args:=[x,y].toArray,argTypes:=[T,T].toArray}:=by rfl)(hn:R.es[k]?=some (true,b,l,.all i []):=by rfl)(hx:evR R i o x=some (.slice (some ⟨b,0,none⟩) n cap):=by rfl)(hy:evR R i o y=some vy:=by rfl)(hn0:(R.E[n']?).map (·.p)=some (PH R.base b ti.size (n+q) (xs++news)):=by rfl)
 (hw:R.nw=[]:=by rfl)(hc:R.chkG ops n' k i o=true:=by rfl):OG R P ops Q i o:=fun f t u a X=>by
 obtain⟨d',q',hd',hq',_,_,_,_,_,_,_,hwt⟩:=Um hc
 obtain⟨q1,q2,q3⟩:=X.I.2.1.get hn
 have q3:CV u b (bif f i then [] else l):=q3
 rw[X.fi] at q3
 have q3:CV u b l:=q3
 rw[hl] at q3
 obtain⟨v',w',hr,hg,hph⟩:=Vh (P:=P) u (ty:=o.type) ht hi hz hzs (base:=R.base) q3 (Nat.lt_of_lt_of_le q1 X.I.1.sz) hxl hzl hnc X.I.1.sz (hp f u X.I.2.1 X.I.1.bel) hnl h1 hb h63
 exact X.go hwt fun K hK=>Ur hop (X.ev hx) (X.ev hy) hr (hK _ _ (X.putG hg hn hw hc hn0 hph))
theorem KC.grown{u u':World}{lo base b:Nat}(hg:u.grownBy u' (some b))(hb:base<=b)(hsz:base<=u.heap.size): ∀{es:List Ent},KC f u lo base es->KC f u' lo base es
 | [],_=>trivial
 | y::ys,h=>⟨⟨h.1.1,h.1.2.1,fun j x hj=>by
  have hk:u'.heap[y.2.1]?=u.heap[y.2.1]?:=hg.block _ (Nat.lt_of_lt_of_le h.1.1 hsz) (fun e=>by cases e;have:=h.1.1;omega)
  rw[World.cell?_of_block (a:=⟨y.2.1,j,none⟩) hk,World.frozen?_of_block (a:=⟨y.2.1,j,none⟩) hk]
  exact h.1.2.2 j x hj⟩,KC.grown hg hb hsz h.2⟩
def ev1(R:Rg)(i:Nat)(o:Oper)(d:Nat)(y:Value)(x:Operand):Option Value:=
 match x with
 | .tmp k=>bif Nat.beq k d then some y else evR R i o (.tmp k)
 | x=>evR R i o x
theorem ev1_spec(X:Xs R ops f t u a i o){d:Nat}(h4:d∈R.S){x:Operand}{v:Value}(h:ev1 R i o d (t d) x=some v):a.eval x=v:=by
 unfold ev1 at h
 split at h
 ·rename_i k
  cases e:Nat.beq k d with
  | true=>
   rw[e] at h
   have e:=Nat.eq_of_beq_eq_true e
   subst e
   cases h
   exact X.inS h4
  | false=>rw[e] at h;exact X.ev h
 ·exact X.ev h
theorem evs1(X:Xs R ops f t u a i o){d:Nat}(h4:d∈R.S): ∀{xs:List Operand} {vs:List Value},xs.mapM (ev1 R i o d (t d))=some vs->xs.map a.eval=vs
 | [],vs,h=>by simp at h;subst h;rfl
 | x::xs,vs,h=>by
  simp only[List.mapM_cons,Option.bind_eq_bind,Option.bind_eq_some_iff,Option.pure_def,Option.some.injEq] at h
  obtain⟨v,hv,vs',hvs,rfl⟩:=h
  rw[List.map_cons,ev1_spec X h4 hv,evs1 X h4 hvs]
theorem g_cK{N:FuncId}{args:List Operand}{tys:Array TypeId}{vs:List Value}{v:Value}(hr: ∀(vs:Array Value) (w:World),(callFunc N vs).run P w= .ok (.enter N vs) w)
 (hcall: ∀f w,KC f w R.lo R.base R.es->R.base<=w.heap.size->Below R.lo R.w w->Calls P N vs.toArray w fun e w'=>e= .returned v/\Bw w w')(hop:o.op= .call {callee:= .value (.func N),args:=args.toArray,argTypes:=tys}:=by rfl)(hx:args.mapM (evR R i o)=some vs:=by rfl)(hv:some v=Zv i R.G:=by rfl)(hc:R.chk ops i o=true:=by rfl):OG R P ops Q i o:=fun f t u a X=>
 X.go (Yh hc).choose_spec.2.2.2.2.2.2.2 fun K hK=>W5 hop (X.evs hx) hr (hcall f u X.I.2.1 X.I.1.sz X.I.1.bel) fun w' hB=>hK _ _ (X.put hv hc (X.I.1.call hB) (X.I.2.1.below hB X.I.1.sz) hB)
end
end
section
theorem run_appF{P:Program}(w:World){T ty e:TypeId}{ti:TypeInfo}{z:Value}(ht:P.underlying T=some (.slice e))(hi:P.info? e=some ti)(hz:ti.zero=some z)(hzs:z.cells.size=ti.size){lo b n m:Nat}{xs news:List Value}{y:Value}(hcv:CV w b xs)(hlo:lo<=b)(hlo2:lo<=w.heap.size)(hlt:b<w.heap.size)(hx:xs.length=n*ti.size)(hy:NW m news w y)(hl:news.length=m*ti.size)(hb:(n+m)*ti.bytes<=140737488355328)(h63:n+m<=9223372036854775807):
 ∃v' w',(Builtin.append_ #[T,T] ty #[.slice (some ⟨b,0,none⟩) n n,y]).run P w= .ok v' w'/\Bw w w'/\PG lo ti.size (n+m) (xs++news) w' v':=by
 obtain⟨sl,c,rfl,hy⟩:=hy
 by_cases hm:m=0
 ·subst hm
  have hn0:news=[]:=List.eq_nil_of_length_eq_zero (by omega)
  subst hn0
  refine⟨.slice (some ⟨b,0,none⟩) n n,w,?_,Below.refl _ _,b,n,[],rfl,hlo,hlt,Nat.le_refl _,by simp,by simpa using hcv⟩
  have hf:(Builtin.firstCells ti.size 0 (.slice sl 0 c)).run P w= .ok #[] w:=by
   cases sl with
   | none=>exact run_firstCells_none (P:=P) w ti.size 0 0 c
   | some ad=>exact run_firstCells_some (P:=P) w ti.size 0 ad 0 c [] (by simp) (fun j v h=>by simp at h)
  simp[Builtin.append_,run_underlying ht,sizeOf,typeInfo,hi,Builtin.lenOf,hf,storeCells]
 ·obtain⟨ad,rfl,hnews⟩:=hy.resolve_left hm
  have h:=run_append_grow (P:=P) w T ty e ti z ht hi hz ⟨b,0,none⟩ n n xs hx (fun j v hj=>by rw[Addr.add0];exact(hcv j v hj).1) ad m c news hl hnews (by omega) (by omega) (growslice_fits (by omega) hb)
  refine⟨_,_,h,Z1 (Z5 w).drew _,w.heap.size,_,(Builtin.zeroCells z.cells (grownCap w (n+m) n e -(n+m))).toList,rfl,hlo2,by simp,grownCap_ge w (n+m) n e,by rw[Array.length_toList,size_zeroCells,hzs],?_⟩
  have e1:xs.toArray++news.toArray++Builtin.zeroCells z.cells (grownCap w (n+m) n e -(n+m))=(xs++news++(Builtin.zeroCells z.cells (grownCap w (n+m) n e -(n+m))).toList).toArray:=by apply Array.ext';simp
  rw[e1];exact CV.new w.drew _ e
section
variable {R:Rg} {P:Program} {ops:Array Oper} {Q:Exit->Act->World->Prop} {f:Nat->Bool} {t:Nat->Value} {u:World} {a:Act} {i:Nat} {o:Oper}
end
end
theorem getD_app1{a b:List Nat}{j:Nat}(h:j<a.length):(a++b).getD j 0=a.getD j 0:=by
 rw[List.getD_eq_getElem?_getD,List.getD_eq_getElem?_getD,List.getElem?_append_left h]
theorem getD_app2{a b:List Nat}{j:Nat}(h:a.length<=j):(a++b).getD j 0=b.getD (j -a.length) 0:=by
 rw[List.getD_eq_getElem?_getD,List.getD_eq_getElem?_getD,List.getElem?_append_right h]
def msk(x:Nat)(l:List Nat):List Nat:=l.map (· ^^^x)
def mkL(x:Nat)(l:List Nat):Nat->List Nat
 | 0=>l
 | i+1=>(mkL x l i).set i ((mkL x l i).getD i 0^^^x)
theorem mkL_is(x:Nat)(l:List Nat): ∀i,i<=l.length->mkL x l i=(l.take i).map (· ^^^x)++l.drop i
 | 0,_=>by simp[mkL]
 | i+1,h=>by
  have hi:i<l.length:=by omega
  have e1:((l.take i).map (· ^^^x)).length=i:=by rw[List.length_map,List.length_take];omega
  rw[mkL,mkL_is x l i (by omega)]
  have e2:l.drop i=l[i]::l.drop (i+1):=List.drop_eq_getElem_cons hi
  rw[e2,List.take_succ_eq_append_getElem hi,List.map_append,List.append_assoc]
  rw[getD_app2 (by omega),List.set_append_right _ _ (by omega),e1,Nat.sub_self]
  rfl
theorem mkL_all(x:Nat)(l:List Nat):mkL x l l.length=msk x l:=by
 rw[mkL_is x l _ (Nat.le_refl _)];simp[msk]
theorem xor_lt8{a b:Nat}(ha:a<256)(hb:b<256):a^^^b<256:=Nat.xor_lt_two_pow (n:=8) ha hb
theorem mkL_B{x n:Nat}{l:List Nat}(h:BB n l)(hx:x<256): ∀i,BB n (mkL x l i)
 | 0=>h
 | i+1=>(mkL_B h hx i).set _ _ (xor_lt8 ((mkL_B h hx i).lt i) hx)
theorem msk_B{x n:Nat}{l:List Nat}(h:BB n l)(hx:x<256):BB n (msk x l):=by
 rw[<-mkL_all];exact mkL_B h hx _
def whk(ks:List Nat):List Nat:=if 64<ks.length then dig ks else ks
def whl(ks:List Nat):List Nat:=whk ks++List.replicate (64 -(whk ks).length) 0
theorem whk_len(ks:List Nat):(whk ks).length<=64:=by
 unfold whk;split
 ·rw[(dig_B ks).len];decide
 ·omega
theorem app_B{n m:Nat}{a b:List Nat}(ha:BB n a)(hb:BB m b):BB (n+m) (a++b):=⟨by rw[List.length_append,ha.len,hb.len],fun j=>by
 by_cases h:j<a.length
 ·rw[getD_app1 h];exact ha.lt j
 ·rw[getD_app2 (by omega)];exact hb.lt _⟩
theorem BB_of{l:List Nat}(h: ∀x∈l,x<256):BB l.length l:=⟨rfl,by_getD h⟩
theorem whk_m{ks:List Nat}(h: ∀x∈ks,x<256): ∀x∈whk ks,x<256:=by
 unfold whk;split
 ·exact(dig_B ks).mem
 ·exact h
theorem whl_B{ks:List Nat}(h: ∀x∈ks,x<256):BB 64 (whl ks):=by
 have:=app_B (BB_of (whk_m h)) (BB_rep (64 -(whk ks).length))
 rwa [show (whk ks).length+(64 -(whk ks).length)=64 by have:=whk_len ks;omega] at this
def hm(k xs:List Nat):List Nat:=dig (msk 92 k++dig (msk 54 k++xs))
theorem hm_B(k xs:List Nat):BB 32 (hm k xs):=dig_B _
theorem or_zero{a b:Nat}:a ||| b=0↔a=0/\b=0:=by
 constructor
 ·intro h
  constructor
  ·exact Nat.eq_of_testBit_eq fun i=>by
    have:=congrArg (fun n=>n.testBit i) h
    simp at this
    simp[this.1]
  ·exact Nat.eq_of_testBit_eq fun i=>by
    have:=congrArg (fun n=>n.testBit i) h
    simp at this
    simp[this.2]
 ·rintro⟨rfl,rfl⟩;rfl
theorem wraps_u8(n:Int)(h0:0<=n)(h1:n<2^8):IntKind.u8.wrap n=n:=by simp[IntKind.wrap,IntKind.signed,IntKind.bits];omega
theorem bit_xor8(a b:Nat)(ha:a<256)(hb:b<256):bits .xor .u8 a b=((a^^^b:Nat):Int):=by
 have ha':a%2^8=a:=Nat.mod_eq_of_lt ha
 have hb':b%2^8=b:=Nat.mod_eq_of_lt hb
 have h:(BitVec.ofNat 8 a^^^BitVec.ofNat 8 b).toNat=a^^^b:=by rw[BitVec.toNat_xor,BitVec.toNat_ofNat,BitVec.toNat_ofNat,ha',hb']
 show IntKind.u8.wrap ((BitVec.ofInt 8 (a:Int)^^^BitVec.ofInt 8 (b:Int)).toNat:Int)=_
 rw[BitVec.ofInt_natCast,BitVec.ofInt_natCast,h]
 exact wraps_u8 _ (Int.natCast_nonneg _) (by exact_mod_cast xor_lt8 ha hb)
theorem xor8(p q:Operand)(a b:Nat)(w:World)(ha:a<256)(hb:b<256):(do eqGuard .xor 5 p q (.int .u8 a) (.int .u8 b);binOp .xor 5 (.int .u8 a) (.int .u8 b):Sem Value).run Tryz.prog w= .ok (.int .u8 ((a^^^b:Nat):Int)) w:=by
 rw[<-bit_xor8 a b ha hb];go_simp
def PQ(lo:Nat)(ps:List (List Nat))(u:World)(y:Value):Prop:= ∃b cap,y= .slice (some ⟨b,0,none⟩) ps.length cap/\lo<=b/\b<u.heap.size/\PL u b 0 ps
theorem PL.below{u v:World}{b o:Nat}{ps:List (List Nat)}(h:PL u b o ps)(hb:b<u.heap.size)(hB:Bw u v):PL v b o ps:=fun i p hp=>by
 obtain⟨x,h1,h2⟩:=h i p hp
 exact⟨x,(hB.cell (p:=⟨b,o+i,none⟩) hb).trans h1,(h2.below hB).mono hB.size⟩
theorem PQ.stab{lo:Nat}{ps:List (List Nat)}{u v:World}{x:Value}(hB:Bw u v)(h:PQ lo ps u x):PQ lo ps v x:=by
 obtain⟨b,cap,e,h1,h2,h3⟩:=h
 exact⟨b,cap,e,h1,Nat.lt_of_lt_of_le h2 hB.size,h3.below h2 hB⟩
section
abbrev M64:Nat:=18446744073709551616
theorem Xf(n:Int)(h0:0<=n)(h1:n<2^64):IntKind.u64.wrap n=n:=by simp[IntKind.wrap,IntKind.signed,IntKind.bits];omega
theorem bit_or64(a b:Nat)(ha:a<M64)(hb:b<M64):bits .or .u64 a b=((a ||| b:Nat):Int):=(bits_nat .u64 64 (by decide) Xf a b ha hb).2
theorem or64(p q:Operand)(a b:Nat)(w:World)(ha:a<M64)(hb:b<M64):(do eqGuard .or 22 p q (iU a) (iU b);binOp .or 22 (iU a) (iU b):Sem Value).run Tryz.prog w= .ok (iU ((a ||| b:Nat):Int)) w:=by
 rw[<-bit_or64 a b ha hb];go_simp
theorem cv864{o:Oper}{ev:Operand->Value}{x:Operand}{n:Nat}(u:World)(h1:n<256)(ho:o.op= .convert 5 22 x)(hx:ev x= .int .u8 (n:Int)):(execOp ev o).run Tryz.prog u= .ok (.value (iU (n:Int))) u:=by
 have e1:IntKind.u64.wrap (n:Int)=(n:Int):=Xf _ (by omega) (by omega)
 unfold execOp;rw[ho];simp only[hx];go_simp
section
variable {R:Rg} {P:Program} {ops:Array Oper} {Q:Exit->Act->World->Prop} {f:Nat->Bool} {t:Nat->Value} {u:World} {a:Act} {i:Nat} {o:Oper}
end
end
theorem Vj(w:World):(Op.unary .not (.bool true)).run Tryz.prog w= .ok (.bool false) w:=by go_simp
theorem slHB(sl:Option Addr)(n cap k:Nat)(h:k<=n)(hc:n<=cap)(hn:sl=none->cap=0)(w:World):(Instr.sliceAt 118 (.slice sl n cap) none (some (iI k)) none).run Tryz.prog w= .ok (.slice sl k cap) w:=by
 cases sl with
 | none=>
  have e0:=hn rfl
  have e1:n=0:=by omega
  have e2:k=0:=by omega
  subst e0 e1 e2
  show (Instr.sliceAt 118 (.slice none 0 0) none (some (iI 0)) none).run Tryz.prog w=_
  kernel_rfl
 | some a=>
  have h3:k<=cap:=by omega
  simp[Instr.sliceAt,Instr.slice,go_sem,Tryz.underlying118,h3]
theorem IN_nil(u:World)(h:0<u.heap.size):IN u u.heap.size (.slice none 0 0) []:=⟨none,0,0,0,rfl,Nat.le_refl _,.inl rfl,h,fun j hj=>by simp at hj⟩
theorem sc32(ds:List Nat)(hd:ds.length=32)(u:World):(storeCells ⟨u.heap.size,0,none⟩ (U8 ds)).run Tryz.prog (u.alloc (.cells #[.int .u8 0,.int .u8 0,.int .u8 0,.int .u8 0,.int .u8 0,.int .u8 0,.int .u8 0,.int .u8 0,.int .u8 0,.int .u8 0,.int .u8 0,.int .u8 0,.int .u8 0,.int .u8 0,.int .u8 0,.int .u8 0,.int .u8 0,.int .u8 0,.int .u8 0,.int .u8 0,.int .u8 0,.int .u8 0,.int .u8 0,.int .u8 0,.int .u8 0,.int .u8 0,.int .u8 0,.int .u8 0,.int .u8 0,.int .u8 0,.int .u8 0,.int .u8 0] 210))= .ok () ((u.alloc (.cells #[.int .u8 0,.int .u8 0,.int .u8 0,.int .u8 0,.int .u8 0,.int .u8 0,.int .u8 0,.int .u8 0,.int .u8 0,.int .u8 0,.int .u8 0,.int .u8 0,.int .u8 0,.int .u8 0,.int .u8 0,.int .u8 0,.int .u8 0,.int .u8 0,.int .u8 0,.int .u8 0,.int .u8 0,.int .u8 0,.int .u8 0,.int .u8 0,.int .u8 0,.int .u8 0,.int .u8 0,.int .u8 0,.int .u8 0,.int .u8 0,.int .u8 0,.int .u8 0] 210)).setCells u.heap.size 0 (U8 ds)):=by
 have hc:CV (u.alloc (.cells #[.int .u8 0,.int .u8 0,.int .u8 0,.int .u8 0,.int .u8 0,.int .u8 0,.int .u8 0,.int .u8 0,.int .u8 0,.int .u8 0,.int .u8 0,.int .u8 0,.int .u8 0,.int .u8 0,.int .u8 0,.int .u8 0,.int .u8 0,.int .u8 0,.int .u8 0,.int .u8 0,.int .u8 0,.int .u8 0,.int .u8 0,.int .u8 0,.int .u8 0,.int .u8 0,.int .u8 0,.int .u8 0,.int .u8 0,.int .u8 0,.int .u8 0,.int .u8 0] 210)) u.heap.size (U8 z32):=CV.new u (U8 z32) 210
 have hl:(U8 z32).length=32:=by rw[Ze];rfl
 have hl2:(U8 ds).length=32:=by rw[Ze];exact hd
 have h:=run_storeCells_cells (P:=Tryz.prog) u.heap.size 0 (U8 ds) 0 (u.alloc (.cells #[.int .u8 0,.int .u8 0,.int .u8 0,.int .u8 0,.int .u8 0,.int .u8 0,.int .u8 0,.int .u8 0,.int .u8 0,.int .u8 0,.int .u8 0,.int .u8 0,.int .u8 0,.int .u8 0,.int .u8 0,.int .u8 0,.int .u8 0,.int .u8 0,.int .u8 0,.int .u8 0,.int .u8 0,.int .u8 0,.int .u8 0,.int .u8 0,.int .u8 0,.int .u8 0,.int .u8 0,.int .u8 0,.int .u8 0,.int .u8 0,.int .u8 0,.int .u8 0] 210)) (fun j hj=>by
  rw[Nat.zero_add,(hc j _ (List.getElem?_eq_getElem (by omega))).1];rfl) (fun j hj=>by
  rw[Nat.zero_add];exact(hc j _ (List.getElem?_eq_getElem (by omega))).2) U8_mem
 exact h
theorem bk32(ds:List Nat)(hd:ds.length=32)(m:Nat)(u:World)(hm:m<=u.heap.size):Bk m ((u.alloc (.cells #[.int .u8 0,.int .u8 0,.int .u8 0,.int .u8 0,.int .u8 0,.int .u8 0,.int .u8 0,.int .u8 0,.int .u8 0,.int .u8 0,.int .u8 0,.int .u8 0,.int .u8 0,.int .u8 0,.int .u8 0,.int .u8 0,.int .u8 0,.int .u8 0,.int .u8 0,.int .u8 0,.int .u8 0,.int .u8 0,.int .u8 0,.int .u8 0,.int .u8 0,.int .u8 0,.int .u8 0,.int .u8 0,.int .u8 0,.int .u8 0,.int .u8 0,.int .u8 0] 210)).setCells u.heap.size 0 (U8 ds)) [(true,u.heap.size,U8 ds)]:=by
 have hc:CV (u.alloc (.cells #[.int .u8 0,.int .u8 0,.int .u8 0,.int .u8 0,.int .u8 0,.int .u8 0,.int .u8 0,.int .u8 0,.int .u8 0,.int .u8 0,.int .u8 0,.int .u8 0,.int .u8 0,.int .u8 0,.int .u8 0,.int .u8 0,.int .u8 0,.int .u8 0,.int .u8 0,.int .u8 0,.int .u8 0,.int .u8 0,.int .u8 0,.int .u8 0,.int .u8 0,.int .u8 0,.int .u8 0,.int .u8 0,.int .u8 0,.int .u8 0,.int .u8 0,.int .u8 0] 210)) u.heap.size (U8 z32):=CV.new u (U8 z32) 210
 refine⟨⟨⟨by rw[Zh];simp,fun _=>hm,hc.put ?_⟩,trivial⟩,by simp⟩
 rw[Ze,Ze,hd];rfl
section
section
variable {R:Rg} {P:Program} {ops:Array Oper} {Q:Exit->Act->World->Prop} {f:Nat->Bool} {t:Nat->Value} {u:World} {a:Act} {i:Nat} {o:Oper}
end
def pad(xs:List Nat):List Nat:=xs++ending xs.length
end
end
section
theorem tkA_block(q:List Nat×List Nat×Nat)(c:List Nat)(hc:c.length=64)(hb:q.2.1.length=64)(hm:q.2.2%64=0):tkA q c=(blk q.1 c,c,q.2.2+64):=by
 have h1:=tkB_many q.2.2 q.2.1 c hb 0 0 (by omega) 64 (by omega) (by omega)
 have h2:=tkS_many q.2.2 q.1 q.2.1 c 0 0 (by omega) 63 (by omega)
 have e:tkB q.2.2 q.2.1 c 64=c:=by
  rw[show 64=0+64 from rfl,h1]
  show []++c.take 64++q.2.1.drop 64=c
  rw[List.take_of_length_le (by omega),List.drop_eq_nil_of_le (by omega)];simp
 rw[if_pos (by omega)] at h2
 have h2:tkS q.2.2 q.1 q.2.1 c 64=blk q.1 (tkB q.2.2 q.2.1 c 64):=h2
 rw[tkA_all,hc,h2,e]
def blkS(ps:List Nat):Nat->List Nat
 | 0=>fst8
 | k+1=>blk (blkS ps k) ((ps.drop (64*k)).take 64)
theorem blkS_W(ps:List Nat): ∀k,WW 8 (blkS ps k)
 | 0=>q00_W.s
 | k+1=>blk_W (blkS_W ps k) _
theorem tkA_blkS(ps:List Nat): ∀k,64*k<=ps.length-> ∃b,b.length=64/\tkA q00 (ps.take (64*k))=(blkS ps k,b,64*k)
 | 0,_=>⟨z64,rfl,rfl⟩
 | k+1,h=>by
  obtain⟨b,hb,e⟩:=tkA_blkS ps k (by omega)
  have hl:((ps.drop (64*k)).take 64).length=64:=by rw[List.length_take,List.length_drop];omega
  refine⟨(ps.drop (64*k)).take 64,hl,?_⟩
  rw[show 64*(k+1)=64*k+64 by omega,List.take_add,tkA_app,e]
  exact tkA_block _ _ hl hb (by show 64*k%64=0;omega)
theorem pad_len(xs:List Nat):(pad xs).length=xs.length+(nou xs.length+9):=by unfold pad;rw[List.length_append,(ending_B xs.length).len]
theorem dig_blkS(xs:List Nat)(nb:Nat)(h:64*nb=(pad xs).length):dig xs=told (blkS (pad xs) nb):=by
 obtain⟨b,hb,e⟩:=tkA_blkS (pad xs) nb (by omega)
 rw[h,List.take_length] at e
 unfold dig
 rw[show xs++ending xs.length=pad xs from rfl,e]
theorem pad_B(xs:List Nat)(h: ∀x∈xs,x<256): ∀x∈pad xs,x<256:=fun x hx=>by
 rcases List.mem_append.1 hx with h1 | h1
 ·exact h x h1
 ·exact(ending_B _).mem x h1
theorem told_get(ss:List Nat)(i:Nat)(h:i<32):(told ss).getD i 0=(ss.getD (i/4) 0>>>(8*(3 -i%4)))%256:=by
 have key: ∀n,n<=32-> ∀i,i<n->(tld ss n).getD i 0=(ss.getD (i/4) 0>>>(8*(3 -i%4)))%256:=fun n=>by
  induction n with
  | zero=>intro _ i hi;omega
  | succ n ih=>
   intro hn i hi
   show ((tld ss n).set n _).getD i 0=_
   have hl:(tld ss n).length=32:=(tld_B ss n).len
   by_cases e:i=n
   ·subst e
    rw[List.getD_eq_getElem?_getD,List.getElem?_set_self (by omega)];rfl
   ·rw[List.getD_eq_getElem?_getD,List.getElem?_set_ne (by omega),<-List.getD_eq_getElem?_getD]
    exact ih (by omega) i (by omega)
 exact key 32 (Nat.le_refl _) i h
def fill(ps:List Nat)(o:Nat):Nat->List Nat
 | 0=>z64
 | j+1=>(fill ps o j).set j (ps.getD (o+j) 0)
theorem fill_is(ps:List Nat)(o:Nat)(h:o+64<=ps.length): ∀j,j<=64->fill ps o j=(ps.drop o).take j++z64.drop j
 | 0,_=>by simp[fill]
 | j+1,hj=>by
  have hz:z64.length=64:=rfl
  have hg:ps.getD (o+j) 0=ps[o+j]:=by rw[List.getD_eq_getElem?_getD,List.getElem?_eq_getElem (by omega)];rfl
  have hl:((ps.drop o).take j).length=j:=by rw[List.length_take,List.length_drop];omega
  have hd:z64.drop j=z64[j]'(by omega)::z64.drop (j+1):=List.drop_eq_getElem_cons (by omega)
  unfold fill
  rw[fill_is ps o h j (by omega),hd,List.set_append_right _ _ (by omega),hl,Nat.sub_self,List.set_cons_zero,hg]
  rw[List.take_succ_eq_append_getElem (by rw[List.length_drop];omega)]
  simp
theorem fill_all(ps:List Nat)(o:Nat)(h:o+64<=ps.length):fill ps o 64=(ps.drop o).take 64:=by
 rw[fill_is ps o h 64 (Nat.le_refl _),show z64.drop 64=[] from rfl];simp
end
section
open Go.RowKit
section
theorem W1:EnT 174:=fun _ _=>by kernel_rfl
theorem SB.take{w:World}{g o:Nat}{xs:List Nat}(h:SB w g o xs)(n:Nat):SB w g o (xs.take n):=fun j hj=>by
 have hj2:j<n/\j<xs.length:=by rw[List.length_take] at hj;omega
 rw[h j hj2.2,List.getD_eq_getElem?_getD,List.getD_eq_getElem?_getD,List.getElem?_take_of_lt hj2.1]
section
variable {R:Rg} {P:Program} {ops:Array Oper} {Q:Exit->Act->World->Prop} {f:Nat->Bool} {t:Nat->Value} {u:World} {a:Act} {i:Nat} {o:Oper}
end
theorem bdF(w:World):(Instr.build 233 [(0,.int .u32 1779033703),(1,.int .u32 3144134277),(2,.int .u32 1013904242),(3,.int .u32 2773480762),(4,.int .u32 1359893119),(5,.int .u32 2600822924),(6,.int .u32 528734635),(7,.int .u32 1541459225)].toArray).run Tryz.prog w= .ok (.agg (U32 fst8).toArray) w:=by kernel_rfl
theorem bdZ(w:World):(Instr.build 236 ([]:List (Nat×Value)).toArray).run Tryz.prog w= .ok (.agg (U8 z64).toArray) w:=by kernel_rfl
theorem al__64_uint8(w:World):(Instr.alloc 236 true (.tuple #[])).run Tryz.prog w= .ok (.pointer (some ⟨w.heap.size,0,none⟩)) (w.alloc (.cells (U8 z64).toArray 236)):=by kernel_rfl
theorem x64b(b k:Nat)(w:World)(h:k<64):(Instr.indexAt 236 (.pointer (some ⟨b,0,none⟩)) (iI k)).run Tryz.prog w= .ok (.pointer (some ⟨b,k,none⟩)) w:=by
 have h2:(k:Int)<64:=by omega
 go_simp
theorem cFirst(w:World):CC 174 #[] w (.agg (U32 fst8).toArray):=by
 go_enter Tryz.func174,Tryz.ntmps174
 go_upto_region 1 with fail
 generalize hC:(w.alloc (.cells (Z8w:List Value).toArray 233))=v0 at *
 have HB0:Bw w v0:=by rw[<-hC];exact Z1 (Z5 w) _
 have K0:Bk w.heap.size v0 [(true,w.heap.size,U32 z8)]:=by rw[<-hC];exact(Bk.nil _ w).ad
 clear hC
 refine Rp K0 HB0 [.all 1 (U32 fst8)] [] [(0,1,_)] [] [] [] (oc (g_bd bdF)<|oc (g_st 0 Zq (h1:=Uq _) (hm:=by rw[Y7,show fst8.length=8 from rfl]) (hl:=by rw[Y7,Y7,show fst8.length=8 from rfl,show z8.length=8 from rfl])) on) fun u1 HB1 _ K1=>?_
 simp only[sQ] at K1⊢
 go_wp2
 refine bodyPost_ret (Xk Tryz.results174 rfl (K1.cv 0) Tryz.underlying233 rfl (by rw[Y7,show fst8.length=8 from rfl];exact Zq)) rfl ⟨rfl,HB1⟩
end
theorem sl32(b:Nat)(w:World):(Instr.sliceAt 210 (.pointer (some ⟨b,0,none⟩)) none none none).run Tryz.prog w= .ok (.slice (some ⟨b,0,none⟩) 32 32) w:=by
 simp[Instr.sliceAt,Instr.slice,go_sem,Tryz.underlying210]
theorem eql_it(p q:Operand)(x y:Int)(b:Bool)(w:World)(h:decide (x=y)=b):(do eqGuard .eql 3 p q (iI x) (iI y);binOp .eql 3 (iI x) (iI y):Sem Value).run Tryz.prog w= .ok (.bool b) w:=by
 subst h;go_simp
 first | done | (by_cases e:x=y<;>simp[e])
theorem PF.sl{lo n:Nat}{xs:List Value}{u:World}{y:Value}(h:PF lo n xs u y): ∃sl n cap,y= .slice sl n cap:=by
 obtain⟨b,rfl,_⟩:=h;exact⟨_,_,_,rfl⟩
def PQ1(lo:Nat)(p:List Nat)(u:World)(y:Value):Prop:= ∃b v,y= .slice (some ⟨b,0,none⟩) 1 1/\lo<=b/\b<u.heap.size/\CV u b [v]/\IN u u.heap.size v p
theorem PQ1.stab{lo:Nat}{p:List Nat}{u v:World}{x:Value}(hB:Bw u v)(h:PQ1 lo p u x):PQ1 lo p v x:=by
 obtain⟨b,y,e,h1,h2,h3,h4⟩:=h
 exact⟨b,y,e,h1,Nat.lt_of_lt_of_le h2 hB.size,h3.below hB h2,(h4.below hB).mono hB.size⟩
theorem PQ1.new{lo:Nat}{p:List Nat}{u:World}{y:Value}(t:TypeId)(h:lo<=u.heap.size)(hy:IN u u.heap.size y p):PQ1 lo p (u.alloc (.cells [y].toArray t)) (.slice (some ⟨u.heap.size,0,none⟩) 1 1):=
 ⟨_,y,rfl,h,by simp,CV.new u _ t,(hy.below (Z1 (Z5 u) _)).mono (by simp)⟩
def LV(w:World)(y:Value)(ps:List (List Nat)):Prop:= ∃(sl:Option Addr) (cap gl go:Nat),y= .slice sl ps.length cap/\(ps.length=0\/sl=some ⟨gl,go,none⟩)/\gl<w.heap.size/\PL w gl go ps
theorem LV.below{w u:World}{y:Value}{ps:List (List Nat)}(h:LV w y ps)(hB:Bw w u):LV u y ps:=by
 obtain⟨sl,cap,gl,go,e,h1,h2,h3⟩:=h
 exact⟨sl,cap,gl,go,e,h1,Nat.lt_of_lt_of_le h2 hB.size,h3.below h2 hB⟩
theorem CV_in{u:World}{b n:Nat}{xs:List Nat}(hl:xs.length=n)(h:CV u b (U8 xs))(hb:b<u.heap.size):IN u u.heap.size (.slice (some ⟨b,0,none⟩) n n) xs:=by
 subst hl
 refine⟨_,_,b,0,rfl,Nat.le_refl _,.inr rfl,hb,fun j hj=>?_⟩
 rw[Nat.zero_add];exact(h j _ (Yn xs j hj)).1
def mac(ks xs:List Nat):List Nat:=hm (whl ks) xs
theorem mac_B(ks xs:List Nat):BB 32 (mac ks xs):=hm_B _ _
section
section
variable {R:Rg} {P:Program} {ops:Array Oper} {Q:Exit->Act->World->Prop} {f:Nat->Bool} {t:Nat->Value} {u:World} {a:Act} {i:Nat} {o:Oper}
end
theorem Ue(w:World):(Op.unary .not (.bool false)).run Tryz.prog w= .ok (.bool true) w:=by go_simp
end
theorem bs0b(w:World):(Instr.buildSlice 118 0 #[]).run Tryz.prog w= .ok (.slice (some ⟨w.heap.size,0,none⟩) 0 0) (w.alloc (.cells #[] 5)):=by kernel_rfl
theorem IN_NW{u:World}{m:Nat}{v:Value}{xs:List Nat}(h:IN u m v xs):NW xs.length (U8 xs) u v:=by
 obtain⟨sl,cap,gb,go,rfl,h1,h2,h3,h4⟩:=h
 refine⟨sl,cap,rfl,h2.imp_right fun e=>⟨_,e,fun j v hj=>?_⟩⟩
 have hj':j<xs.length:=by have:=(List.getElem?_eq_some_iff.1 hj).1;rwa [Ze] at this
 rw[Addr.addo,h4 j hj',<-hj]
 exact(Yn xs j hj').symm
theorem app_PZ{lo:Nat}{xs:List Nat}{y:Value}{ty:TypeId}{u:World}{vs:Value}(hlo:lo<=u.heap.size)(hl:xs.length<=1000000)(hy:IN u u.heap.size y xs)(h:PZ lo u vs):
 ∃v u',(Builtin.append_ #[118,118] ty #[vs,y]).run Tryz.prog u= .ok v u'/\Bw u u'/\PG lo 1 xs.length (U8 xs) u' v:=by
 obtain⟨b,rfl,h1,h2⟩:=h
 obtain⟨ti,hti,htm⟩:=Option.map_eq_some_iff.1 infoB
 simp only[Prod.mk.injEq] at htm
 obtain⟨hzv,hsz,hby⟩:=htm
 obtain⟨v',u',hr,hB,hg⟩:=run_appF (P:=Tryz.prog) u (ty:=ty) Tryz.underlying118 hti hzv (by rw[hsz];rfl) (n:=0) (m:=xs.length) (xs:=[]) (news:=U8 xs) (fun j v h=>by simp at h) h1 hlo h2 (by simp) (IN_NW hy) (by rw[hsz,Ze];omega) (by rw[hby];omega) (by omega)
 rw[hsz,Nat.zero_add,List.nil_append] at hg
 exact⟨v',u',hr,hB,hg⟩
theorem PG_in{lo s:Nat}{xs:List Nat}{u:World}{y:Value}(h:PG lo s xs.length (U8 xs) u y):IN u u.heap.size y xs:=by
 obtain⟨b,cap,zs,rfl,h1,h2,h3,h4,h5⟩:=h
 refine⟨_,_,b,0,rfl,h3,.inr rfl,h2,fun j hj=>?_⟩
 rw[Nat.zero_add];exact(h5.pre2 j _ (Yn xs j hj)).1
section
section
variable {R:Rg} {P:Program} {ops:Array Oper} {Q:Exit->Act->World->Prop} {f:Nat->Bool} {t:Nat->Value} {u:World} {a:Act} {i:Nat} {o:Oper}
end
def exT(k tx:List Nat):Nat->List Nat
 | 0=>[]
 | i+1=>hm k (exT k tx i++tx++[(i+1)%256])
def exS(k tx:List Nat):Nat->List Nat
 | 0=>[]
 | i+1=>exS k tx i++exT k tx (i+1)
def exN(k tx:List Nat)(n:Nat):List Nat:=(exS k tx ((n+31)/32)).take n
theorem exT_B(k tx:List Nat)(i:Nat):BB 32 (exT k tx (i+1)):=hm_B _ _
theorem exS_len(k tx:List Nat): ∀i,(exS k tx i).length=32*i
 | 0=>rfl
 | i+1=>by rw[exS,List.length_append,exS_len k tx i,(exT_B k tx i).len];omega
theorem exS_m(k tx:List Nat): ∀i,∀x∈exS k tx i,x<256
 | 0=>by simp[exS]
 | i+1=>fun x hx=>by
  rcases List.mem_append.1 hx with h | h
  ·exact exS_m k tx i x h
  ·exact(exT_B k tx i).mem x h
theorem exS_take(k tx:List Nat)(i:Nat): ∀d,(exS k tx (i+d)).take (32*i)=exS k tx i
 | 0=>by rw[Nat.add_zero,List.take_of_length_le (by rw[exS_len];omega)]
 | d+1=>by
  rw[show i+(d+1)=(i+d)+1 by omega,exS,List.take_append_of_le_length (by rw[exS_len];omega),exS_take k tx i d]
theorem exN_of(k tx:List Nat)(i n:Nat)(h:n<=32*i):(exS k tx i).take n=exN k tx n:=by
 unfold exN
 have e:=exS_take k tx ((n+31)/32) (i -(n+31)/32)
 rw[show (n+31)/32+(i -(n+31)/32)=i by omega] at e
 rw[<-e,List.take_take,show min n (32*((n+31)/32))=n by omega]
theorem exN_m(k tx:List Nat)(n:Nat): ∀x∈exN k tx n,x<256:=fun x hx=>exS_m k tx _ x (List.mem_of_mem_take hx)
def lenV:Value->Nat
 | .slice _ n _=>n
 | _=>0
theorem IN.sl{u:World}{m:Nat}{v:Value}{xs:List Nat}(h:IN u m v xs): ∃sl n cap,v= .slice sl n cap:=by
 obtain⟨sl,cap,gb,go,rfl,_⟩:=h;exact⟨_,_,_,rfl⟩
theorem PS.sl{lo n:Nat}{xs:List Value}{u:World}{y:Value}(h:PS lo n xs u y): ∃sl n cap,y= .slice sl n cap:=by
 obtain⟨b,cap,rfl,_⟩:=h;exact⟨_,_,_,rfl⟩
def PM(lo n:Nat)(u:World)(v:Value):Prop:= ∃b zs,v= .slice (some ⟨b,0,none⟩) 0 n/\lo<=b/\b<u.heap.size/\zs.length=n/\CV u b zs
theorem PM.stab{lo n:Nat}{u v:World}{x:Value}(hB:Bw u v)(h:PM lo n u x):PM lo n v x:=by
 obtain⟨b,zs,e,h1,h2,h3,h4⟩:=h
 exact⟨b,zs,e,h1,Nat.lt_of_lt_of_le h2 hB.size,h3,h4.below hB h2⟩
theorem mkRoom{lo:Nat}(n:Nat)(hn:n<=1000000)(u:World)(h:lo<=u.heap.size): ∃v u',(Instr.makeSlice 118 (iI 0) (iI (n:Int))).run Tryz.prog u= .ok v u'/\Bw u u'/\PM lo n u' v:=by
 obtain⟨i,hi,hi2⟩:=Option.map_eq_some_iff.1 infoB
 simp only[Prod.mk.injEq] at hi2
 obtain⟨hz,hs,hb⟩:=hi2
 have:=run_makeSlice (P:=Tryz.prog) u 118 5 i (.int .u8 0) Tryz.underlying118 hi hz .i64 .i64 0 n (by omega) (by omega) (by rw[hs];omega) (by rw[hb];omega) (by omega)
 refine⟨_,_,this,Z1 (Z5 u) _,u.heap.size,(madeCells (Value.int .u8 0).cells ((n:Int).toNat*i.size)).toList,by simp,h,by simp,?_,?_⟩
 ·rw[hs];simp[madeCells]
 ·have:=CV.new u (madeCells (Value.int .u8 0).cells ((n:Int).toNat*i.size)).toList 5
  simpa using this
end
end
end Go.Proofs.YtmoimodkopjeeaaGreatDoor
