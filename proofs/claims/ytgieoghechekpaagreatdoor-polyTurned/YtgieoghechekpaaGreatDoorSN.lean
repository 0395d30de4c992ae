import Derived.Test.YtgieoghechekpaaGreatDoorSH7
import Derived.Deep.Upon
import Derived.Lib.SlBytesConst
import Derived.Lib.ConvBytes
namespace Go.Proofs.YtgieoghechekpaaGreatDoor
set_option linter.unusedVariables false
set_option linter.unusedSimpArgs false
set_option maxRecDepth 100000
set_option maxHeartbeats 4000000
open Go.RowKit
section
def tk1(q:List Nat×List Nat×Nat)(x:Nat):List Nat×List Nat×Nat:=
 (if (q.2.2+1)%64=0 then blk q.1 (q.2.1.set (q.2.2%64) x) else q.1,q.2.1.set (q.2.2%64) x,q.2.2+1)
def tkA(q:List Nat×List Nat×Nat)(xs:List Nat):List Nat×List Nat×Nat:=xs.foldl tk1 q
theorem tkA_app(q:List Nat×List Nat×Nat)(xs ys:List Nat):tkA q (xs++ys)=tkA (tkA q xs) ys:=List.foldl_append
theorem tkA_is(q:List Nat×List Nat×Nat)(xs:List Nat): ∀j,j<=xs.length->tkA q (xs.take j)=(tkS q.2.2 q.1 q.2.1 xs j,tkB q.2.2 q.2.1 xs j,q.2.2+j)
 | 0,_=>by simp[tkA,tkS,tkB]
 | j+1,h=>by
  have hg:xs.getD j 0=xs[j]:=by simp[List.getElem?_eq_getElem (show j<xs.length by omega)]
  rw[List.take_succ_eq_append_getElem (by omega),tkA_app,tkA_is q xs j (by omega)]
  show tk1 _ _=_
  unfold tk1
  simp only[tkS,tkB,hg,Nat.add_assoc]
theorem tkA_all(q:List Nat×List Nat×Nat)(xs:List Nat):tkA q xs=(tkS q.2.2 q.1 q.2.1 xs xs.length,tkB q.2.2 q.2.1 xs xs.length,q.2.2+xs.length):=by
 have:=tkA_is q xs xs.length (Nat.le_refl _)
 rwa [List.take_length] at this
structure QW(q:List Nat×List Nat×Nat):Prop where
 s:WW 8 q.1
 b:BB 64 q.2.1
theorem QW.go{q:List Nat×List Nat×Nat}(h:QW q)(xs:List Nat)(hx: ∀j,xs.getD j 0<256):QW (tkA q xs):=by
 rw[tkA_all];exact⟨tkS_W h.s _,tkB_B h.b hx _⟩
theorem BB.all{n:Nat}{l:List Nat}(h:BB n l): ∀j,l.getD j 0<256:=h.lt
def q00:List Nat×List Nat×Nat:=(fst8,z64,0)
def dig(xs:List Nat):List Nat:=told (tkA q00 (xs++ending xs.length)).1
section
variable {R:Rg} {P:Program} {ops:Array Oper} {Q:Exit->Act->World->Prop} {f:Nat->Bool} {t:Nat->Value} {u:World} {a:Act} {i:Nat} {o:Oper}
end
end
def IN(w:World)(m:Nat)(v:Value)(xs:List Nat):Prop:= ∃(sl:Option Addr) (cap gb go:Nat),v= .slice sl xs.length cap/\xs.length<=cap/\(xs.length=0\/sl=some ⟨gb,go,none⟩)/\gb<m/\SB w gb go xs
theorem IN.below{w u:World}{m:Nat}{v:Value}{xs:List Nat}(h:IN w m v xs)(hB:Below m w u):IN u m v xs:=by
 obtain⟨sl,cap,gb,go,e,h1,h2,h3,h4⟩:=h
 exact⟨sl,cap,gb,go,e,h1,h2,h3,h4.below hB h3⟩
theorem IN.mono{w:World}{m m':Nat}{v:Value}{xs:List Nat}(h:IN w m v xs)(hm:m<=m'):IN w m' v xs:=by
 obtain⟨sl,cap,gb,go,e,h1,h2,h3,h4⟩:=h
 exact⟨sl,cap,gb,go,e,h1,h2,Nat.lt_of_lt_of_le h3 hm,h4⟩
def PL(w:World)(gl go:Nat)(ps:List (List Nat)):Prop:= ∀i p,ps[i]?=some p-> ∃v,w.cell? ⟨gl,go+i,none⟩=some v/\IN w w.heap.size v p
theorem BB.mem{n:Nat}{l:List Nat}(h:BB n l): ∀x∈l,x<256:=fun x hx=>by
 obtain⟨j,hj⟩:=List.mem_iff_getElem?.1 hx
 have:=h.lt j
 rwa [List.getD_eq_getElem?_getD,hj] at this
section
theorem Addr.add0(b j:Nat):(⟨b,0,none⟩:Addr).add j=⟨b,j,none⟩:=by unfold Addr.add;split<;>simp_all
def NW(m:Nat)(news:List Value)(u:World)(y:Value):Prop:= ∃sl c,y= .slice sl m c/\(m=0\/ ∃ad,sl=some ad/\ ∀j v,news[j]?=some v->u.cell? (ad.add j)=some v)
def PH(base b0 s n:Nat)(xs:List Value)(u:World)(v:Value):Prop:= ∃b cap zs,v= .slice (some ⟨b,0,none⟩) n cap/\(b=b0\/base<=b)/\b<u.heap.size/\n<=cap/\zs.length=(cap -n)*s/\CV u b (xs++zs)
theorem PH.stab{base b0 s n:Nat}{xs:List Value}{u v:World}{x:Value}(hB:Bw u v)(h:PH base b0 s n xs u x):PH base b0 s n xs v x:=by
 obtain⟨b,cap,zs,e,h1,h2,h3,h4,h5⟩:=h
 exact⟨b,cap,zs,e,h1,Nat.lt_of_lt_of_le h2 hB.size,h3,h4,h5.below hB h2⟩
theorem grown_setCells(u:World)(b o:Nat)(vs:List Value):u.grownBy (u.setCells b o vs) (some b):=by
 have h:Below (min b u.heap.size) u (u.setCells b o vs):=Z4 (Nat.min_le_left _ _) _ _ _ (Below.refl _ _)
 refine⟨h.os,h.tape,h.output,by rw[Z1];exact Nat.le_refl _,fun k hk hne=>?_⟩
 exact World.heap_setCells_other u b o vs hk (fun e=>hne (by rw[e]))
section
variable {P:Program}
theorem run_app(w:World){T ty e:TypeId}{ti:TypeInfo}{z:Value}(ht:P.underlying T=some (.slice e))(hi:P.info? e=some ti)(hz:ti.zero=some z)(hzs:z.cells.size=ti.size){base b n cap m:Nat}{xs zs news:List Value}{y:Value}(hcv:CV w b (xs++zs))(hlt:b<w.heap.size)(hx:xs.length=n*ti.size)(hzl:zs.length=(cap -n)*ti.size)(hnc:n<=cap)(hbase:base<=w.heap.size)(hy:NW m news w y)(hl:news.length=m*ti.size)(h1: ∀v∈news,v.oneCell'=true)(hb:(n+m)*ti.bytes<=140737488355328)(h63:n+m<=9223372036854775807):
 ∃v' w',(Builtin.append_ #[T,T] ty #[.slice (some ⟨b,0,none⟩) n cap,y]).run P w= .ok v' w'/\w.grownBy w' (some b)/\PH base b ti.size (n+m) (xs++news) w' v':=by
 obtain⟨sl,c,rfl,hy⟩:=hy
 by_cases hm:m=0
 ·subst hm
  have hn0:news=[]:=List.eq_nil_of_length_eq_zero (by omega)
  subst hn0
  refine⟨.slice (some ⟨b,0,none⟩) n cap,w,?_,World.grownBy.refl _ _,b,cap,zs,rfl,.inl rfl,hlt,hnc,hzl,by simpa using hcv⟩
  have hf:(Builtin.firstCells ti.size 0 (.slice sl 0 c)).run P w= .ok #[] w:=by
   cases sl with
   | none=>exact run_firstCells_none (P:=P) w ti.size 0 0 c
   | some ad=>exact run_firstCells_some (P:=P) w ti.size 0 ad 0 c [] (by simp) (fun j v h=>by simp at h)
  simp[Builtin.append_,run_underlying ht,sizeOf,typeInfo,hi,Builtin.lenOf,hnc,hf,storeCells]
 ·obtain⟨ad,rfl,hnews⟩:=hy.resolve_left hm
  have hmul:(n+m)*ti.size=n*ti.size+m*ti.size:=Nat.add_mul _ _ _
  by_cases hr:n+m<=cap
  ·have hk:(cap -n)*ti.size=m*ti.size+(cap -(n+m))*ti.size:=by rw[<-Nat.add_mul];congr 1;omega
   have h:=run_append_in (P:=P) w (ty:=ty) ht hi hcv (m:=m) (c:=c) hl hnews h1 hr (by rw[List.length_append];omega)
   refine⟨_,_,h,grown_setCells _ _ _ _,b,cap,zs.drop news.length,rfl,.inl rfl,by rw[Z1];exact hlt,hr,by rw[List.length_drop];omega,?_⟩
   have hcv2:CV w b (xs++zs.take news.length++zs.drop news.length):=by rw[List.append_assoc,List.take_append_drop];exact hcv
   exact hcv2.mid hx (by rw[List.length_take];omega)
  ·have h:=run_append_grow (P:=P) w T ty e ti z ht hi hz ⟨b,0,none⟩ n cap xs hx (fun j v hj=>by rw[Addr.add0];exact(hcv.pre2 j v hj).1) ad m c news hl hnews (by omega) (by omega) (growslice_fits (by omega) hb)
   have hB:Bw w (w.drew.alloc (.cells (xs.toArray++news.toArray++Builtin.zeroCells z.cells (grownCap w (n+m) cap e -(n+m))) e)):=Z0 (Z2 w).drew _
   refine⟨_,_,h,(below_grown hB).but _,w.heap.size,_,(Builtin.zeroCells z.cells (grownCap w (n+m) cap e -(n+m))).toList,rfl,.inr hbase,by simp,grownCap_ge w (n+m) cap e,by rw[Array.length_toList,size_zeroCells,hzs],?_⟩
   have e1:xs.toArray++news.toArray++Builtin.zeroCells z.cells (grownCap w (n+m) cap e -(n+m))=(xs++news++(Builtin.zeroCells z.cells (grownCap w (n+m) cap e -(n+m))).toList).toArray:=by apply Array.ext';simp
   rw[e1];exact CV.new w.drew _ e
end
section
variable {R:Rg} {P:Program} {ops:Array Oper} {Q:Exit->Act->World->Prop} {f:Nat->Bool} {t:Nat->Value} {u:World} {a:Act} {i:Nat} {o:Oper}
theorem KC.grown{u u':World}{lo base b:Nat}(hg:u.grownBy u' (some b))(hb:base<=b)(hsz:base<=u.heap.size): ∀{es:List Ent},KC f u lo base es->KC f u' lo base es
 | [],_=>trivial
 | y::ys,h=>⟨⟨h.1.1,h.1.2.1,fun j x hj=>by
  have hk:u'.heap[y.2.1]?=u.heap[y.2.1]?:=hg.block _ (Nat.lt_of_lt_of_le h.1.1 hsz) (fun e=>by cases e;have:=h.1.1;omega)
  rw[World.cell?_of_block (a:=⟨y.2.1,j,none⟩) hk,World.frozen?_of_block (a:=⟨y.2.1,j,none⟩) hk]
  exact h.1.2.2 j x hj⟩,KC.grown hg hb hsz h.2⟩
def ev1(R:Rg)(i:Nat)(o:Oper)(d:Nat)(y:Value)(x:Operand):Option Value:=
 match x with
 | .tmp k=>bif Nat.beq k d then some y else evR R i o (.tmp k)
 | x=>evR R i o x
theorem ev1_spec(X:Xs R ops f t u a i o){d:Nat}(h4:d∈R.S){x:Operand}{v:Value}(h:ev1 R i o d (t d) x=some v):a.eval x=v:=by
 unfold ev1 at h
 split at h
 ·rename_i k
  cases e:Nat.beq k d with
  | true=>
   rw[e] at h
   have e:=Nat.eq_of_beq_eq_true e
   subst e
   cases h
   exact X.inS h4
  | false=>rw[e] at h;exact X.ev h
 ·exact X.ev h
theorem evs1(X:Xs R ops f t u a i o){d:Nat}(h4:d∈R.S): ∀{xs:List Operand} {vs:List Value},xs.mapM (ev1 R i o d (t d))=some vs->xs.map a.eval=vs
 | [],vs,h=>by simp at h;subst h;rfl
 | x::xs,vs,h=>by
  simp only[List.mapM_cons,Option.bind_eq_bind,Option.bind_eq_some_iff,Option.pure_def,Option.some.injEq] at h
  obtain⟨v,hv,vs',hvs,rfl⟩:=h
  rw[List.map_cons,ev1_spec X h4 hv,evs1 X h4 hvs]
theorem g_cK{N:FuncId}{args:List Operand}{tys:Array TypeId}{vs:List Value}{v:Value}(hr: ∀(vs:Array Value) (w:World),(callFunc N vs).run P w= .ok (.enter N vs) w)
 (hcall: ∀f w,KC f w R.lo R.base R.es->R.base<=w.heap.size->Below R.lo R.w w->Calls P N vs.toArray w fun e w'=>e= .returned v/\Bw w w')(hop:o.op= .call {callee:= .value (.func N),args:=args.toArray,argTypes:=tys}:=by rfl)(hx:args.mapM (evR R i o)=some vs:=by rfl)(hv:some v=Zl i R.G:=by rfl)(hc:R.chk ops i o=true:=by rfl):OG R P ops Q i o:=fun f t u a X=>
 X.go (Y8 hc).choose_spec.2.2.2.2.2.2.2 fun K hK=>wp_callF hop (X.evs hx) hr (hcall f u X.I.2.1 X.I.1.sz X.I.1.bel) fun w' hB=>hK _ _ (X.put hv hc (X.I.1.call hB) (X.I.2.1.below hB X.I.1.sz) hB)
end
end
section
theorem run_appF{P:Program}(w:World){T ty e:TypeId}{ti:TypeInfo}{z:Value}(ht:P.underlying T=some (.slice e))(hi:P.info? e=some ti)(hz:ti.zero=some z)(hzs:z.cells.size=ti.size){lo b n m:Nat}{xs news:List Value}{y:Value}(hcv:CV w b xs)(hlo:lo<=b)(hlo2:lo<=w.heap.size)(hlt:b<w.heap.size)(hx:xs.length=n*ti.size)(hy:NW m news w y)(hl:news.length=m*ti.size)(hb:(n+m)*ti.bytes<=140737488355328)(h63:n+m<=9223372036854775807):
 ∃v' w',(Builtin.append_ #[T,T] ty #[.slice (some ⟨b,0,none⟩) n n,y]).run P w= .ok v' w'/\Bw w w'/\PG lo ti.size (n+m) (xs++news) w' v':=by
 obtain⟨sl,c,rfl,hy⟩:=hy
 by_cases hm:m=0
 ·subst hm
  have hn0:news=[]:=List.eq_nil_of_length_eq_zero (by omega)
  subst hn0
  refine⟨.slice (some ⟨b,0,none⟩) n n,w,?_,Below.refl _ _,b,n,[],rfl,hlo,hlt,Nat.le_refl _,by simp,by simpa using hcv⟩
  have hf:(Builtin.firstCells ti.size 0 (.slice sl 0 c)).run P w= .ok #[] w:=by
   cases sl with
   | none=>exact run_firstCells_none (P:=P) w ti.size 0 0 c
   | some ad=>exact run_firstCells_some (P:=P) w ti.size 0 ad 0 c [] (by simp) (fun j v h=>by simp at h)
  simp[Builtin.append_,run_underlying ht,sizeOf,typeInfo,hi,Builtin.lenOf,hf,storeCells]
 ·obtain⟨ad,rfl,hnews⟩:=hy.resolve_left hm
  have h:=run_append_grow (P:=P) w T ty e ti z ht hi hz ⟨b,0,none⟩ n n xs hx (fun j v hj=>by rw[Addr.add0];exact(hcv j v hj).1) ad m c news hl hnews (by omega) (by omega) (growslice_fits (by omega) hb)
  refine⟨_,_,h,Z0 (Z2 w).drew _,w.heap.size,_,(Builtin.zeroCells z.cells (grownCap w (n+m) n e -(n+m))).toList,rfl,hlo2,by simp,grownCap_ge w (n+m) n e,by rw[Array.length_toList,size_zeroCells,hzs],?_⟩
  have e1:xs.toArray++news.toArray++Builtin.zeroCells z.cells (grownCap w (n+m) n e -(n+m))=(xs++news++(Builtin.zeroCells z.cells (grownCap w (n+m) n e -(n+m))).toList).toArray:=by apply Array.ext';simp
  rw[e1];exact CV.new w.drew _ e
section
variable {R:Rg} {P:Program} {ops:Array Oper} {Q:Exit->Act->World->Prop} {f:Nat->Bool} {t:Nat->Value} {u:World} {a:Act} {i:Nat} {o:Oper}
end
end
def msk(x:Nat)(l:List Nat):List Nat:=l.map (· ^^^x)
def hm(k xs:List Nat):List Nat:=dig (msk 92 k++dig (msk 54 k++xs))
def PQ(lo:Nat)(ps:List (List Nat))(u:World)(y:Value):Prop:= ∃b cap,y= .slice (some ⟨b,0,none⟩) ps.length cap/\lo<=b/\b<u.heap.size/\PL u b 0 ps
theorem PL.below{u v:World}{b o:Nat}{ps:List (List Nat)}(h:PL u b o ps)(hb:b<u.heap.size)(hB:Bw u v):PL v b o ps:=fun i p hp=>by
 obtain⟨x,h1,h2⟩:=h i p hp
 exact⟨x,(hB.cell (p:=⟨b,o+i,none⟩) hb).trans h1,(h2.below hB).mono hB.size⟩
theorem PQ.stab{lo:Nat}{ps:List (List Nat)}{u v:World}{x:Value}(hB:Bw u v)(h:PQ lo ps u x):PQ lo ps v x:=by
 obtain⟨b,cap,e,h1,h2,h3⟩:=h
 exact⟨b,cap,e,h1,Nat.lt_of_lt_of_le h2 hB.size,h3.below h2 hB⟩
theorem among_any(x n:Int)(h1:1<=n)(h2:n<=1000)(hx: -9223372036854775808<=x/\x<9223372036854775808): ∃k:Nat,(k:Int)<n/\ ∀w,CC 18 #[.int .i64 x,.int .i64 n] w (.int .i64 (k:Int)):=by
 have e1:IntKind.u64.wrap n=n:=by rw[IntKind.wrap_u64];omega
 obtain⟨y,ey⟩: ∃y,IntKind.u64.wrap x=y:=⟨_,rfl⟩
 have y0:0<=y:=by rw[<-ey,IntKind.wrap_u64];omega
 have e2:y.tmod n=y%n:=Int.tmod_eq_emod_of_nonneg y0
 have m0:=Int.emod_nonneg y (show n≠0 by omega)
 have m1:=Int.emod_lt_of_pos y (show 0<n by omega)
 have e3:IntKind.i64.wrap (y%n)=y%n:=by simp[IntKind.wrap,IntKind.signed,IntKind.bits];omega
 have e4:IntKind.u64.wrap (y%n)=y%n:=by rw[IntKind.wrap_u64];omega
 refine⟨(y%n).toNat,by omega,fun w=>?_⟩
 rw[show ((y%n).toNat:Int)=y%n by omega]
 generalize y%n=z at *
 have hn1: ¬n<1:=by omega
 have hn0:n≠0:=by omega
 go_enter Tryz.func18,Tryz.ntmps18
 go_wp2
 go_ret
 exact⟨rfl,Below.refl _ _⟩
theorem Ye:EnT 18:=fun _ _=>by kernel_rfl
theorem not_t(w:World):(Op.unary .not (.bool true)).run Tryz.prog w= .ok (.bool false) w:=by go_simp
section
theorem SB.take{w:World}{g o:Nat}{xs:List Nat}(h:SB w g o xs)(n:Nat):SB w g o (xs.take n):=fun j hj=>by
 have hj2:j<n/\j<xs.length:=by rw[List.length_take] at hj;omega
 rw[h j hj2.2,List.getD_eq_getElem?_getD,List.getD_eq_getElem?_getD,List.getElem?_take_of_lt hj2.1]
section
variable {R:Rg} {P:Program} {ops:Array Oper} {Q:Exit->Act->World->Prop} {f:Nat->Bool} {t:Nat->Value} {u:World} {a:Act} {i:Nat} {o:Oper}
end
end
theorem PF.sl{lo n:Nat}{xs:List Value}{u:World}{y:Value}(h:PF lo n xs u y): ∃sl n cap,y= .slice sl n cap:=by
 obtain⟨b,rfl,_⟩:=h;exact⟨_,_,_,rfl⟩
def PQ1(lo:Nat)(p:List Nat)(u:World)(y:Value):Prop:= ∃b v,y= .slice (some ⟨b,0,none⟩) 1 1/\lo<=b/\b<u.heap.size/\CV u b [v]/\IN u u.heap.size v p
theorem PQ1.stab{lo:Nat}{p:List Nat}{u v:World}{x:Value}(hB:Bw u v)(h:PQ1 lo p u x):PQ1 lo p v x:=by
 obtain⟨b,y,e,h1,h2,h3,h4⟩:=h
 exact⟨b,y,e,h1,Nat.lt_of_lt_of_le h2 hB.size,h3.below hB h2,(h4.below hB).mono hB.size⟩
theorem PQ1.new{lo:Nat}{p:List Nat}{u:World}{y:Value}(t:TypeId)(h:lo<=u.heap.size)(hy:IN u u.heap.size y p):PQ1 lo p (u.alloc (.cells [y].toArray t)) (.slice (some ⟨u.heap.size,0,none⟩) 1 1):=
 ⟨_,y,rfl,h,by simp,CV.new u _ t,(hy.below (Z0 (Z2 u) _)).mono (by simp)⟩
def LV(w:World)(y:Value)(ps:List (List Nat)):Prop:= ∃(sl:Option Addr) (cap gl go:Nat),y= .slice sl ps.length cap/\(ps.length=0\/sl=some ⟨gl,go,none⟩)/\gl<w.heap.size/\PL w gl go ps
theorem LV.below{w u:World}{y:Value}{ps:List (List Nat)}(h:LV w y ps)(hB:Bw w u):LV u y ps:=by
 obtain⟨sl,cap,gl,go,e,h1,h2,h3⟩:=h
 exact⟨sl,cap,gl,go,e,h1,Nat.lt_of_lt_of_le h2 hB.size,h3.below h2 hB⟩
section
section
variable {R:Rg} {P:Program} {ops:Array Oper} {Q:Exit->Act->World->Prop} {f:Nat->Bool} {t:Nat->Value} {u:World} {a:Act} {i:Nat} {o:Oper}
theorem g_cZ(m n:Nat)(p p':World->Value->Prop){N:FuncId}{j d:Nat}{args:List Operand}{tys:Array TypeId}(vs:Value->List Value)(hr: ∀(vs:Array Value) (w:World),(callFunc N vs).run P w= .ok (.enter N vs) w)
 (hcall: ∀(u:World) (y:Value),Below R.lo R.w u->R.base<=u.heap.size->p u y->Calls P N (vs y).toArray u fun e u'=> ∃v,e= .returned v/\p' u' v/\Bw u u')(hop:o.op= .call {callee:= .value (.func N),args:=args.toArray,argTypes:=tys}:=by rfl)(hm:R.E[m]?=some ⟨j,d,some i,p⟩:=by rfl)(hx: ∀y,args.mapM (ev1 R i o d y)=some (vs y):=by intro y;rfl)(hd:(Zq o j&&R.S.contains d)=true:=by rfl)(hn:(R.E[n]?).map (·.p)=some p':=by rfl)(hc:R.chkE ops n i o=true:=by rfl):OG R P ops Q i o:=fun f t u a X=>by
 rw[Bool.and_eq_true,List.contains_iff_mem] at hd
 obtain⟨h2,h4⟩:=hd
 obtain⟨d',q,hd',hq,_,_,_,_,_,_,_,_,hw⟩:=Zk hc
 have hv:p u (t d):=X.val hm h2 rfl
 refine X.go hw fun K hK=>wp_callP hop (evs1 X h4 (hx (t d))) hr (hcall u (t d) X.I.1.bel X.I.1.sz hv) fun v w' h1 hB=>hK _ _ (X.putE hc (fun q hq=>by rw[hq] at hn;cases hn;exact h1) hB)
end
theorem IN.sl{u:World}{m:Nat}{v:Value}{xs:List Nat}(h:IN u m v xs): ∃sl n cap,v= .slice sl n cap:=by
 obtain⟨sl,cap,gb,go,rfl,_⟩:=h;exact⟨_,_,_,rfl⟩
theorem PS.sl{lo n:Nat}{xs:List Value}{u:World}{y:Value}(h:PS lo n xs u y): ∃sl n cap,y= .slice sl n cap:=by
 obtain⟨b,cap,rfl,_⟩:=h;exact⟨_,_,_,rfl⟩
def PM(lo n:Nat)(u:World)(v:Value):Prop:= ∃b zs,v= .slice (some ⟨b,0,none⟩) 0 n/\lo<=b/\b<u.heap.size/\zs.length=n/\CV u b zs
theorem PM.stab{lo n:Nat}{u v:World}{x:Value}(hB:Bw u v)(h:PM lo n u x):PM lo n v x:=by
 obtain⟨b,zs,e,h1,h2,h3,h4⟩:=h
 exact⟨b,zs,e,h1,Nat.lt_of_lt_of_le h2 hB.size,h3,h4.below hB h2⟩
end
def PIN(xs:List Nat)(u:World)(y:Value):Prop:=IN u u.heap.size y xs
theorem PIN.stab{xs:List Nat}{u v:World}{x:Value}(hB:Bw u v)(h:PIN xs u x):PIN xs v x:=(IN.below h hB).mono hB.size
section
section
variable {R:Rg} {P:Program} {ops:Array Oper} {Q:Exit->Act->World->Prop} {f:Nat->Bool} {t:Nat->Value} {u:World} {a:Act} {i:Nat} {o:Oper}
end
theorem eql_i(T:TypeId)(p q:Operand)(x y:Int)(b:Bool)(w:World)(h:(x==y)=b):(do eqGuard .eql T p q (.int .i64 x) (.int .i64 y);binOp .eql T (.int .i64 x) (.int .i64 y):Sem Value).run Tryz.prog w= .ok (.bool b) w:=by
 subst h;go_simp
end
end Go.Proofs.YtgieoghechekpaaGreatDoor
