import Derived.Test.YtgieoghechekpaaGreatDoorSN
import Derived.Lib.SlBytesConst
import Derived.Lib.ConvBytes
namespace Go.Proofs.YtgieoghechekpaaGreatDoor
set_option linter.unusedVariables false
set_option linter.unusedSimpArgs false
set_option maxRecDepth 100000
set_option maxHeartbeats 4000000
open Go.RowKit
def msk(x:Nat)(l:List Nat):List Nat:=l.map (· ^^^x)
def hm(k xs:List Nat):List Nat:=dig (msk 92 k++dig (msk 54 k++xs))
def PQ(lo:Nat)(ps:List (List Nat))(u:World)(y:Value):Prop:= ∃b cap,y= .slice (some ⟨b,0,none⟩) ps.length cap/\lo<=b/\b<u.heap.size/\PL u b 0 ps
theorem PL.below{u v:World}{b o:Nat}{ps:List (List Nat)}(h:PL u b o ps)(hb:b<u.heap.size)(hB:Bw u v):PL v b o ps:=fun i p hp=>by
 obtain⟨x,h1,h2⟩:=h i p hp
 exact⟨x,(hB.cell (p:=⟨b,o+i,none⟩) hb).trans h1,(h2.below hB).mono hB.size⟩
theorem PQ.stab{lo:Nat}{ps:List (List Nat)}{u v:World}{x:Value}(hB:Bw u v)(h:PQ lo ps u x):PQ lo ps v x:=by
 obtain⟨b,cap,e,h1,h2,h3⟩:=h
 exact⟨b,cap,e,h1,Nat.lt_of_lt_of_le h2 hB.size,h3.below h2 hB⟩
section
section
variable {R:Rg} {P:Program} {ops:Array Oper} {Q:Exit->Act->World->Prop} {f:Nat->Bool} {t:Nat->Value} {u:World} {a:Act} {i:Nat} {o:Oper}
theorem g_mx{x y:Operand}{tys:Array TypeId}{m n r:Int}(hr:max m n=r)(hop:o.op= .call {callee:= .builtin .max,args:=[x,y].toArray,argTypes:=tys}:=by rfl)(hx:evR R i o x=some (.int .i64 m):=by rfl)(hy:evR R i o y=some (.int .i64 n):=by rfl)(hv:some (.int .i64 r)=Zk i R.G:=by rfl)(hc:R.chk ops i o=true:=by rfl):OG R P ops Q i o:=
 Zl hv hc fun f t u a X K hK=>by
  have h1:=X.ev hx
  have h2:=X.ev hy
  refine Zq (v:= .int .i64 r) (w':=u) ?_ hK
  unfold execOp
  simp only[hop,resolve,invoke,builtin,Sem.run_bind,Sem.run_pure,Result.andThen_ok,List.map_toArray,List.map_cons,List.map_nil,h1,h2]
  subst hr
  simp[go_sem]
  all_goals (rw[Int.max_def];split<;>split<;>omega)
end
end
theorem among_any(x n:Int)(h1:1<=n)(h2:n<=1000)(hx: -9223372036854775808<=x/\x<9223372036854775808): ∃k:Nat,(k:Int)<n/\ ∀w,CC 18 #[.int .i64 x,.int .i64 n] w (.int .i64 (k:Int)):=by
 have e1:IntKind.u64.wrap n=n:=by rw[IntKind.wrap_u64];omega
 obtain⟨y,ey⟩: ∃y,IntKind.u64.wrap x=y:=⟨_,rfl⟩
 have y0:0<=y:=by rw[<-ey,IntKind.wrap_u64];omega
 have e2:y.tmod n=y%n:=Int.tmod_eq_emod_of_nonneg y0
 have m0:=Int.emod_nonneg y (show n≠0 by omega)
 have m1:=Int.emod_lt_of_pos y (show 0<n by omega)
 have e3:IntKind.i64.wrap (y%n)=y%n:=by simp[IntKind.wrap,IntKind.signed,IntKind.bits];omega
 have e4:IntKind.u64.wrap (y%n)=y%n:=by rw[IntKind.wrap_u64];omega
 refine⟨(y%n).toNat,by omega,fun w=>?_⟩
 rw[show ((y%n).toNat:Int)=y%n by omega]
 generalize y%n=z at *
 have hn1: ¬n<1:=by omega
 have hn0:n≠0:=by omega
 go_enter Tryz.func18,Tryz.ntmps18
 go_wp2
 go_ret
 exact⟨rfl,Below.refl _ _⟩
theorem not_t(w:World):(Op.unary .not (.bool true)).run Tryz.prog w= .ok (.bool false) w:=by go_simp
section
theorem SB.take{w:World}{g o:Nat}{xs:List Nat}(h:SB w g o xs)(n:Nat):SB w g o (xs.take n):=fun j hj=>by
 have hj2:j<n/\j<xs.length:=by rw[List.length_take] at hj;omega
 rw[h j hj2.2,List.getD_eq_getElem?_getD,List.getD_eq_getElem?_getD,List.getElem?_take_of_lt hj2.1]
section
variable {R:Rg} {P:Program} {ops:Array Oper} {Q:Exit->Act->World->Prop} {f:Nat->Bool} {t:Nat->Value} {u:World} {a:Act} {i:Nat} {o:Oper}
end
end
theorem PF.sl{lo n:Nat}{xs:List Value}{u:World}{y:Value}(h:PF lo n xs u y): ∃sl n cap,y= .slice sl n cap:=by
 obtain⟨b,rfl,_⟩:=h;exact⟨_,_,_,rfl⟩
def PQ1(lo:Nat)(p:List Nat)(u:World)(y:Value):Prop:= ∃b v,y= .slice (some ⟨b,0,none⟩) 1 1/\lo<=b/\b<u.heap.size/\CV u b [v]/\IN u u.heap.size v p
theorem PQ1.stab{lo:Nat}{p:List Nat}{u v:World}{x:Value}(hB:Bw u v)(h:PQ1 lo p u x):PQ1 lo p v x:=by
 obtain⟨b,y,e,h1,h2,h3,h4⟩:=h
 exact⟨b,y,e,h1,Nat.lt_of_lt_of_le h2 hB.size,h3.below hB h2,(h4.below hB).mono hB.size⟩
theorem PQ1.new{lo:Nat}{p:List Nat}{u:World}{y:Value}(t:TypeId)(h:lo<=u.heap.size)(hy:IN u u.heap.size y p):PQ1 lo p (u.alloc (.cells [y].toArray t)) (.slice (some ⟨u.heap.size,0,none⟩) 1 1):=
 ⟨_,y,rfl,h,by simp,CV.new u _ t,(hy.below (Z0 (Z2 u) _)).mono (by simp)⟩
def LV(w:World)(y:Value)(ps:List (List Nat)):Prop:= ∃(sl:Option Addr) (cap gl go:Nat),y= .slice sl ps.length cap/\(ps.length=0\/sl=some ⟨gl,go,none⟩)/\gl<w.heap.size/\PL w gl go ps
theorem LV.below{w u:World}{y:Value}{ps:List (List Nat)}(h:LV w y ps)(hB:Bw w u):LV u y ps:=by
 obtain⟨sl,cap,gl,go,e,h1,h2,h3⟩:=h
 exact⟨sl,cap,gl,go,e,h1,Nat.lt_of_lt_of_le h2 hB.size,h3.below h2 hB⟩
section
section
variable {R:Rg} {P:Program} {ops:Array Oper} {Q:Exit->Act->World->Prop} {f:Nat->Bool} {t:Nat->Value} {u:World} {a:Act} {i:Nat} {o:Oper}
theorem g_cZ(m n:Nat)(p p':World->Value->Prop){N:FuncId}{j d:Nat}{args:List Operand}{tys:Array TypeId}(vs:Value->List Value)(hr: ∀(vs:Array Value) (w:World),(callFunc N vs).run P w= .ok (.enter N vs) w)
 (hcall: ∀(u:World) (y:Value),Below R.lo R.w u->R.base<=u.heap.size->p u y->Calls P N (vs y).toArray u fun e u'=> ∃v,e= .returned v/\p' u' v/\Bw u u')(hop:o.op= .call {callee:= .value (.func N),args:=args.toArray,argTypes:=tys}:=by rfl)(hm:R.E[m]?=some ⟨j,d,some i,p⟩:=by rfl)(hx: ∀y,args.mapM (ev1 R i o d y)=some (vs y):=by intro y;rfl)(hd:(Zs o j&&R.S.contains d)=true:=by rfl)(hn:(R.E[n]?).map (·.p)=some p':=by rfl)(hc:R.chkE ops n i o=true:=by rfl):OG R P ops Q i o:=fun f t u a X=>by
 rw[Bool.and_eq_true,List.contains_iff_mem] at hd
 obtain⟨h2,h4⟩:=hd
 obtain⟨d',q,hd',hq,_,_,_,_,_,_,_,_,hw⟩:=Zh hc
 have hv:p u (t d):=X.val hm h2 rfl
 refine X.go hw fun K hK=>wp_callP hop (evs1 X h4 (hx (t d))) hr (hcall u (t d) X.I.1.bel X.I.1.sz hv) fun v w' h1 hB=>hK _ _ (X.putE hc (fun q hq=>by rw[hq] at hn;cases hn;exact h1) hB)
end
theorem IN.sl{u:World}{m:Nat}{v:Value}{xs:List Nat}(h:IN u m v xs): ∃sl n cap,v= .slice sl n cap:=by
 obtain⟨sl,cap,gb,go,rfl,_⟩:=h;exact⟨_,_,_,rfl⟩
theorem PS.sl{lo n:Nat}{xs:List Value}{u:World}{y:Value}(h:PS lo n xs u y): ∃sl n cap,y= .slice sl n cap:=by
 obtain⟨b,cap,rfl,_⟩:=h;exact⟨_,_,_,rfl⟩
def PM(lo n:Nat)(u:World)(v:Value):Prop:= ∃b zs,v= .slice (some ⟨b,0,none⟩) 0 n/\lo<=b/\b<u.heap.size/\zs.length=n/\CV u b zs
theorem PM.stab{lo n:Nat}{u v:World}{x:Value}(hB:Bw u v)(h:PM lo n u x):PM lo n v x:=by
 obtain⟨b,zs,e,h1,h2,h3,h4⟩:=h
 exact⟨b,zs,e,h1,Nat.lt_of_lt_of_le h2 hB.size,h3,h4.below hB h2⟩
end
def PIN(xs:List Nat)(u:World)(y:Value):Prop:=IN u u.heap.size y xs
theorem PIN.stab{xs:List Nat}{u v:World}{x:Value}(hB:Bw u v)(h:PIN xs u x):PIN xs v x:=(IN.below h hB).mono hB.size
section
section
variable {R:Rg} {P:Program} {ops:Array Oper} {Q:Exit->Act->World->Prop} {f:Nat->Bool} {t:Nat->Value} {u:World} {a:Act} {i:Nat} {o:Oper}
end
theorem eql_i(T:TypeId)(p q:Operand)(x y:Int)(b:Bool)(w:World)(h:(x==y)=b):(do eqGuard .eql T p q (.int .i64 x) (.int .i64 y);binOp .eql T (.int .i64 x) (.int .i64 y):Sem Value).run Tryz.prog w= .ok (.bool b) w:=by
 subst h;go_simp
end
end Go.Proofs.YtgieoghechekpaaGreatDoor
