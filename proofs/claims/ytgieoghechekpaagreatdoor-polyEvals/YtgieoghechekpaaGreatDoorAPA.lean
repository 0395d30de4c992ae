import Derived.Test.YtgieoghechekpaaGreatDoorAP5
import Derived.Test.YtgieoghechekpaaGreatDoorIT
import Derived.Lib.SmallJoins
import Derived.Lib.ItoaLen
namespace Go.Proofs.YtgieoghechekpaaGreatDoor
set_option linter.unusedVariables false
set_option linter.unusedSimpArgs false
set_option maxRecDepth 100000
set_option maxHeartbeats 4000000
open Go.RowKit Go.Extern.Stop Go.Stop Go.Extern
inductive AV (n:Int) (w:World):Nat->Value->Prop
 | leaf (d:Nat):AV n w d (.iface 28 (.int .i64 n))
 | flt (d:Nat) (s:ByteArray) (k:Value):AV n w d k->AV n w (d+1) (.iface 104 (.agg #[.string s,k]))
 | join (d b g o m c:Nat) (x:Value):0<m->m<=1000000->w.cell? ⟨b,0,none⟩=some (.slice (some ⟨g,o,none⟩) m c)->b<w.heap.size->g<w.heap.size->w.cell? ⟨g,o,none⟩=some x->AV n w d x->AV n w (d+1) (.iface 99 (.pointer (some ⟨b,0,none⟩)))
theorem AV.up{n:Int}{w u:World}(hB:Bw w u){d:Nat}{v:Value}(h:AV n w d v):AV n u d v:=by
 induction h with
 | leaf d=>exact .leaf d
 | flt d s k _ ih=>exact .flt d s k ih
 | join d b g o m c x h0 h00 h1 h2 h3 h4 _ ih=>exact .join d b g o m c x h0 h00 ((hB.cell (p:=⟨b,0,none⟩) h2).trans h1) (Nat.lt_of_lt_of_le h2 hB.size) (Nat.lt_of_lt_of_le h3 hB.size) ((hB.cell (p:=⟨g,o,none⟩) h3).trans h4) ih
theorem AV.some{n:Int}{w:World}{d:Nat}{v:Value}(h:AV n w d v): ∃T x,v= .iface T x:=by
 cases h with
 | leaf=>exact⟨_,_,rfl⟩
 | flt=>exact⟨_,_,rfl⟩
 | join=>exact⟨_,_,rfl⟩
def AE(b:Bool)(w:World)(v:Value):Prop:=(b=false/\v= .nilIface)\/(b=true/\ ∃d,AV 2 w d v)
theorem AE.up{b:Bool}{w u:World}(hB:Bw w u){v:Value}(h:AE b w v):AE b u v:=h.imp id fun⟨h1,d,h⟩=>⟨h1,d,h.up hB⟩
theorem AE.stab{b:Bool}{u u2:World}{x:Value}(hB:Bw u u2)(h:AE b u x):AE b u2 x:=h.up hB
structure GP(w:World):Prop where
 sz:1<w.heap.size
 tab:Lib.TabIs Tryz.prog w "internal/strconv.uint64pow10" .u64 Lib.pow10Tab
 typ:w.cell? ⟨0,0,none⟩=some (.iface 130 (.agg #[.pointer (some ⟨6,63,none⟩)]))
theorem gPow:Tryz.prog.globalNamed "internal/strconv.uint64pow10" =some 1:=by kernel_rfl
theorem GP.below{w u:World}(h:GP w)(hB:Bw w u):GP u where
 sz:=Nat.lt_of_lt_of_le h.sz hB.size
 tab:=Go.Joins.tab_stays gPow h.tab hB (Nat.le_refl _)
 typ:=(hB.cell (p:=⟨0,0,none⟩) (Nat.lt_of_le_of_lt (by decide) h.sz)).trans h.typ
theorem below_grow(w:World)(k:Nat)(os:Array Obj):Bw w (Go.Sort.grow (w.drewN k) os):=by
 have h1:(w.drewN k).heap=w.heap:=rfl
 exact⟨rfl,rfl,rfl,by simp[Go.Sort.grow,h1],fun i hi=>by simp[Go.Sort.grow,h1,Array.getElem?_append_left hi]⟩
def ia(n:Int):ByteArray:=⟨(Lib.itoa n).toArray⟩
theorem ia_sz(n:Int)(h0: -9223372036854775808<=n)(h1:n<=9223372036854775807):(ia n).size<=21:=by
 have:=Lib.itoa_length_le n h0 h1
 simpa [ia,ByteArray.size] using this
theorem cItoa(n:Int)(w:World)(h0: -9223372036854775808<=n)(h1:n<=9223372036854775807)(hG:GP w):CC 57 #[.int .i64 n] w (.string (ia n)):=by
 refine(Tryz.strconv_Itoa n h0 h1 w hG.tab).mono ?_
 rintro e u ⟨rfl,k,os,rfl⟩
 exact⟨rfl,below_grow w k os⟩
theorem pkE_le(xs:Nat->Value)(b:Nat->Bool): ∀i,(pkE xs b i).length<=i
 | 0=>Nat.le_refl _
 | i+1=>by
  have:=pkE_le xs b i
  rw[pkE];split
  ·rw[List.length_append];simp;omega
  ·omega
theorem Y5(g c:Nat)(x0 x1:Value)(b0 b1:Bool)(w:World)(hg:g<w.heap.size)(c0:w.cell? ⟨g,0,none⟩=some x0)(c1:w.cell? ⟨g,1,none⟩=some x1)(h0:AE b0 w x0)(h1:AE b1 w x1):
 Calls Tryz.prog 33 #[.slice (some ⟨g,0,none⟩) 2 c] w fun r u'=> ∃y,r= .returned y/\AE (b0 || b1) u' y/\Bw w u':=by
 have hx: ∀i,i<2->w.cell? ⟨g,0+i,none⟩=some ((fun i:Nat=>if i=0 then x0 else x1) i):=fun i hi=>by
  match i,hi with
  | 0,_=>exact c0
  | 1,_=>exact c1
 have hb: ∀(b:Bool) (x:Value),AE b w x->b=false/\x= .nilIface\/b=true/\ ∃T y,x= .iface T y:=fun b x h=>h.imp id fun⟨h1,d,h⟩=>⟨h1,h.some⟩
 refine(join_core 2 c (some ⟨g,0,none⟩) (fun i=>if i=0 then x0 else x1) (fun i=>if i=0 then b0 else b1) w (by omega) (fun _=>⟨g,0,rfl,hg,hx⟩) (fun i hi=>?_) (fun i=>?_)).mono ?_
 ·match i,hi with
  | 0,_=>exact hb _ _ h0
  | 1,_=>exact hb _ _ h1
 ·exact pkE_le _ _ i
 ·rintro e u ⟨y,rfl,hp,hB⟩
  refine⟨y,rfl,?_,hB⟩
  have en: ∀z,AE false w z->z= .nilIface:=fun z h=>h.elim (fun h=>h.2) (fun h=>by cases h.1)
  have ev: ∀z,AE true w z-> ∃d,AV 2 w d z:=fun z h=>h.elim (fun h=>by cases h.1) (fun h=>h.2)
  rcases hp with⟨p1,rfl⟩ | ⟨J,bo,m,co,zs,rfl,hJ,hbo,hm,hm0,hc1,hc2⟩
  ·cases b0<;>cases b1<;>simp[pkE] at p1
   exact .inl ⟨rfl,rfl⟩
  ·have key: ∀z l,pkE (fun i=>if i=0 then x0 else x1) (fun i=>if i=0 then b0 else b1) 2=z::l->AE true w z->AE true u (.iface 99 (.pointer (some ⟨J,0,none⟩))):=fun z l e hz=>by
    obtain⟨d,hz⟩:=ev z hz
    rw[e] at hc2 hm
    have hml:m<=1000000:=by
     have:(pkE (fun i=>if i=0 then x0 else x1) (fun i=>if i=0 then b0 else b1) 2).length<=2:=by
      cases b0<;>cases b1<;>simp[pkE]
     rw[e] at this;omega
    exact .inr ⟨rfl,d+1,.join d J bo 0 m co z hm0 hml (hc1 0 _ rfl).1 hJ hbo (hc2 0 _ rfl).1 (hz.up hB)⟩
   cases b0<;>cases b1
   ·simp[pkE] at hm;omega
   ·exact key x1 [] (by simp[pkE]) h1
   ·exact key x0 [] (by simp[pkE]) h0
   ·exact key x0 [x1] (by simp[pkE]) h0
theorem cUnP(s:ByteArray)(k:Value)(w:World)(hk: ∃T x,k= .iface T x):CC 130 #[.agg #[.string s,k]] w k:=by
 obtain⟨T,x,rfl⟩:=hk
 go_enter Tryz.func130,Tryz.ntmps130
 go_wp2
 exact bodyPost_ret (v:= .iface T x) (by simp[results,Tryz.results130,go_sem]) rfl ⟨rfl,Z0 (Z1 w) _⟩
theorem Tryz.noAsF(v:Value)(xT:TypeId)(w:World):(Instr.typeAssert (.iface 104 v) xT 135 true).run Tryz.prog w= .ok (.tuple #[.nilIface,.bool false]) w:=run_typeAssert_lacksB Tryz.underlying135 (by kernel_rfl) (by kernel_rfl) v xT w
theorem Tryz.noAsJ(v:Value)(xT:TypeId)(w:World):(Instr.typeAssert (.iface 99 v) xT 135 true).run Tryz.prog w= .ok (.tuple #[.nilIface,.bool false]) w:=run_typeAssert_lacksB Tryz.underlying135 (by kernel_rfl) (by kernel_rfl) v xT w
theorem Tryz.unP(v:Value)(xT:TypeId)(w:World):(Instr.typeAssert (.iface 104 v) xT 138 true).run Tryz.prog w= .ok (.tuple #[.iface 104 v,.bool true]) w:=run_typeAssert_hasB Tryz.underlying138 (by kernel_rfl) v xT w
theorem Tryz.valueOfP(t:Addr)(w:World):(ReflectliteValue.unpack (.iface 95 (.pointer (some t)))).run Tryz.prog w
 = .ok (.agg #[.pointer (some ⟨6,95,none⟩),.pointer (some ⟨w.heap.size,0,none⟩),.int .u64 150]) (w.alloc (.cells #[.pointer (some t)] 95)):=by kernel_rfl
theorem Tryz.typeP(a:Addr)(w:World):(ReflectliteValue.methodAny (ReflectliteValue.valueError "reflectlite.Value.Type" 0) (fun t _ _ _=>ReflectliteType.toType t) #[.agg #[.pointer (some ⟨6,95,none⟩),.pointer (some a),.int .u64 150]]).run Tryz.prog w
 = .ok (.iface 130 (.agg #[.pointer (some ⟨6,95,none⟩)])) w:=by kernel_rfl
theorem Tryz.kindP(w:World):((ReflectliteType.abiMethod fun t=>(fun a:Nat=>Value.int IntKind.u8 (a:Int))<$>Rtype.kind t) #[.pointer (some ⟨6,95,none⟩)]).run Tryz.prog w= .ok (.int .u8 22) w:=by kernel_rfl
theorem Tryz.kindE(w:World):((ReflectliteType.abiMethod fun t=>(fun a:Nat=>Value.int IntKind.u8 (a:Int))<$>Rtype.kind t) #[.pointer (some ⟨6,28,none⟩)]).run Tryz.prog w= .ok (.int .u8 2) w:=by kernel_rfl
theorem Tryz.viaP(z:Sem Value)(f:TypeId->Addr->Nat->Nat->Sem Value)(a:Addr)(W:World):(ReflectliteValue.method z f #[.agg #[.pointer (some ⟨6,95,none⟩),.pointer (some a),.int .u64 150]]).run Tryz.prog W=(f 95 a 150 22).run Tryz.prog W:=by kernel_rfl
theorem Tryz.isNilP(a p:Addr)(W:World)(ha:W.cell? a=some (.pointer (some p))):
 (ReflectliteValue.method (ReflectliteValue.valueError "reflectlite.Value.IsNil" 0) ReflectliteValue.isNil #[.agg #[.pointer (some ⟨6,95,none⟩),.pointer (some a),.int .u64 150]]).run Tryz.prog W= .ok (.bool false) W:=by
 rw[Tryz.viaP]
 simp[ReflectliteValue.isNil,loadVar,isAgg,underlying,Tryz.underlying95,ha,Result.andThen]
theorem Tryz.elemT(w:World):(ReflectliteType.method ReflectliteType.elem #[.agg #[.pointer (some ⟨6,95,none⟩)]]).run Tryz.prog w= .ok (.iface 130 (.agg #[.pointer (some ⟨6,28,none⟩)])) w:=by kernel_rfl
theorem Tryz.implE(w:World):(ReflectliteType.relation "Implements" ReflectliteType.implements_ #[.agg #[.pointer (some ⟨6,28,none⟩)],.iface 130 (.agg #[.pointer (some ⟨6,63,none⟩)])]).run Tryz.prog w= .ok (.bool true) w:=by kernel_rfl
theorem Tryz.typeOfE(v:Value)(w:World):(ReflectliteType.typeOf #[.iface 28 v]).run Tryz.prog w= .ok (.iface 130 (.agg #[.pointer (some ⟨6,28,none⟩)])) w:=by kernel_rfl
theorem Tryz.typeOfF(v:Value)(w:World):(ReflectliteType.typeOf #[.iface 104 v]).run Tryz.prog w= .ok (.iface 130 (.agg #[.pointer (some ⟨6,104,none⟩)])) w:=by kernel_rfl
theorem Tryz.typeOfJ(v:Value)(w:World):(ReflectliteType.typeOf #[.iface 99 v]).run Tryz.prog w= .ok (.iface 130 (.agg #[.pointer (some ⟨6,99,none⟩)])) w:=by kernel_rfl
theorem Tryz.assJ(w:World):(ReflectliteType.relation "AssignableTo" ReflectliteType.assignableTo #[.agg #[.pointer (some ⟨6,99,none⟩)],.iface 130 (.agg #[.pointer (some ⟨6,28,none⟩)])]).run Tryz.prog w= .ok (.bool false) w:=by kernel_rfl
theorem Tryz.assE(w:World):(ReflectliteType.relation "AssignableTo" ReflectliteType.assignableTo #[.agg #[.pointer (some ⟨6,28,none⟩)],.iface 130 (.agg #[.pointer (some ⟨6,28,none⟩)])]).run Tryz.prog w= .ok (.bool true) w:=by kernel_rfl
theorem Tryz.assF(w:World):(ReflectliteType.relation "AssignableTo" ReflectliteType.assignableTo #[.agg #[.pointer (some ⟨6,104,none⟩)],.iface 130 (.agg #[.pointer (some ⟨6,28,none⟩)])]).run Tryz.prog w= .ok (.bool false) w:=by kernel_rfl
theorem Tryz.valueOfE(n:Int)(w:World):(ReflectliteValue.unpack (.iface 28 (.int .i64 n))).run Tryz.prog w
 = .ok (.agg #[.pointer (some ⟨6,28,none⟩),.pointer (some ⟨w.heap.size,0,none⟩),.int .u64 130]) (w.alloc (.cells #[.int .i64 n] 28)):=by kernel_rfl
theorem Tryz.elemOfP(w:World):(Rtype.elem? 95).run Tryz.prog w= .ok (some 28) w:=by kernel_rfl
theorem Tryz.mkE(p:Addr)(w:World):(ReflectliteValue.mk 28 p ReflectliteValue.flagAddr).run Tryz.prog w= .ok (.agg #[.pointer (some ⟨6,28,none⟩),.pointer (some p),.int .u64 386]) w:=by kernel_rfl
theorem Tryz.elemV(a p:Addr)(W:World)(ha:W.cell? a=some (.pointer (some p))):
 (ReflectliteValue.method (ReflectliteValue.valueError "reflectlite.Value.Elem" 0) ReflectliteValue.elem #[.agg #[.pointer (some ⟨6,95,none⟩),.pointer (some a),.int .u64 150]]).run Tryz.prog W
  = .ok (.agg #[.pointer (some ⟨6,28,none⟩),.pointer (some p),.int .u64 386]) W:=by
 rw[Tryz.viaP]
 simp[ReflectliteValue.elem,loadVar,isAgg,underlying,Tryz.underlying95,ha,Result.andThen,Tryz.elemOfP,Tryz.mkE]
theorem Tryz.directE(w:World):(Rtype.directlyAssignable 28 28).run Tryz.prog w= .ok true w:=by kernel_rfl
theorem Tryz.setE0(ta b:Addr)(W:World):
 (ReflectliteValue.set #[.agg #[.pointer (some ⟨6,28,none⟩),.pointer (some ta),.int .u64 386],.agg #[.pointer (some ⟨6,28,none⟩),.pointer (some b),.int .u64 130]]).run Tryz.prog W
  =((do let v<-loadVar 28 b;storeVar 28 ta v;pure (.tuple #[])):Sem Value).run Tryz.prog W:=by kernel_rfl
theorem Tryz.setE(ta b:Addr)(n:Int)(old:Value)(W:World)(hb:W.cell? b=some (.int .i64 n))(ht:W.cell? ta=some old)(hf:W.frozen? ta=false):
 (ReflectliteValue.set #[.agg #[.pointer (some ⟨6,28,none⟩),.pointer (some ta),.int .u64 386],.agg #[.pointer (some ⟨6,28,none⟩),.pointer (some b),.int .u64 130]]).run Tryz.prog W
  = .ok (.tuple #[]) (W.setCell ta (.int .i64 n)):=by
 rw[Tryz.setE0]
 simp[ReflectliteValue.flagAddr,loadVar,isAgg,underlying,Tryz.underlying28,hb,Result.andThen,Tryz.directE,storeVar,Value.cells,storeCells,Addr.add]
 rw[run_store Tryz.prog W ta _ _ (by rfl)]
 simp[ht,hf]
theorem Tryz.mKind(h:Value)(w:World):(Go.method 303 130 (.agg #[h]) "Kind").run Tryz.prog w= .ok (123,h) w:=by kernel_rfl
theorem Tryz.mElem(h:Value)(w:World):(Go.method 303 130 (.agg #[h]) "Elem").run Tryz.prog w= .ok (137,.agg #[h]) w:=by kernel_rfl
theorem Tryz.mImpl(h:Value)(w:World):(Go.method 303 130 (.agg #[h]) "Implements").run Tryz.prog w= .ok (138,.agg #[h]) w:=by kernel_rfl
theorem Tryz.mAss(h:Value)(w:World):(Go.method 303 130 (.agg #[h]) "AssignableTo").run Tryz.prog w= .ok (135,.agg #[h]) w:=by kernel_rfl
set_option maxHeartbeats 8000000 in
theorem cAs0_core(n:Int)(t a:Addr)(old:Value)(D:Nat)(IH:Hid (∀e,e<D-> ∀(v:Value) (u:World),AV n u e v->u.cell? a=some (.pointer (some t))->u.cell? t=some old->u.frozen? t=false->a.block<u.heap.size->t.block<u.heap.size->
 Calls Tryz.prog 71 #[v,.iface 95 (.pointer (some t)),.agg #[.pointer (some ⟨6,95,none⟩),.pointer (some a),.int .u64 150],.iface 130 (.agg #[.pointer (some ⟨6,28,none⟩)])] u fun e u'=>e= .returned (.bool true)/\u'.cell? t=some (.int .i64 n)/\Below t.block u u'))(v:Value)(w:World)(hv:AV n w D v)(ha:w.cell? a=some (.pointer (some t)))(ht:w.cell? t=some old)(hf:w.frozen? t=false)(hat:a.block<w.heap.size)(htt:t.block<w.heap.size):
 Calls Tryz.prog 71 #[v,.iface 95 (.pointer (some t)),.agg #[.pointer (some ⟨6,95,none⟩),.pointer (some a),.int .u64 150],.iface 130 (.agg #[.pointer (some ⟨6,28,none⟩)])] w
  fun e u=>e= .returned (.bool true)/\u.cell? t=some (.int .i64 n)/\Below t.block w u:=by
 have h10:= @run_callFunc_extern Tryz.prog 80 _ ReflectliteType.typeOf Tryz.func80 (by kernel_rfl) (by kernel_rfl) (by kernel_rfl) (by kernel_rfl)
 have h35:= @run_callFunc_extern Tryz.prog 135 _ (ReflectliteType.relation "AssignableTo" ReflectliteType.assignableTo) Tryz.func135 (by kernel_rfl) (by kernel_rfl) (by kernel_rfl) (by kernel_rfl)
 have h11:= @run_callFunc_extern Tryz.prog 81 _ (ReflectliteValue.method (ReflectliteValue.valueError "reflectlite.Value.Elem" 0) ReflectliteValue.elem) Tryz.func81 (by kernel_rfl) (by kernel_rfl) (by kernel_rfl) (by kernel_rfl)
 have h12:= @run_callFunc_extern Tryz.prog 82 _ ReflectliteValue.set Tryz.func82 (by kernel_rfl) (by kernel_rfl) (by kernel_rfl) (by kernel_rfl)
 have h6:= @run_callFunc_extern Tryz.prog 68 _ (fun args=>ReflectliteValue.unpack (args.getD 0 (.tuple #[]))) Tryz.func68 (by kernel_rfl) (by kernel_rfl) (by kernel_rfl) (by kernel_rfl)
 have tE:=Tryz.typeOfE
 have tF:=Tryz.typeOfF
 have mA:=Tryz.mAss
 have aE:=Tryz.assE
 have aF:=Tryz.assF
 have vE:=Tryz.valueOfE
 have nF:=Tryz.noAsF
 have tJ:=Tryz.typeOfJ
 have aJ:=Tryz.assJ
 have nJ:=Tryz.noAsJ
 have uJ:=Tryz.noUnJ
 have sJ:=Tryz.usJ
 have uF:=Tryz.unP
 obtain⟨w0,ew0⟩: ∃x,w.alloc (.cells #[.pointer (some ⟨6,95,none⟩),.pointer (some a),.int .u64 150] 114)=x:=⟨_,rfl⟩
 have hB0:Bw w w0:=by rw[<-ew0];exact Z0 (Z1 w) _
 have hs0:w0.heap.size=w.heap.size+1:=by rw[<-ew0];simp
 have hc0:w0.cell? ⟨w.heap.size,0,none⟩=some (.pointer (some ⟨6,95,none⟩)):=by rw[<-ew0];simp
 have hc1:w0.cell? ⟨w.heap.size,1,none⟩=some (.pointer (some a)):=by rw[<-ew0];simp
 have hc2:w0.cell? ⟨w.heap.size,2,none⟩=some (.int .u64 150):=by rw[<-ew0];simp
 go_enter Tryz.func71,Tryz.ntmps71
 go_wp2_with fail
 try rw[ew0]
 go_loopw [0] (fun s0 wr=>(∃e,e<=D/\AV n wr e s0)/\Bw w0 wr) (fun s0 _=>SizeOf.sizeOf s0)
 case atStart=>exact⟨⟨D,Nat.le_refl _,hv.up hB0⟩,Below.refl _ _⟩
 case round=>
  obtain⟨⟨e,heD,hE⟩,HBr⟩:=hrel
  have hlt:w.heap.size<w0.heap.size:=by omega
  have k0:wr.cell? ⟨w.heap.size,0,none⟩=_:=(HBr.cell (p:=⟨w.heap.size,0,none⟩) hlt).trans hc0
  have k1:wr.cell? ⟨w.heap.size,1,none⟩=_:=(HBr.cell (p:=⟨w.heap.size,1,none⟩) hlt).trans hc1
  have k2:wr.cell? ⟨w.heap.size,2,none⟩=_:=(HBr.cell (p:=⟨w.heap.size,2,none⟩) hlt).trans hc2
  have hBw:Bw w wr:=hB0.trans (HBr.mono hB0.size)
  have ka:wr.cell? a=some (.pointer (some t)):=(hBw.cell (p:=a) hat).trans ha
  have kt:wr.cell? t=some old:=(hBw.cell (p:=t) htt).trans ht
  have kf:wr.frozen? t=false:=(hBw.frozen (p:=t) htt).trans hf
  have hsr:=HBr.size
  cases hE with
  | leaf=>
   have el:=Tryz.elemV a t wr ka
   have st:=Tryz.setE t ⟨wr.heap.size,0,none⟩ n old (wr.alloc (.cells #[.int .i64 n] 28)) (by simp) (by rw[World.cell?_alloc_lt _ _ t (by omega)];exact kt) (by rw[World.frozen?_alloc_old _ _ t (by omega)];exact kf)
   have hta:(wr.alloc (.cells #[.int .i64 n] 28)).cell? t=some old:=by rw[World.cell?_alloc_lt _ _ t (by omega)];exact kt
   have fin1:=World.cell?_setCell_same' (wr.alloc (.cells #[.int .i64 n] 28)) t (.int .i64 n) (by rw[hta];rfl)
   have fin2:Below t.block w ((wr.alloc (.cells #[.int .i64 n] 28)).setCell t (.int .i64 n)):=((Z0 hBw _).mono (Nat.le_of_lt htt)).setCell (Nat.le_refl _) _
   clear kt kf hta ka
   go_wp2
   exact bodyPost_ret (v:= .bool true) (by simp[results,Tryz.results71,go_sem]) rfl ⟨rfl,fin1,fin2⟩
  | flt d s k hk=>
   obtain⟨T,x,rfl⟩:=hk.some
   have hU:=cUnP s (.iface T x) wr ⟨_,_,rfl⟩
   go_wp2_with (go_at_call 130;refine hU.mono ?_;clear hU;rintro e ua ⟨rfl,hBa⟩)
   refine⟨⟨⟨d,by omega,hk.up hBa⟩,Z4 HBr hBa⟩,?_⟩
   simp;omega
  | join d b g o m c x h0 h00 h1 h2 h3 h4 hx=>
   obtain⟨wo,rfl⟩: ∃x,x=wr:=⟨_,rfl⟩
   have hU:=cUnJ b _ wo h1
   have hI:=IH.out d (by omega) x wo hx ka kt kf (by omega) (by omega)
   have hfin:Below t.block w wo:=hBw.mono (Nat.le_of_lt htt)
   obtain⟨T,y,rfl⟩:=hx.some
   have hm0:(0:Int)<(m:Int):=by omega
   clear hx h1 ka kt kf
   go_wp2_with (go_at_call 128;refine hU.mono ?_;clear hU;rintro e ua ⟨rfl,hw⟩;have hw:=hw.symm;subst hw)
   go_loopw [50] (fun s50 wx=>s50= .int .i64 0/\wx=wo) (fun _ _=>0)
   case atStart=>exact⟨rfl,rfl⟩
   case round=>
    obtain⟨rfl,rfl⟩:=hrel
    go_wp2_with (go_at_call 71;refine hI.mono ?_;clear hI;rintro e ub ⟨rfl,hcb,hBb⟩)
    exact bodyPost_ret (v:= .bool true) (by simp[results,Tryz.results71,go_sem]) rfl ⟨rfl,hcb,hfin.trans hBb⟩
theorem cAs0(n:Int)(t a:Addr)(old:Value): ∀(D:Nat) (v:Value) (w:World),AV n w D v->w.cell? a=some (.pointer (some t))->w.cell? t=some old->w.frozen? t=false->a.block<w.heap.size->t.block<w.heap.size->
 Calls Tryz.prog 71 #[v,.iface 95 (.pointer (some t)),.agg #[.pointer (some ⟨6,95,none⟩),.pointer (some a),.int .u64 150],.iface 130 (.agg #[.pointer (some ⟨6,28,none⟩)])] w fun e u=>e= .returned (.bool true)/\u.cell? t=some (.int .i64 n)/\Below t.block w u:=by
 intro D
 induction D using Nat.strongRecOn with
 | ind D ih=>exact fun v w=>cAs0_core n t a old D ih v w
set_option maxHeartbeats 8000000 in
theorem cAs(n:Int)(t:Addr)(old v:Value)(D:Nat)(w:World)(hG:GP w)(hv:AV n w D v)(ht:w.cell? t=some old)(hf:w.frozen? t=false)(htt:t.block<w.heap.size):
 Calls Tryz.prog 53 #[v,.iface 95 (.pointer (some t))] w fun e u=>e= .returned (.bool true)/\u.cell? t=some (.int .i64 n)/\Below t.block w u:=by
 have h6:= @run_callFunc_extern Tryz.prog 68 _ (fun args=>ReflectliteValue.unpack (args.getD 0 (.tuple #[]))) Tryz.func68 (by kernel_rfl) (by kernel_rfl) (by kernel_rfl) (by kernel_rfl)
 have h7:= @run_callFunc_extern Tryz.prog 69 _ (ReflectliteValue.methodAny (ReflectliteValue.valueError "reflectlite.Value.Type" 0) (fun t _ _ _=>ReflectliteType.toType t)) Tryz.func69 (by kernel_rfl) (by kernel_rfl) (by kernel_rfl) (by kernel_rfl)
 have h8:= @run_callFunc_extern Tryz.prog 70 _ (ReflectliteValue.method (ReflectliteValue.valueError "reflectlite.Value.IsNil" 0) ReflectliteValue.isNil) Tryz.func70 (by kernel_rfl) (by kernel_rfl) (by kernel_rfl) (by kernel_rfl)
 have h27:= @run_callFunc_extern Tryz.prog 123 _ (ReflectliteType.abiMethod fun t=>do pure (.int .u8 (<-Rtype.kind t))) Tryz.func123 (by kernel_rfl) (by kernel_rfl) (by kernel_rfl) (by kernel_rfl)
 have h37:= @run_callFunc_extern Tryz.prog 137 _ (ReflectliteType.method ReflectliteType.elem) Tryz.func137 (by kernel_rfl) (by kernel_rfl) (by kernel_rfl) (by kernel_rfl)
 have h38:= @run_callFunc_extern Tryz.prog 138 _ (ReflectliteType.relation "Implements" ReflectliteType.implements_) Tryz.func138 (by kernel_rfl) (by kernel_rfl) (by kernel_rfl) (by kernel_rfl)
 have f6:=Tryz.valueOfP
 have f7:=Tryz.typeP
 have mK:=Tryz.mKind
 have mE:=Tryz.mElem
 have mI:=Tryz.mImpl
 have kP:=Tryz.kindP
 have kE:=Tryz.kindE
 have eT:=Tryz.elemT
 have iE:=Tryz.implE
 obtain⟨w1,ew1⟩: ∃x,w.alloc (.cells #[.pointer (some t)] 95)=x:=⟨_,rfl⟩
 have hB1:Bw w w1:=by rw[<-ew1];exact Z0 (Z1 w) _
 have hs1:w1.heap.size=w.heap.size+1:=by rw[<-ew1];simp
 have ha1:w1.cell? ⟨w.heap.size,0,none⟩=some (.pointer (some t)):=by rw[<-ew1];simp
 obtain⟨w2,ew2⟩: ∃x,w1.alloc (.cells #[.pointer (some ⟨6,95,none⟩),.pointer (some ⟨w.heap.size,0,none⟩),.int .u64 150] 114)=x:=⟨_,rfl⟩
 have hB2:Bw w1 w2:=by rw[<-ew2];exact Z0 (Z1 w1) _
 have hBw:Bw w w2:=Z4 hB1 hB2
 have hs2:w2.heap.size=w.heap.size+2:=by rw[<-ew2];simp[hs1]
 have c0:w2.cell? ⟨w1.heap.size,0,none⟩=some (.pointer (some ⟨6,95,none⟩)):=by rw[<-ew2];simp
 have c1:w2.cell? ⟨w1.heap.size,1,none⟩=some (.pointer (some ⟨w.heap.size,0,none⟩)):=by rw[<-ew2];simp
 have c2:w2.cell? ⟨w1.heap.size,2,none⟩=some (.int .u64 150):=by rw[<-ew2];simp
 rw[hs1] at c0 c1 c2
 have ha2:w2.cell? ⟨w.heap.size,0,none⟩=some (.pointer (some t)):=(hB2.cell (p:=⟨w.heap.size,0,none⟩) (by simp[hs1])).trans ha1
 have n8:=Tryz.isNilP ⟨w.heap.size,0,none⟩ t w2 ha2
 have hg:=(hG.below hBw).typ
 have hA:=cAs0 n t ⟨w.heap.size,0,none⟩ old D v w2 (hv.up hBw) ha2 ((hBw.cell (p:=t) htt).trans ht) ((hBw.frozen (p:=t) htt).trans hf) (by simp[hs2]) (by omega)
 have hBt:Below t.block w w2:=hBw.mono (Nat.le_of_lt htt)
 obtain⟨T,x,rfl⟩:=hv.some
 clear hv ht hf ha1 ha2 hG
 go_enter Tryz.func53,Tryz.ntmps53
 go_wp2_with (go_at_call 71;refine hA.mono ?_;clear hA;rintro e ua ⟨rfl,hca,hBa⟩)
 exact bodyPost_ret (v:= .bool true) (by simp[results,Tryz.results53,go_sem]) rfl ⟨rfl,hca,hBt.trans hBa⟩
theorem pTold(v:Value)(w:World)(hG:GP w)(hv:AE true w v):CC 28 #[v] w (.int .i64 2):=by
 obtain⟨D,hv⟩: ∃D,AV 2 w D v:=hv.elim (fun h=>by cases h.1) (fun h=>h.2)
 obtain⟨w1,ew1⟩: ∃x,w.alloc (.cells #[.int .i64 0] 28)=x:=⟨_,rfl⟩
 have hB1:Bw w w1:=by rw[<-ew1];exact Z0 (Z1 w) _
 have hs1:w1.heap.size=w.heap.size+1:=by rw[<-ew1];simp
 have ht:w1.cell? ⟨w.heap.size,0,none⟩=some (.int .i64 0):=by rw[<-ew1];simp
 have hf:w1.frozen? ⟨w.heap.size,0,none⟩=false:=by rw[<-ew1];simp
 have hA:=cAs 2 ⟨w.heap.size,0,none⟩ (.int .i64 0) v D w1 (hG.below hB1) (hv.up hB1) ht hf (by simp[hs1])
 clear ht hf
 obtain⟨T,x,rfl⟩:=hv.some
 clear hv
 go_enter Tryz.func28,Tryz.ntmps28
 go_wp2_with (go_at_call 53;refine hA.mono ?_;clear hA;rintro e ua ⟨rfl,hca,hBa⟩)
 exact bodyPost_ret (v:= .int .i64 2) (by simp[results,Tryz.results28,go_sem]) rfl ⟨rfl,hB1.trans hBa⟩
end Go.Proofs.YtgieoghechekpaaGreatDoor
