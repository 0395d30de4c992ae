import Derived.Test.YtmoimodkopjeeaaGreatDoorRN2
import Derived.Test.YtmoimodkopjeeaaGreatDoorIT
import Derived.Lib.SmallJoins
import Derived.Lib.ItoaLen
import Derived.Deep.OwnRows
namespace Go.Proofs.YtmoimodkopjeeaaGreatDoor
set_option linter.unusedVariables false
set_option linter.unusedSimpArgs false
set_option maxRecDepth 100000
set_option maxHeartbeats 4000000
section
open Go.RowKit Go.Extern.Stop Go.Stop Go.Extern
inductive AV (n:Int) (w:World):Nat->Value->Prop
 | leaf (d:Nat):AV n w d (.iface 31 (iI n))
 | flt (d:Nat) (s:ByteArray) (k:Value):AV n w d k->AV n w (d+1) (.iface 143 (.agg #[.string s,k]))
 | join (d b g o m c:Nat) (x:Value):0<m->m<=1000000->w.cell? ⟨b,0,none⟩=some (.slice (some ⟨g,o,none⟩) m c)->b<w.heap.size->g<w.heap.size->w.cell? ⟨g,o,none⟩=some x->AV n w d x->AV n w (d+1) (.iface 160 (.pointer (some ⟨b,0,none⟩)))
theorem AV.up{n:Int}{w u:World}(hB:Bw w u){d:Nat}{v:Value}(h:AV n w d v):AV n u d v:=by
 induction h with
 | leaf d=>exact .leaf d
 | flt d s k _ ih=>exact .flt d s k ih
 | join d b g o m c x h0 h00 h1 h2 h3 h4 _ ih=>exact .join d b g o m c x h0 h00 ((hB.cell (p:=⟨b,0,none⟩) h2).trans h1) (Nat.lt_of_lt_of_le h2 hB.size) (Nat.lt_of_lt_of_le h3 hB.size) ((hB.cell (p:=⟨g,o,none⟩) h3).trans h4) ih
theorem AV.some{n:Int}{w:World}{d:Nat}{v:Value}(h:AV n w d v): ∃T x,v= .iface T x:=by
 cases h with
 | leaf=>exact⟨_,_,rfl⟩
 | flt=>exact⟨_,_,rfl⟩
 | join=>exact⟨_,_,rfl⟩
def AE(b:Bool)(w:World)(v:Value):Prop:=(b=false/\v= .nilIface)\/(b=true/\ ∃d,AV 2 w d v)
theorem AE.up{b:Bool}{w u:World}(hB:Bw w u){v:Value}(h:AE b w v):AE b u v:=h.imp id fun⟨h1,d,h⟩=>⟨h1,d,h.up hB⟩
theorem AE.stab{b:Bool}{u u2:World}{x:Value}(hB:Bw u u2)(h:AE b u x):AE b u2 x:=h.up hB
structure GP(w:World):Prop where
 sz:1<w.heap.size
 tab:Lib.TabIs Tryz.prog w "internal/strconv.uint64pow10" .u64 Lib.pow10Tab
 typ:w.cell? ⟨0,0,none⟩=some (.iface 186 (.agg #[.pointer (some ⟨6,90,none⟩)]))
theorem gPow:Tryz.prog.globalNamed "internal/strconv.uint64pow10" =some 1:=by kernel_rfl
theorem GP.below{w u:World}(h:GP w)(hB:Bw w u):GP u where
 sz:=Nat.lt_of_lt_of_le h.sz hB.size
 tab:=Go.Joins.tab_stays gPow h.tab hB (Nat.le_refl _)
 typ:=(hB.cell (p:=⟨0,0,none⟩) (Nat.lt_of_le_of_lt (by decide) h.sz)).trans h.typ
theorem below_grow(w:World)(k:Nat)(os:Array Obj):Bw w (Go.Sort.grow (w.drewN k) os):=by
 have h1:(w.drewN k).heap=w.heap:=rfl
 exact⟨rfl,rfl,rfl,by simp[Go.Sort.grow,h1],fun i hi=>by simp[Go.Sort.grow,h1,Array.getElem?_append_left hi]⟩
def ia(n:Int):ByteArray:=⟨(Lib.itoa n).toArray⟩
theorem ia_sz(n:Int)(h0: -9223372036854775808<=n)(h1:n<=9223372036854775807):(ia n).size<=21:=by
 have:=Lib.itoa_length_le n h0 h1
 simpa [ia,ByteArray.size] using this
theorem cItoa(n:Int)(w:World)(h0: -9223372036854775808<=n)(h1:n<=9223372036854775807)(hG:GP w):CC 87 #[iI n] w (.string (ia n)):=by
 refine(Tryz.strconv_Itoa n h0 h1 w hG.tab).mono ?_
 rintro e u ⟨rfl,k,os,rfl⟩
 exact⟨rfl,below_grow w k os⟩
theorem pkE_le(xs:Nat->Value)(b:Nat->Bool): ∀i,(pkE xs b i).length<=i
 | 0=>Nat.le_refl _
 | i+1=>by
  have:=pkE_le xs b i
  rw[pkE];split
  ·rw[List.length_append];simp;omega
  ·omega
theorem cJoin2(g c:Nat)(x0 x1:Value)(b0 b1:Bool)(w:World)(hg:g<w.heap.size)(c0:w.cell? ⟨g,0,none⟩=some x0)(c1:w.cell? ⟨g,1,none⟩=some x1)(h0:AE b0 w x0)(h1:AE b1 w x1):
 Calls Tryz.prog 93 #[.slice (some ⟨g,0,none⟩) 2 c] w fun r u'=> ∃y,r= .returned y/\AE (b0 || b1) u' y/\Bw w u':=by
 have hx: ∀i,i<2->w.cell? ⟨g,0+i,none⟩=some ((fun i:Nat=>if i=0 then x0 else x1) i):=fun i hi=>by
  match i,hi with
  | 0,_=>exact c0
  | 1,_=>exact c1
 have hb: ∀(b:Bool) (x:Value),AE b w x->b=false/\x= .nilIface\/b=true/\ ∃T y,x= .iface T y:=fun b x h=>h.imp id fun⟨h1,d,h⟩=>⟨h1,h.some⟩
 refine(join_core 2 c (some ⟨g,0,none⟩) (fun i=>if i=0 then x0 else x1) (fun i=>if i=0 then b0 else b1) w (by omega) (fun _=>⟨g,0,rfl,hg,hx⟩) (fun i hi=>?_) (fun i=>?_)).mono ?_
 ·match i,hi with
  | 0,_=>exact hb _ _ h0
  | 1,_=>exact hb _ _ h1
 ·exact pkE_le _ _ i
 ·rintro e u ⟨y,rfl,hp,hB⟩
  refine⟨y,rfl,?_,hB⟩
  have en: ∀z,AE false w z->z= .nilIface:=fun z h=>h.elim (fun h=>h.2) (fun h=>by cases h.1)
  have ev: ∀z,AE true w z-> ∃d,AV 2 w d z:=fun z h=>h.elim (fun h=>by cases h.1) (fun h=>h.2)
  rcases hp with⟨p1,rfl⟩ | ⟨J,bo,m,co,zs,rfl,hJ,hbo,hm,hm0,hc1,hc2⟩
  ·cases b0<;>cases b1<;>simp[pkE] at p1
   exact .inl ⟨rfl,rfl⟩
  ·have key: ∀z l,pkE (fun i=>if i=0 then x0 else x1) (fun i=>if i=0 then b0 else b1) 2=z::l->AE true w z->AE true u (.iface 160 (.pointer (some ⟨J,0,none⟩))):=fun z l e hz=>by
    obtain⟨d,hz⟩:=ev z hz
    rw[e] at hc2 hm
    have hml:m<=1000000:=by
     have:(pkE (fun i=>if i=0 then x0 else x1) (fun i=>if i=0 then b0 else b1) 2).length<=2:=by
      cases b0<;>cases b1<;>simp[pkE]
     rw[e] at this;omega
    exact .inr ⟨rfl,d+1,.join d J bo 0 m co z hm0 hml (hc1 0 _ rfl).1 hJ hbo (hc2 0 _ rfl).1 (hz.up hB)⟩
   cases b0<;>cases b1
   ·simp[pkE] at hm;omega
   ·exact key x1 [] (by simp[pkE]) h1
   ·exact key x0 [] (by simp[pkE]) h0
   ·exact key x0 [x1] (by simp[pkE]) h0
theorem cUnP(s:ByteArray)(k:Value)(w:World)(hk: ∃T x,k= .iface T x):CC 202 #[.agg #[.string s,k]] w k:=by
 obtain⟨T,x,rfl⟩:=hk
 go_enter Tryz.func202,Tryz.ntmps202
 go_wp2
 exact bodyPost_ret (v:= .iface T x) (by simp[results,Tryz.results202,go_sem]) rfl ⟨rfl,Z1 (Z5 w) _⟩
theorem Tryz.noAsF(v:Value)(xT:TypeId)(w:World):(Instr.typeAssert (.iface 143 v) xT 202 true).run Tryz.prog w= .ok (.tuple #[.nilIface,.bool false]) w:=run_typeAssert_lacksB Tryz.underlying202 (by kernel_rfl) (by kernel_rfl) v xT w
theorem Tryz.noAsJ(v:Value)(xT:TypeId)(w:World):(Instr.typeAssert (.iface 160 v) xT 202 true).run Tryz.prog w= .ok (.tuple #[.nilIface,.bool false]) w:=run_typeAssert_lacksB Tryz.underlying202 (by kernel_rfl) (by kernel_rfl) v xT w
theorem Tryz.unP(v:Value)(xT:TypeId)(w:World):(Instr.typeAssert (.iface 143 v) xT 191 true).run Tryz.prog w= .ok (.tuple #[.iface 143 v,.bool true]) w:=run_typeAssert_hasB Tryz.underlying191 (by kernel_rfl) v xT w
theorem Tryz.valueOfP(t:Addr)(w:World):(ReflectliteValue.unpack (.iface 135 (.pointer (some t)))).run Tryz.prog w
 = .ok (.agg #[.pointer (some ⟨6,135,none⟩),.pointer (some ⟨w.heap.size,0,none⟩),iU 150]) (w.alloc (.cells #[.pointer (some t)] 135)):=by kernel_rfl
theorem Tryz.typeP(a:Addr)(w:World):(ReflectliteValue.methodAny (ReflectliteValue.valueError "reflectlite.Value.Type" 0) (fun t _ _ _=>ReflectliteType.toType t) #[.agg #[.pointer (some ⟨6,135,none⟩),.pointer (some a),iU 150]]).run Tryz.prog w
 = .ok (.iface 186 (.agg #[.pointer (some ⟨6,135,none⟩)])) w:=by kernel_rfl
theorem Tryz.kindP(w:World):((ReflectliteType.abiMethod fun t=>(fun a:Nat=>Value.int IntKind.u8 (a:Int))<$>Rtype.kind t) #[.pointer (some ⟨6,135,none⟩)]).run Tryz.prog w= .ok (.int .u8 22) w:=by kernel_rfl
theorem Tryz.kindE(w:World):((ReflectliteType.abiMethod fun t=>(fun a:Nat=>Value.int IntKind.u8 (a:Int))<$>Rtype.kind t) #[.pointer (some ⟨6,31,none⟩)]).run Tryz.prog w= .ok (.int .u8 2) w:=by kernel_rfl
theorem Tryz.viaP(z:Sem Value)(f:TypeId->Addr->Nat->Nat->Sem Value)(a:Addr)(W:World):(ReflectliteValue.method z f #[.agg #[.pointer (some ⟨6,135,none⟩),.pointer (some a),iU 150]]).run Tryz.prog W=(f 135 a 150 22).run Tryz.prog W:=by kernel_rfl
theorem Tryz.isNilP(a p:Addr)(W:World)(ha:W.cell? a=some (.pointer (some p))):
 (ReflectliteValue.method (ReflectliteValue.valueError "reflectlite.Value.IsNil" 0) ReflectliteValue.isNil #[.agg #[.pointer (some ⟨6,135,none⟩),.pointer (some a),iU 150]]).run Tryz.prog W= .ok (.bool false) W:=by
 rw[Tryz.viaP]
 simp[ReflectliteValue.isNil,loadVar,isAgg,underlying,Tryz.underlying135,ha,Result.andThen]
theorem Tryz.elemT(w:World):(ReflectliteType.method ReflectliteType.elem #[.agg #[.pointer (some ⟨6,135,none⟩)]]).run Tryz.prog w= .ok (.iface 186 (.agg #[.pointer (some ⟨6,31,none⟩)])) w:=by kernel_rfl
theorem Tryz.implE(w:World):(ReflectliteType.relation "Implements" ReflectliteType.implements_ #[.agg #[.pointer (some ⟨6,31,none⟩)],.iface 186 (.agg #[.pointer (some ⟨6,90,none⟩)])]).run Tryz.prog w= .ok (.bool true) w:=by kernel_rfl
theorem Tryz.typeOfE(v:Value)(w:World):(ReflectliteType.typeOf #[.iface 31 v]).run Tryz.prog w= .ok (.iface 186 (.agg #[.pointer (some ⟨6,31,none⟩)])) w:=by kernel_rfl
theorem Tryz.typeOfF(v:Value)(w:World):(ReflectliteType.typeOf #[.iface 143 v]).run Tryz.prog w= .ok (.iface 186 (.agg #[.pointer (some ⟨6,143,none⟩)])) w:=by kernel_rfl
theorem Tryz.typeOfJ(v:Value)(w:World):(ReflectliteType.typeOf #[.iface 160 v]).run Tryz.prog w= .ok (.iface 186 (.agg #[.pointer (some ⟨6,160,none⟩)])) w:=by kernel_rfl
theorem Tryz.assJ(w:World):(ReflectliteType.relation "AssignableTo" ReflectliteType.assignableTo #[.agg #[.pointer (some ⟨6,160,none⟩)],.iface 186 (.agg #[.pointer (some ⟨6,31,none⟩)])]).run Tryz.prog w= .ok (.bool false) w:=by kernel_rfl
theorem Tryz.assE(w:World):(ReflectliteType.relation "AssignableTo" ReflectliteType.assignableTo #[.agg #[.pointer (some ⟨6,31,none⟩)],.iface 186 (.agg #[.pointer (some ⟨6,31,none⟩)])]).run Tryz.prog w= .ok (.bool true) w:=by kernel_rfl
theorem Tryz.assF(w:World):(ReflectliteType.relation "AssignableTo" ReflectliteType.assignableTo #[.agg #[.pointer (some ⟨6,143,none⟩)],.iface 186 (.agg #[.pointer (some ⟨6,31,none⟩)])]).run Tryz.prog w= .ok (.bool false) w:=by kernel_rfl
theorem Tryz.valueOfE(n:Int)(w:World):(ReflectliteValue.unpack (.iface 31 (iI n))).run Tryz.prog w
 = .ok (.agg #[.pointer (some ⟨6,31,none⟩),.pointer (some ⟨w.heap.size,0,none⟩),iU 130]) (w.alloc (.cells #[iI n] 31)):=by kernel_rfl
theorem Tryz.elemOfP(w:World):(Rtype.elem? 135).run Tryz.prog w= .ok (some 31) w:=by kernel_rfl
theorem Tryz.mkE(p:Addr)(w:World):(ReflectliteValue.mk 31 p ReflectliteValue.flagAddr).run Tryz.prog w= .ok (.agg #[.pointer (some ⟨6,31,none⟩),.pointer (some p),iU 386]) w:=by kernel_rfl
theorem Tryz.elemV(a p:Addr)(W:World)(ha:W.cell? a=some (.pointer (some p))):
 (ReflectliteValue.method (ReflectliteValue.valueError "reflectlite.Value.Elem" 0) ReflectliteValue.elem #[.agg #[.pointer (some ⟨6,135,none⟩),.pointer (some a),iU 150]]).run Tryz.prog W
  = .ok (.agg #[.pointer (some ⟨6,31,none⟩),.pointer (some p),iU 386]) W:=by
 rw[Tryz.viaP]
 simp[ReflectliteValue.elem,loadVar,isAgg,underlying,Tryz.underlying135,ha,Result.andThen,Tryz.elemOfP,Tryz.mkE]
theorem Tryz.directE(w:World):(Rtype.directlyAssignable 31 31).run Tryz.prog w= .ok true w:=by kernel_rfl
theorem Tryz.setE0(ta b:Addr)(W:World):
 (ReflectliteValue.set #[.agg #[.pointer (some ⟨6,31,none⟩),.pointer (some ta),iU 386],.agg #[.pointer (some ⟨6,31,none⟩),.pointer (some b),iU 130]]).run Tryz.prog W
  =((do let v<-loadVar 31 b;storeVar 31 ta v;pure (.tuple #[])):Sem Value).run Tryz.prog W:=by kernel_rfl
theorem Tryz.setE(ta b:Addr)(n:Int)(old:Value)(W:World)(hb:W.cell? b=some (iI n))(ht:W.cell? ta=some old)(hf:W.frozen? ta=false):
 (ReflectliteValue.set #[.agg #[.pointer (some ⟨6,31,none⟩),.pointer (some ta),iU 386],.agg #[.pointer (some ⟨6,31,none⟩),.pointer (some b),iU 130]]).run Tryz.prog W
  = .ok (.tuple #[]) (W.setCell ta (iI n)):=by
 rw[Tryz.setE0]
 simp[ReflectliteValue.flagAddr,loadVar,isAgg,underlying,Tryz.underlying31,hb,Result.andThen,Tryz.directE,storeVar,Value.cells,storeCells,Addr.add]
 rw[run_store Tryz.prog W ta _ _ (by rfl)]
 simp[ht,hf]
theorem Tryz.mKind(h:Value)(w:World):(Go.method 372 186 (.agg #[h]) "Kind").run Tryz.prog w= .ok (195,h) w:=by kernel_rfl
theorem Tryz.mElem(h:Value)(w:World):(Go.method 372 186 (.agg #[h]) "Elem").run Tryz.prog w= .ok (211,.agg #[h]) w:=by kernel_rfl
theorem Tryz.mImpl(h:Value)(w:World):(Go.method 372 186 (.agg #[h]) "Implements").run Tryz.prog w= .ok (212,.agg #[h]) w:=by kernel_rfl
theorem Tryz.mAss(h:Value)(w:World):(Go.method 372 186 (.agg #[h]) "AssignableTo").run Tryz.prog w= .ok (209,.agg #[h]) w:=by kernel_rfl
set_option maxHeartbeats 8000000 in
theorem cAs0_core(n:Int)(t a:Addr)(old:Value)(D:Nat)(IH:Hid (∀e,e<D-> ∀(v:Value) (u:World),AV n u e v->u.cell? a=some (.pointer (some t))->u.cell? t=some old->u.frozen? t=false->a.block<u.heap.size->t.block<u.heap.size->
 Calls Tryz.prog 127 #[v,.iface 135 (.pointer (some t)),.agg #[.pointer (some ⟨6,135,none⟩),.pointer (some a),iU 150],.iface 186 (.agg #[.pointer (some ⟨6,31,none⟩)])] u fun e u'=>e= .returned (.bool true)/\u'.cell? t=some (iI n)/\Below t.block u u'))(v:Value)(w:World)(hv:AV n w D v)(ha:w.cell? a=some (.pointer (some t)))(ht:w.cell? t=some old)(hf:w.frozen? t=false)(hat:a.block<w.heap.size)(htt:t.block<w.heap.size):
 Calls Tryz.prog 127 #[v,.iface 135 (.pointer (some t)),.agg #[.pointer (some ⟨6,135,none⟩),.pointer (some a),iU 150],.iface 186 (.agg #[.pointer (some ⟨6,31,none⟩)])] w
  fun e u=>e= .returned (.bool true)/\u.cell? t=some (iI n)/\Below t.block w u:=by
 have h10:= @run_callFunc_extern Tryz.prog 115 _ ReflectliteType.typeOf Tryz.func115 (by kernel_rfl) (by kernel_rfl) (by kernel_rfl) (by kernel_rfl)
 have h35:= @run_callFunc_extern Tryz.prog 209 _ (ReflectliteType.relation "AssignableTo" ReflectliteType.assignableTo) Tryz.func209 (by kernel_rfl) (by kernel_rfl) (by kernel_rfl) (by kernel_rfl)
 have h11:= @run_callFunc_extern Tryz.prog 146 _ (ReflectliteValue.method (ReflectliteValue.valueError "reflectlite.Value.Elem" 0) ReflectliteValue.elem) Tryz.func146 (by kernel_rfl) (by kernel_rfl) (by kernel_rfl) (by kernel_rfl)
 have h12:= @run_callFunc_extern Tryz.prog 147 _ ReflectliteValue.set Tryz.func147 (by kernel_rfl) (by kernel_rfl) (by kernel_rfl) (by kernel_rfl)
 have h6:= @run_callFunc_extern Tryz.prog 124 _ (fun args=>ReflectliteValue.unpack (args.getD 0 (.tuple #[]))) Tryz.func124 (by kernel_rfl) (by kernel_rfl) (by kernel_rfl) (by kernel_rfl)
 have tE:=Tryz.typeOfE
 have tF:=Tryz.typeOfF
 have mA:=Tryz.mAss
 have aE:=Tryz.assE
 have aF:=Tryz.assF
 have vE:=Tryz.valueOfE
 have nF:=Tryz.noAsF
 have tJ:=Tryz.typeOfJ
 have aJ:=Tryz.assJ
 have nJ:=Tryz.noAsJ
 have uJ:=Tryz.noUnJ
 have sJ:=Tryz.usJ
 have uF:=Tryz.unP
 obtain⟨w0,ew0⟩: ∃x,w.alloc (.cells #[.pointer (some ⟨6,135,none⟩),.pointer (some a),iU 150] 166)=x:=⟨_,rfl⟩
 have hB0:Bw w w0:=by rw[<-ew0];exact Z1 (Z5 w) _
 have hs0:w0.heap.size=w.heap.size+1:=by rw[<-ew0];simp
 have hc0:w0.cell? ⟨w.heap.size,0,none⟩=some (.pointer (some ⟨6,135,none⟩)):=by rw[<-ew0];simp
 have hc1:w0.cell? ⟨w.heap.size,1,none⟩=some (.pointer (some a)):=by rw[<-ew0];simp
 have hc2:w0.cell? ⟨w.heap.size,2,none⟩=some (iU 150):=by rw[<-ew0];simp
 go_enter Tryz.func127,Tryz.ntmps127
 go_wp2_with fail
 try rw[ew0]
 go_loopw [0] (fun s0 wr=>(∃e,e<=D/\AV n wr e s0)/\Bw w0 wr) (fun s0 _=>SizeOf.sizeOf s0)
 case atStart=>exact⟨⟨D,Nat.le_refl _,hv.up hB0⟩,Below.refl _ _⟩
 case round=>
  obtain⟨⟨e,heD,hE⟩,HBr⟩:=hrel
  have hlt:w.heap.size<w0.heap.size:=by omega
  have k0:wr.cell? ⟨w.heap.size,0,none⟩=_:=(HBr.cell (p:=⟨w.heap.size,0,none⟩) hlt).trans hc0
  have k1:wr.cell? ⟨w.heap.size,1,none⟩=_:=(HBr.cell (p:=⟨w.heap.size,1,none⟩) hlt).trans hc1
  have k2:wr.cell? ⟨w.heap.size,2,none⟩=_:=(HBr.cell (p:=⟨w.heap.size,2,none⟩) hlt).trans hc2
  have hBw:Bw w wr:=hB0.trans (HBr.mono hB0.size)
  have ka:wr.cell? a=some (.pointer (some t)):=(hBw.cell (p:=a) hat).trans ha
  have kt:wr.cell? t=some old:=(hBw.cell (p:=t) htt).trans ht
  have kf:wr.frozen? t=false:=(hBw.frozen (p:=t) htt).trans hf
  have hsr:=HBr.size
  cases hE with
  | leaf=>
   have el:=Tryz.elemV a t wr ka
   have st:=Tryz.setE t ⟨wr.heap.size,0,none⟩ n old (wr.alloc (.cells #[iI n] 31)) (by simp) (by rw[World.cell?_alloc_lt _ _ t (by omega)];exact kt) (by rw[World.frozen?_alloc_old _ _ t (by omega)];exact kf)
   have hta:(wr.alloc (.cells #[iI n] 31)).cell? t=some old:=by rw[World.cell?_alloc_lt _ _ t (by omega)];exact kt
   have fin1:=World.cell?_setCell_same' (wr.alloc (.cells #[iI n] 31)) t (iI n) (by rw[hta];rfl)
   have fin2:Below t.block w ((wr.alloc (.cells #[iI n] 31)).setCell t (iI n)):=((Z1 hBw _).mono (Nat.le_of_lt htt)).setCell (Nat.le_refl _) _
   clear kt kf hta ka
   go_wp2
   exact bodyPost_ret (v:= .bool true) (by simp[results,Tryz.results127,go_sem]) rfl ⟨rfl,fin1,fin2⟩
  | flt d s k hk=>
   obtain⟨T,x,rfl⟩:=hk.some
   have hU:=cUnP s (.iface T x) wr ⟨_,_,rfl⟩
   go_wp2_with (go_at_call 202;refine hU.mono ?_;clear hU;rintro e ua ⟨rfl,hBa⟩)
   refine⟨⟨⟨d,by omega,hk.up hBa⟩,Zg HBr hBa⟩,?_⟩
   simp;omega
  | join d b g o m c x h0 h00 h1 h2 h3 h4 hx=>
   obtain⟨wo,rfl⟩: ∃x,x=wr:=⟨_,rfl⟩
   have hU:=cUnJ b _ wo h1
   have hI:=IH.out d (by omega) x wo hx ka kt kf (by omega) (by omega)
   have hfin:Below t.block w wo:=hBw.mono (Nat.le_of_lt htt)
   obtain⟨T,y,rfl⟩:=hx.some
   have hm0:(0:Int)<(m:Int):=by omega
   clear hx h1 ka kt kf
   go_wp2_with (go_at_call 204;refine hU.mono ?_;clear hU;rintro e ua ⟨rfl,hw⟩;have hw:=hw.symm;subst hw)
   go_loopw [50] (fun s50 wx=>s50=iI 0/\wx=wo) (fun _ _=>0)
   case atStart=>exact⟨rfl,rfl⟩
   case round=>
    obtain⟨rfl,rfl⟩:=hrel
    go_wp2_with (go_at_call 127;refine hI.mono ?_;clear hI;rintro e ub ⟨rfl,hcb,hBb⟩)
    exact bodyPost_ret (v:= .bool true) (by simp[results,Tryz.results127,go_sem]) rfl ⟨rfl,hcb,hfin.trans hBb⟩
theorem cAs0(n:Int)(t a:Addr)(old:Value): ∀(D:Nat) (v:Value) (w:World),AV n w D v->w.cell? a=some (.pointer (some t))->w.cell? t=some old->w.frozen? t=false->a.block<w.heap.size->t.block<w.heap.size->
 Calls Tryz.prog 127 #[v,.iface 135 (.pointer (some t)),.agg #[.pointer (some ⟨6,135,none⟩),.pointer (some a),iU 150],.iface 186 (.agg #[.pointer (some ⟨6,31,none⟩)])] w fun e u=>e= .returned (.bool true)/\u.cell? t=some (iI n)/\Below t.block w u:=by
 intro D
 induction D using Nat.strongRecOn with
 | ind D ih=>exact fun v w=>cAs0_core n t a old D ih v w
set_option maxHeartbeats 8000000 in
theorem cAs(n:Int)(t:Addr)(old v:Value)(D:Nat)(w:World)(hG:GP w)(hv:AV n w D v)(ht:w.cell? t=some old)(hf:w.frozen? t=false)(htt:t.block<w.heap.size):
 Calls Tryz.prog 96 #[v,.iface 135 (.pointer (some t))] w fun e u=>e= .returned (.bool true)/\u.cell? t=some (iI n)/\Below t.block w u:=by
 have h6:= @run_callFunc_extern Tryz.prog 124 _ (fun args=>ReflectliteValue.unpack (args.getD 0 (.tuple #[]))) Tryz.func124 (by kernel_rfl) (by kernel_rfl) (by kernel_rfl) (by kernel_rfl)
 have h7:= @run_callFunc_extern Tryz.prog 125 _ (ReflectliteValue.methodAny (ReflectliteValue.valueError "reflectlite.Value.Type" 0) (fun t _ _ _=>ReflectliteType.toType t)) Tryz.func125 (by kernel_rfl) (by kernel_rfl) (by kernel_rfl) (by kernel_rfl)
 have h8:= @run_callFunc_extern Tryz.prog 126 _ (ReflectliteValue.method (ReflectliteValue.valueError "reflectlite.Value.IsNil" 0) ReflectliteValue.isNil) Tryz.func126 (by kernel_rfl) (by kernel_rfl) (by kernel_rfl) (by kernel_rfl)
 have h27:= @run_callFunc_extern Tryz.prog 195 _ (ReflectliteType.abiMethod fun t=>do pure (.int .u8 (<-Rtype.kind t))) Tryz.func195 (by kernel_rfl) (by kernel_rfl) (by kernel_rfl) (by kernel_rfl)
 have h37:= @run_callFunc_extern Tryz.prog 211 _ (ReflectliteType.method ReflectliteType.elem) Tryz.func211 (by kernel_rfl) (by kernel_rfl) (by kernel_rfl) (by kernel_rfl)
 have h38:= @run_callFunc_extern Tryz.prog 212 _ (ReflectliteType.relation "Implements" ReflectliteType.implements_) Tryz.func212 (by kernel_rfl) (by kernel_rfl) (by kernel_rfl) (by kernel_rfl)
 have f6:=Tryz.valueOfP
 have f7:=Tryz.typeP
 have mK:=Tryz.mKind
 have mE:=Tryz.mElem
 have mI:=Tryz.mImpl
 have kP:=Tryz.kindP
 have kE:=Tryz.kindE
 have eT:=Tryz.elemT
 have iE:=Tryz.implE
 obtain⟨w1,ew1⟩: ∃x,w.alloc (.cells #[.pointer (some t)] 135)=x:=⟨_,rfl⟩
 have hB1:Bw w w1:=by rw[<-ew1];exact Z1 (Z5 w) _
 have hs1:w1.heap.size=w.heap.size+1:=by rw[<-ew1];simp
 have ha1:w1.cell? ⟨w.heap.size,0,none⟩=some (.pointer (some t)):=by rw[<-ew1];simp
 obtain⟨w2,ew2⟩: ∃x,w1.alloc (.cells #[.pointer (some ⟨6,135,none⟩),.pointer (some ⟨w.heap.size,0,none⟩),iU 150] 166)=x:=⟨_,rfl⟩
 have hB2:Bw w1 w2:=by rw[<-ew2];exact Z1 (Z5 w1) _
 have hBw:Bw w w2:=Zg hB1 hB2
 have hs2:w2.heap.size=w.heap.size+2:=by rw[<-ew2];simp[hs1]
 have c0:w2.cell? ⟨w1.heap.size,0,none⟩=some (.pointer (some ⟨6,135,none⟩)):=by rw[<-ew2];simp
 have c1:w2.cell? ⟨w1.heap.size,1,none⟩=some (.pointer (some ⟨w.heap.size,0,none⟩)):=by rw[<-ew2];simp
 have c2:w2.cell? ⟨w1.heap.size,2,none⟩=some (iU 150):=by rw[<-ew2];simp
 rw[hs1] at c0 c1 c2
 have ha2:w2.cell? ⟨w.heap.size,0,none⟩=some (.pointer (some t)):=(hB2.cell (p:=⟨w.heap.size,0,none⟩) (by simp[hs1])).trans ha1
 have n8:=Tryz.isNilP ⟨w.heap.size,0,none⟩ t w2 ha2
 have hg:=(hG.below hBw).typ
 have hA:=cAs0 n t ⟨w.heap.size,0,none⟩ old D v w2 (hv.up hBw) ha2 ((hBw.cell (p:=t) htt).trans ht) ((hBw.frozen (p:=t) htt).trans hf) (by simp[hs2]) (by omega)
 have hBt:Below t.block w w2:=hBw.mono (Nat.le_of_lt htt)
 obtain⟨T,x,rfl⟩:=hv.some
 clear hv ht hf ha1 ha2 hG
 go_enter Tryz.func96,Tryz.ntmps96
 go_wp2_with (go_at_call 127;refine hA.mono ?_;clear hA;rintro e ua ⟨rfl,hca,hBa⟩)
 exact bodyPost_ret (v:= .bool true) (by simp[results,Tryz.results96,go_sem]) rfl ⟨rfl,hca,hBt.trans hBa⟩
end
section
open Go.RowKit
def byp(a b c d:Int)(p:Nat):Int:=(if p/8=0 then a else if p/8=1 then b else if p/8=2 then c else d)/2^(p%8*8)%256
def CB(w:World)(n k:Nat)(a b c d:Int):Prop:= ∀j,j<32->w.cell? ⟨n,j,none⟩=some (.int .u8 (if 32<=j+k then byp a b c d (31 -j) else 0))/\w.frozen? ⟨n,j,none⟩=false
theorem CB.below{w w':World}{m n k:Nat}{a b c d:Int}(h:CB w n k a b c d)(hb:Below m w w')(hn:n<m):CB w' n k a b c d:=fun j hj=>by
 rw[hb.cell (p:=⟨n,j,none⟩) hn,hb.frozen (p:=⟨n,j,none⟩) hn];exact h j hj
theorem CB.set{w:World}{n k:Nat}{a b c d:Int}(h:CB w n k a b c d)(hk:k<32)(v:Int)(hv:v=byp a b c d k):CB (w.setCell ⟨n,31 -k,none⟩ (.int .u8 v)) n (k+1) a b c d:=fun j hj=>by
 rw[World.frozen?_setCell]
 obtain⟨hc,hf⟩:=h (31 -k) (by omega)
 by_cases e:j=31 -k
 ·subst e
  refine⟨?_,hf⟩
  rw[if_pos (by omega),show 31 -(31 -k)=k by omega,hv]
  simp[go_sem,hc]
 ·obtain⟨hc',hf'⟩:=h j hj
  refine⟨?_,hf'⟩
  rw[World.cell?_setCell_other _ _ _ _ (by simp<;>omega),hc']
  by_cases g:32<=j+k
  ·rw[if_pos g,if_pos (by omega)]
  ·rw[if_neg g,if_neg (by omega)]
def z32b:Array Value:=Array.replicate 32 (.int .u8 0)
theorem CB.new(w:World)(a b c d:Int):CB (w.alloc (.cells z32b 5)) w.heap.size 0 a b c d:=fun j hj=>by
 have hf:(w.alloc (.cells z32b 5)).frozen? ⟨w.heap.size,j,none⟩=false:=by simp[go_sem]
 refine⟨?_,hf⟩
 rw[cell_of_row _ w.heap.size j _ 5 (0,0) (heap_alloc_new _ _),if_neg (by omega)]
 simp[z32b,hj]
def byl(a b c d:Int):List Int:=(List.range 32).map fun j=>byp a b c d (31 -j)
theorem CB.get{w:World}{g:Nat}{a b c d:Int}(h:CB w g 32 a b c d): ∀i,i<32->w.cell? ⟨g,0+i,none⟩=some (.int .u8 ((byl a b c d).getD i 0)):=fun i hi=>by
 have:=(h i hi).1
 rw[if_pos (by omega)] at this
 rw[Nat.zero_add,this]
 unfold byl
 simp[List.getD,hi]
theorem Tryz.info5:(Tryz.prog.info? 5).map (fun i=>(i.zero,i.size,i.bytes))=some (some (.int .u8 0),1,1):=by kernel_rfl
def hexc(v:Int):Int:=if v<10 then 48+v else 87+v
def nib(a b c d:Int)(p:Nat):Int:=(if p/16=0 then a else if p/16=1 then b else if p/16=2 then c else d)/2^(p%16*4)%16
theorem hex_at(v:Int)(h0:0<=v)(h1:v<16)(hh:v.toNat<(ByteArray.mk #[48,49,50,51,52,53,54,55,56,57,97,98,99,100,101,102]).size):((((ByteArray.mk #[48,49,50,51,52,53,54,55,56,57,97,98,99,100,101,102])[v.toNat]'hh).toNat:Nat):Int)=hexc v:=by
 obtain⟨n,rfl⟩:=Int.eq_ofNat_of_zero_le h0
 have hn:n<16:=by omega
 have key: ∀m:Fin 16,((((ByteArray.mk #[48,49,50,51,52,53,54,55,56,57,97,98,99,100,101,102])[m.val]'(by have:=m.isLt;show m.val<16;omega)).toNat:Nat):Int)=hexc (m.val:Int):=by decide
 exact key ⟨n,hn⟩
theorem and15(x:Int)(h:W64 x):bits .and .u64 x 15=x%16:=by
 obtain⟨h1,h2⟩:=h
 obtain⟨x,rfl⟩:=Int.eq_ofNat_of_zero_le h1
 have e:=bits_and_u64_nat x 15 (by omega) (by omega)
 have f:x&&&15=x%16:=Nat.and_two_pow_sub_one_eq_mod x 4
 rw[f] at e
 exact e.trans (by omega)
def CT(w:World)(n N k:Nat)(a b c d:Int):Prop:= ∀j,j<N->w.cell? ⟨n,j,none⟩=some (.int .u8 (if N<=j+k then hexc (nib a b c d (N -1 -j)) else 0))/\w.frozen? ⟨n,j,none⟩=false
theorem CT.set{w:World}{n N k o:Nat}{a b c d:Int}(h:CT w n N k a b c d)(hk:k<N)(ho:o=N -1 -k)(v:Int)(hv:v=hexc (nib a b c d k)):CT (w.setCell ⟨n,o,none⟩ (.int .u8 v)) n N (k+1) a b c d:=fun j hj=>by
 subst ho
 rw[World.frozen?_setCell]
 obtain⟨hc,hf⟩:=h (N -1 -k) (by omega)
 by_cases e:j=N -1 -k
 ·subst e
  refine⟨?_,hf⟩
  rw[if_pos (by omega),show N -1 -(N -1 -k)=k by omega,hv]
  simp[go_sem,hc]
 ·obtain⟨hc',hf'⟩:=h j hj
  refine⟨?_,hf'⟩
  rw[World.cell?_setCell_other _ _ _ _ (by simp<;>omega),hc']
  by_cases g:N<=j+k
  ·rw[if_pos g,if_pos (by omega)]
  ·rw[if_neg g,if_neg (by omega)]
theorem CT.new(w:World)(N:Nat)(a b c d:Int):CT (w.alloc (.cells (madeCells #[.int .u8 0] N) 5)) w.heap.size N 0 a b c d:=fun j hj=>by
 have hf:(w.alloc (.cells (madeCells #[.int .u8 0] N) 5)).frozen? ⟨w.heap.size,j,none⟩=false:=by simp[go_sem]
 refine⟨?_,hf⟩
 rw[cell_of_row _ w.heap.size j _ 5 (0,0) (heap_alloc_new _ _),if_neg (by omega)]
 simp[madeCells,hj,Nat.mod_one]
def txl(a b c d:Int)(N:Nat):List Int:=(List.range N).map fun j=>hexc (nib a b c d (N -1 -j))
theorem CT.get{w:World}{g N:Nat}{a b c d:Int}(h:CT w g N N a b c d): ∀i,i<N->w.cell? ⟨g,0+i,none⟩=some (.int .u8 ((txl a b c d N).getD i 0)):=fun i hi=>by
 have:=(h i hi).1
 rw[if_pos (by omega)] at this
 rw[Nat.zero_add,this]
 unfold txl
 simp[List.getD,hi]
def nd(a b c d:Int):Nat:=if blen a b c d=0 then 1 else ((blen a b c d+3)/4).toNat
theorem blen_bd(a b c d:Int)(ha:W64 a)(hb:W64 b)(hc:W64 c)(hd:W64 d):0<=blen a b c d/\blen a b c d<=256:=by
 have h1:=Vr a ha;have h2:=Vr b hb;have h3:=Vr c hc;have h4:=Vr d hd
 unfold blen;split
 ·omega
 ·split
  ·omega
  ·split
   ·omega
   ·split<;>omega
theorem Text_any(a b c d:Int)(w:World)(ha:W64 a)(hb:W64 b)(hc:W64 c)(hd:W64 d):
 CC 104 #[A4 a b c d] w (.string (strOfNums (txl a b c d (nd a b c d)))):=by
 have hbb:=blen_bd a b c d ha hb hc hd
 obtain⟨N,eN⟩: ∃N,nd a b c d=N:=⟨_,rfl⟩
 rw[eN]
 have hmax:(max 1 ((blen a b c d+3)/4):Int)=(N:Int):=by
  rw[<-eN];unfold nd;split<;>omega
 have hN1:1<=N:=by omega
 have hN2:N<=64:=by omega
 obtain⟨L,eL⟩: ∃L,blen a b c d=L:=⟨_,rfl⟩
 have hlen:=Uf a b c d
 simp only[eL] at hlen hbb hmax
 have HLEN:Hid _:=hlen
 clear hlen eL eN
 have hmk:=fun w=>run_make_row' (P:=Tryz.prog) 118 5 (.int .u8 0) 1 Tryz.underlying118 Tryz.info5 rfl .i64 .i64 N (by omega) (by omega) w
 go_enter Tryz.func104,Tryz.ntmps104
 go_wp2_with fail
 refine(HLEN.out _ ha hb hc hd).mono ?_
 rintro en w1 ⟨rfl,hB⟩
 have hA1:C4 w1 w.heap.size a b c d:=C4.below (by unfold C4;simp[go_sem]) hB (by simp)
 have hq1:Bw w w1:=Zg (Z1 (Z5 w) _) hB
 have hs1:=hB.size
 simp only[World.size_alloc] at hs1
 clear hB
 have HM:Hid _:=hmax
 go_wp2
 go_loopw [14] (fun i wr=> ∃k:Nat,k<=N/\i=iI k/\Bw w wr/\w1.heap.size<wr.heap.size/\C4 wr w.heap.size a b c d/\CT wr w1.heap.size N k a b c d) (fun i _=>N -(intOf i).toNat)
 case atStart=>
  exact⟨0,by omega,rfl,Z1 hq1 _,by simp,hA1.alloc (by omega) _,CT.new w1 N a b c d⟩
 case round=>
  clear hA1 hq1 hmk hmax
  obtain⟨k,hk,rfl,hB,hs,hA,hO⟩:=hrel
  by_cases hlt:k<N
  ·have hlt':(k:Int)<(N:Int):=by omega
   have hA':=hA
   obtain⟨⟨ac0,ac1,ac2,ac3⟩,_⟩:=hA'
   obtain⟨oc,of⟩:=hO (N -1 -k) (by omega)
   have hz:(if N<=N -1 -k+k then hexc (nib a b c d (N -1 -(N -1 -k))) else 0)=0:=if_neg (by omega)
   rw[hz] at oc
   clear hz
   have hq:k/16=0\/k/16=1\/k/16=2\/k/16=3:=by omega
   rcases hq with hq | hq | hq | hq
   ·have hq':(k:Int)/16=0:=by omega
    have hnd:=and15 _ (W_shr a (k%16*4) ha)
    have hv0:0<=a/2^(k%16*4)%16:=by omega
    have hv1:a/2^(k%16*4)%16<16:=by omega
    go_wp2
    refine⟨⟨k+1,by omega,by go_num,?_,by simpa using hs,hA.other _ (by dsimp only;omega) _,hO.set hlt (by omega) _ ?_⟩,by simp[intOf];omega⟩
    ·exact hB.setCell (by show _<=_;dsimp only;omega) _
    ·rw[hex_at _ hv0 hv1];unfold nib;simp[hq]
   ·have hq':(k:Int)/16=1:=by omega
    have hnd:=and15 _ (W_shr b (k%16*4) hb)
    have hv0:0<=b/2^(k%16*4)%16:=by omega
    have hv1:b/2^(k%16*4)%16<16:=by omega
    go_wp2
    refine⟨⟨k+1,by omega,by go_num,?_,by simpa using hs,hA.other _ (by dsimp only;omega) _,hO.set hlt (by omega) _ ?_⟩,by simp[intOf];omega⟩
    ·exact hB.setCell (by show _<=_;dsimp only;omega) _
    ·rw[hex_at _ hv0 hv1];unfold nib;simp[hq]
   ·have hq':(k:Int)/16=2:=by omega
    have hnd:=and15 _ (W_shr c (k%16*4) hc)
    have hv0:0<=c/2^(k%16*4)%16:=by omega
    have hv1:c/2^(k%16*4)%16<16:=by omega
    go_wp2
    refine⟨⟨k+1,by omega,by go_num,?_,by simpa using hs,hA.other _ (by dsimp only;omega) _,hO.set hlt (by omega) _ ?_⟩,by simp[intOf];omega⟩
    ·exact hB.setCell (by show _<=_;dsimp only;omega) _
    ·rw[hex_at _ hv0 hv1];unfold nib;simp[hq]
   ·have hq':(k:Int)/16=3:=by omega
    have hnd:=and15 _ (W_shr d (k%16*4) hd)
    have hv0:0<=d/2^(k%16*4)%16:=by omega
    have hv1:d/2^(k%16*4)%16<16:=by omega
    go_wp2
    refine⟨⟨k+1,by omega,by go_num,?_,by simpa using hs,hA.other _ (by dsimp only;omega) _,hO.set hlt (by omega) _ ?_⟩,by simp[intOf];omega⟩
    ·exact hB.setCell (by show _<=_;dsimp only;omega) _
    ·rw[hex_at _ hv0 hv1];unfold nib;simp[hq]
  ·have hkN:k=N:=by omega
   subst hkN
   have hcv:=run_convert_bytes_arg (P:=Tryz.prog) wr 118 5 Tryz.underlying118 Tryz.underlying5 w1.heap.size 0 k k (txl a b c d k) (by simp[txl]) hO.get 9 Tryz.underlying9
   go_wp2
   go_ret
   exact⟨rfl,hB⟩
end
end Go.Proofs.YtmoimodkopjeeaaGreatDoor
