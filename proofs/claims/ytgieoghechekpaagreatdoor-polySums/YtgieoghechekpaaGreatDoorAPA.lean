import Derived.Test.YtgieoghechekpaaGreatDoorAP5
import Derived.Test.YtgieoghechekpaaGreatDoorIT
import Derived.Lib.SmallJoins
import Derived.Lib.ItoaLen
namespace Go.Proofs.YtgieoghechekpaaGreatDoor
set_option linter.unusedVariables false
set_option linter.unusedSimpArgs false
set_option maxRecDepth 100000
set_option maxHeartbeats 4000000
open Go.RowKit Go.Extern.Stop Go.Stop Go.Extern
inductive AV (n:Int) (w:World):Nat->Value->Prop
 | leaf (d:Nat):AV n w d (.iface 28 (.int .i64 n))
 | flt (d:Nat) (s:ByteArray) (k:Value):AV n w d k->AV n w (d+1) (.iface 104 (.agg #[.string s,k]))
 | join (d b g o m c:Nat) (x:Value):0<m->m<=1000000->w.cell? ⟨b,0,none⟩=some (.slice (some ⟨g,o,none⟩) m c)->b<w.heap.size->g<w.heap.size->w.cell? ⟨g,o,none⟩=some x->AV n w d x->AV n w (d+1) (.iface 99 (.pointer (some ⟨b,0,none⟩)))
theorem AV.up{n:Int}{w u:World}(hB:Bw w u){d:Nat}{v:Value}(h:AV n w d v):AV n u d v:=by
 induction h with
 | leaf d=>exact .leaf d
 | flt d s k _ ih=>exact .flt d s k ih
 | join d b g o m c x h0 h00 h1 h2 h3 h4 _ ih=>exact .join d b g o m c x h0 h00 ((hB.cell (p:=⟨b,0,none⟩) h2).trans h1) (Nat.lt_of_lt_of_le h2 hB.size) (Nat.lt_of_lt_of_le h3 hB.size) ((hB.cell (p:=⟨g,o,none⟩) h3).trans h4) ih
theorem AV.some{n:Int}{w:World}{d:Nat}{v:Value}(h:AV n w d v): ∃T x,v= .iface T x:=by
 cases h with
 | leaf=>exact⟨_,_,rfl⟩
 | flt=>exact⟨_,_,rfl⟩
 | join=>exact⟨_,_,rfl⟩
def AE(b:Bool)(w:World)(v:Value):Prop:=(b=false/\v= .nilIface)\/(b=true/\ ∃d,AV 2 w d v)
theorem AE.up{b:Bool}{w u:World}(hB:Bw w u){v:Value}(h:AE b w v):AE b u v:=h.imp id fun⟨h1,d,h⟩=>⟨h1,d,h.up hB⟩
theorem AE.stab{b:Bool}{u u2:World}{x:Value}(hB:Bw u u2)(h:AE b u x):AE b u2 x:=h.up hB
structure GP(w:World):Prop where
 sz:1<w.heap.size
 tab:Lib.TabIs Tryz.prog w "internal/strconv.uint64pow10" .u64 Lib.pow10Tab
 typ:w.cell? ⟨0,0,none⟩=some (.iface 130 (.agg #[.pointer (some ⟨6,63,none⟩)]))
theorem gPow:Tryz.prog.globalNamed "internal/strconv.uint64pow10" =some 1:=by kernel_rfl
theorem GP.below{w u:World}(h:GP w)(hB:Bw w u):GP u where
 sz:=Nat.lt_of_lt_of_le h.sz hB.size
 tab:=Go.Joins.tab_stays gPow h.tab hB (Nat.le_refl _)
 typ:=(hB.cell (p:=⟨0,0,none⟩) (Nat.lt_of_le_of_lt (by decide) h.sz)).trans h.typ
theorem below_grow(w:World)(k:Nat)(os:Array Obj):Bw w (Go.Sort.grow (w.drewN k) os):=by
 have h1:(w.drewN k).heap=w.heap:=rfl
 exact⟨rfl,rfl,rfl,by simp[Go.Sort.grow,h1],fun i hi=>by simp[Go.Sort.grow,h1,Array.getElem?_append_left hi]⟩
def ia(n:Int):ByteArray:=⟨(Lib.itoa n).toArray⟩
theorem ia_sz(n:Int)(h0: -9223372036854775808<=n)(h1:n<=9223372036854775807):(ia n).size<=21:=by
 have:=Lib.itoa_length_le n h0 h1
 simpa [ia,ByteArray.size] using this
theorem cItoa(n:Int)(w:World)(h0: -9223372036854775808<=n)(h1:n<=9223372036854775807)(hG:GP w):CC 57 #[.int .i64 n] w (.string (ia n)):=by
 refine(Tryz.strconv_Itoa n h0 h1 w hG.tab).mono ?_
 rintro e u ⟨rfl,k,os,rfl⟩
 exact⟨rfl,below_grow w k os⟩
theorem pkE_le(xs:Nat->Value)(b:Nat->Bool): ∀i,(pkE xs b i).length<=i
 | 0=>Nat.le_refl _
 | i+1=>by
  have:=pkE_le xs b i
  rw[pkE];split
  ·rw[List.length_append];simp;omega
  ·omega
theorem X9(g c:Nat)(x0 x1:Value)(b0 b1:Bool)(w:World)(hg:g<w.heap.size)(c0:w.cell? ⟨g,0,none⟩=some x0)(c1:w.cell? ⟨g,1,none⟩=some x1)(h0:AE b0 w x0)(h1:AE b1 w x1):
 Calls Tryz.prog 33 #[.slice (some ⟨g,0,none⟩) 2 c] w fun r u'=> ∃y,r= .returned y/\AE (b0 || b1) u' y/\Bw w u':=by
 have hx: ∀i,i<2->w.cell? ⟨g,0+i,none⟩=some ((fun i:Nat=>if i=0 then x0 else x1) i):=fun i hi=>by
  match i,hi with
  | 0,_=>exact c0
  | 1,_=>exact c1
 have hb: ∀(b:Bool) (x:Value),AE b w x->b=false/\x= .nilIface\/b=true/\ ∃T y,x= .iface T y:=fun b x h=>h.imp id fun⟨h1,d,h⟩=>⟨h1,h.some⟩
 refine(join_core 2 c (some ⟨g,0,none⟩) (fun i=>if i=0 then x0 else x1) (fun i=>if i=0 then b0 else b1) w (by omega) (fun _=>⟨g,0,rfl,hg,hx⟩) (fun i hi=>?_) (fun i=>?_)).mono ?_
 ·match i,hi with
  | 0,_=>exact hb _ _ h0
  | 1,_=>exact hb _ _ h1
 ·exact pkE_le _ _ i
 ·rintro e u ⟨y,rfl,hp,hB⟩
  refine⟨y,rfl,?_,hB⟩
  have en: ∀z,AE false w z->z= .nilIface:=fun z h=>h.elim (fun h=>h.2) (fun h=>by cases h.1)
  have ev: ∀z,AE true w z-> ∃d,AV 2 w d z:=fun z h=>h.elim (fun h=>by cases h.1) (fun h=>h.2)
  rcases hp with⟨p1,rfl⟩ | ⟨J,bo,m,co,zs,rfl,hJ,hbo,hm,hm0,hc1,hc2⟩
  ·cases b0<;>cases b1<;>simp[pkE] at p1
   exact .inl ⟨rfl,rfl⟩
  ·have key: ∀z l,pkE (fun i=>if i=0 then x0 else x1) (fun i=>if i=0 then b0 else b1) 2=z::l->AE true w z->AE true u (.iface 99 (.pointer (some ⟨J,0,none⟩))):=fun z l e hz=>by
    obtain⟨d,hz⟩:=ev z hz
    rw[e] at hc2 hm
    have hml:m<=1000000:=by
     have:(pkE (fun i=>if i=0 then x0 else x1) (fun i=>if i=0 then b0 else b1) 2).length<=2:=by
      cases b0<;>cases b1<;>simp[pkE]
     rw[e] at this;omega
    exact .inr ⟨rfl,d+1,.join d J bo 0 m co z hm0 hml (hc1 0 _ rfl).1 hJ hbo (hc2 0 _ rfl).1 (hz.up hB)⟩
   cases b0<;>cases b1
   ·simp[pkE] at hm;omega
   ·exact key x1 [] (by simp[pkE]) h1
   ·exact key x0 [] (by simp[pkE]) h0
   ·exact key x0 [x1] (by simp[pkE]) h0
theorem Tryz.directE(w:World):(Rtype.directlyAssignable 28 28).run Tryz.prog w= .ok true w:=by kernel_rfl
theorem Tryz.setE0(ta b:Addr)(W:World):
 (ReflectliteValue.set #[.agg #[.pointer (some ⟨6,28,none⟩),.pointer (some ta),.int .u64 386],.agg #[.pointer (some ⟨6,28,none⟩),.pointer (some b),.int .u64 130]]).run Tryz.prog W
  =((do let v<-loadVar 28 b;storeVar 28 ta v;pure (.tuple #[])):Sem Value).run Tryz.prog W:=by kernel_rfl
theorem Tryz.setE(ta b:Addr)(n:Int)(old:Value)(W:World)(hb:W.cell? b=some (.int .i64 n))(ht:W.cell? ta=some old)(hf:W.frozen? ta=false):
 (ReflectliteValue.set #[.agg #[.pointer (some ⟨6,28,none⟩),.pointer (some ta),.int .u64 386],.agg #[.pointer (some ⟨6,28,none⟩),.pointer (some b),.int .u64 130]]).run Tryz.prog W
  = .ok (.tuple #[]) (W.setCell ta (.int .i64 n)):=by
 rw[Tryz.setE0]
 simp[ReflectliteValue.flagAddr,loadVar,isAgg,underlying,Tryz.underlying28,hb,Result.andThen,Tryz.directE,storeVar,Value.cells,storeCells,Addr.add]
 rw[run_store Tryz.prog W ta _ _ (by rfl)]
 simp[ht,hf]
end Go.Proofs.YtgieoghechekpaaGreatDoor
