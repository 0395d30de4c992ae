import Derived.Test.YtgieoghechekpaaDoorAPY
import Derived.Test.YtgieoghechekpaaDoorRows
import Derived.Test.YtgieoghechekpaaDoorTie
import Derived.Test.YtgieoghechekpaaDoorCards
import Derived.LaidMore
import Derived.SevenTiedAt
namespace Go.Proofs.YtgieoghechekpaaDoor
set_option linter.unusedVariables false
set_option linter.unusedSimpArgs false
set_option maxRecDepth 100000
set_option maxHeartbeats 4000000
section
open Go.RowKit
def PAp(N:Nat)(u:World)(v:Value):Prop:= ∃out:List Int,out.length=N/\Apart out/\IL u v out
theorem PAp.stab{N:Nat}{u u2:World}{x:Value}(hB:Bw u u2)(h:PAp N u x):PAp N u2 x:=by
 obtain⟨out,h1,h2,h3⟩:=h
 exact⟨out,h1,h2,h3.up hB⟩
theorem cApart(sl:Option Addr)(L cap gl ol N:Nat)(f:Nat->Int)(w:World)(hN:N<=20)(hL:L<=9223372036854775807)(hsl:0<L->sl=some ⟨gl,ol,none⟩/\gl<w.heap.size)(hc: ∀j,j<L->w.cell? ⟨gl,ol+j,none⟩=some (.int .i64 (f j)))(hf: ∀j,j<L-> -9223372036854775808<=f j/\f j<9223372036854775808): ∀u,Bw w u->Calls Tryd.prog 8 #[.slice sl L cap,.int .i64 (N:Int)] u fun e u'=> ∃y,e= .returned y/\PAp N u' y/\Bw u u':=fun u hB=>by
 refine(apart_core sl L cap gl ol N f u hN hL (fun h=>⟨(hsl h).1,Nat.lt_of_lt_of_le (hsl h).2 hB.size⟩) (fun j hj=>(hB.cell (p:=⟨gl,ol+j,none⟩) (hsl (by omega)).2).trans (hc j hj)) (fun j hj=>?_)).mono ?_
 ·obtain⟨k,hk,h⟩:=among_any (f j) 40 (by omega) (by omega) (hf j hj)
  exact⟨k,by omega,h⟩
 ·rintro e u' ⟨y,rfl,out,h1,h2,h3,h4⟩
  exact⟨y,rfl,⟨out,h1,h2,h3⟩,h4⟩
def PRt(lo:Nat)(ns:List Int)(u:World)(v:Value):Prop:= ∃y,v= .tuple #[y,.int .i64 0]/\PRw lo ns u y
theorem PRt.stab{lo:Nat}{ns:List Int}{u u2:World}{x:Value}(hB:Bw u u2)(h:PRt lo ns u x):PRt lo ns u2 x:=by
 obtain⟨y,e,h⟩:=h
 exact⟨y,e,h.stab hB⟩
theorem PRt.fst{lo:Nat}{ns:List Int}: ∀(u:World) (v:Value),PRt lo ns u v-> ∃cs y,v= .tuple cs/\cs[0]?=some y/\PRw lo ns u y:=fun u v ⟨y,e,h⟩=>⟨_,y,e,rfl,h⟩
theorem PRt.snd{lo:Nat}{ns:List Int}: ∀(u:World) (v:Value),PRt lo ns u v-> ∃cs,v= .tuple cs/\cs[1]?=some (.int .i64 0):=fun u v ⟨y,e,h⟩=>⟨_,e,rfl⟩
theorem In_OQ:In OQ:=⟨by decide,by decide⟩
theorem Apart.In{xs:List Int}(h:Apart xs): ∀z∈xs,In z:=fun z hz=>⟨by have:=h.2 z hz;omega,by have:=h.2 z hz;omega⟩
theorem Zx:EnT 4:=fun _ _=>by kernel_rfl
theorem Za:EnT 7:=fun _ _=>by kernel_rfl
end
section
open Go.ChangeShapes Go.WideShapes Go.ChangeAt Go.RowKit
theorem Tryd.cells26:Tryd.prog.cellsOf 26=4:=by kernel_rfl
theorem Tryd.cells24:Tryd.prog.cellsOf 24=1:=by kernel_rfl
theorem Z7{x:Int}(h:(Lit.int .u64 x).wf=true):W64 x:=by
 simp[Lit.wf,IntKind.min,IntKind.max,IntKind.signed,IntKind.bits] at h
 exact⟨by omega,by omega⟩
abbrev N4{H:Type}(a b c d:Int):DataW H:= .agg [.lit (.int .u64 a),.lit (.int .u64 b),.lit (.int .u64 c),.lit (.int .u64 d)]
theorem open_nat{H:Type}{enc:TypeId×Value->H}{W:World}{bs base:Nat}{sp:Nat->Bool}{held:Bool}{v:Value}{x:DataW H}{p:List MemPlace}
 (hv:Value.okWide Tryd.prog W .any base 26 v)(h:DataW.Trod enc Tryd.prog W bs sp held 26 v x p):
 ∃a b c d:Int,v=A4 a b c d/\x=N4 a b c d/\p=[]/\W64 a/\W64 b/\W64 c/\W64 d:=by
 obtain⟨cs,rfl,hsz,_⟩: ∃cs,v= .agg cs/\cs.size=Tryd.prog.cellsOf 26/\Row.okWide Tryd.prog W .any base 26 cs:=by
  simpa [Value.okWide,Tryd.underlying26] using hv
 rw[Tryd.cells26] at hsz
 obtain⟨c0,c1,c2,c3,rfl⟩:=Go.Joins.array4 hsz
 obtain⟨fuel,hf⟩:=h
 obtain⟨y0,y1,y2,y3,m,hx,hy0,hy1,hy2,hy3⟩:=trod_array4 Tryd.underlying26 Tryd.cells24 hf
 obtain⟨x0,e0,rfl,w0⟩:=DataW.trod_int Tryd.underlying24 hy0
 obtain⟨x1,e1,rfl,w1⟩:=DataW.trod_int Tryd.underlying24 hy1
 obtain⟨x2,e2,rfl,w2⟩:=DataW.trod_int Tryd.underlying24 hy2
 obtain⟨x3,e3,rfl,w3⟩:=DataW.trod_int Tryd.underlying24 hy3
 simp at e0 e1 e2 e3
 subst e0 e1 e2 e3
 simp only[Prod.mk.injEq] at hx
 obtain⟨rfl,rfl⟩:=hx
 exact⟨x0,x1,x2,x3,rfl,rfl,rfl,Z7 w0,Z7 w1,Z7 w2,Z7 w3⟩
section
section
variable {H:Type} {enc:TypeId×Value->H} {P:Program} {w:World} {base:Nat} {spare:Nat->Bool} {held:Bool}
end
end
theorem own4:ownKnob Tryd.prog.godebug=none:=by kernel_rfl
theorem laid4:laidOutB Tryd.prog=true:=by kernel_rfl
abbrev lstP:List (String×DataW Unit):=[("math/bits.deBruijn32tab",Rows.laid_math_bits_deBruijn32tab),("math/bits.deBruijn64tab",Rows.laid_math_bits_deBruijn64tab),("internal/strconv.uint64pow10",Rows.laid_internal_strconv_uint64pow10),("errors.errorType",Rows.laid_errors_errorType)]
theorem gEt:Tryd.prog.globalNamed "errors.errorType" =some 0:=by kernel_rfl
theorem rtW:(Tryd.prog.cutTypes.find? (·.1== "internal/reflectlite.rtype")).map (·.2)=some 104:=by kernel_rfl
theorem szW:Tryd.prog.types.size=180:=by kernel_rfl
theorem oneW:((List.range 180).filter fun t=>Tryd.prog.rowNamed t [101,114,114,111,114])=[43]:=by kernel_rfl
theorem tPow:(Tryd.prog.globals[1]?).map (·.type)=some 139:=by kernel_rfl
theorem powIs:(Rows.laid_internal_strconv_uint64pow10:DataW Unit)=Lib.tabData .u64 Lib.pow10Tab:=by kernel_rfl
theorem of_laidP{W:World}(h:laidMetH Tryd.prog lstP W):GP W:=by
 have h':laidMet Tryd.prog [("math/bits.deBruijn32tab",Rows.laid_math_bits_deBruijn32tab),("math/bits.deBruijn64tab",Rows.laid_math_bits_deBruijn64tab),("internal/strconv.uint64pow10",Rows.laid_internal_strconv_uint64pow10)] W/\handlesMet Tryd.prog [("errors.errorType",Rows.laid_errors_errorType)] W:=h
 obtain⟨hd,hh⟩:=h'
 obtain⟨ps,⟨g0,t0,cs0,f0,p0,q0,hg0,ht0,hv0,hd0,⟨g1,t1,cs1,f1,p1,q1,hg1,ht1,hv1,hd1,⟨g2,t2,cs2,f2,p2,q2,hg2,ht2,hv2,hd2,_,_⟩,_⟩,_⟩,_,_⟩:=hd
 obtain rfl:=Option.some.inj (gPow.symm.trans hg2)
 obtain rfl:=Option.some.inj (tPow.symm.trans ht2)
 rw[powIs] at hd2
 have htab:Lib.TabIs Tryd.prog W "internal/strconv.uint64pow10" .u64 Lib.pow10Tab:=by
  unfold Lib.TabIs
  rw[hv2,<-Lib.cells_of_tab Tryd.underlying139 Tryd.underlying24 (by kernel_rfl) (by kernel_rfl) hd2]
 obtain⟨name,u,ty,e1,e2,e3,e4,e5⟩:=hh _ (List.mem_singleton.2 rfl)
 have en:name=[101,114,114,111,114]:=(Option.some.inj e1).symm
 subst en
 obtain rfl:=Option.some.inj (rtW.symm.trans e2)
 have hm:ty∈(List.range 180).filter fun t=>Tryd.prog.rowNamed t [101,114,114,111,114]:=List.mem_filter.2 ⟨List.mem_range.2 (by rw[<-szW];exact e3),e4⟩
 rw[oneW] at hm
 obtain rfl:=List.mem_singleton.1 hm
 have hth:typeHandle Tryd.prog 43= .pointer (some ⟨6,43,none⟩):=by kernel_rfl
 rw[hth] at e5
 have hc:W.cell? ⟨0,0,none⟩=some (.iface 104 (.agg #[.pointer (some ⟨6,43,none⟩)])):=by simpa using World.var?_cell gEt e5 0
 have hc2:=htab.cell gPow 0 (by rw[Lib.pow10Tab_length];omega)
 exact⟨World.block_lt_of_cell? W _ hc2,htab,hc⟩
theorem doorP(os:Go.Os)(args:Array Value):laidMetH Tryd.prog lstP ((World.doorLaid Tryd.prog 400 os).forCall (fun _ _=>0) ⟨#[],args,[]⟩).memory:=
 laidMetH_of_parts3 (fuel:=8) (laidMet_of_run' 8 (by kernel_rfl) (by kernel_rfl)) (by kernel_rfl) (by kernel_rfl)
theorem list_ofP{p:Nat->Int->Prop}: ∀n,(∀i,i<n-> ∃z,p i z)-> ∃ns:List Int,ns.length=n/\ ∀i,i<n->p i (ns.getD i 0)
 | 0,_=>⟨[],rfl,fun i hi=>by omega⟩
 | n+1,h=>by
  obtain⟨ns,hl,hp⟩:=list_ofP n (fun i hi=>h i (by omega))
  obtain⟨z,hz⟩:=h n (by omega)
  refine⟨ns++[z],by simp[hl],fun i hi=>?_⟩
  by_cases e:i=n
  ·subst e
   have:(ns++[z]).getD i 0=z:=by rw[<-hl];simp
   rw[this];exact hz
  ·have:(ns++[z]).getD i 0=ns.getD i 0:=by simp[List.getElem?_append_left (show i<ns.length by omega)]
   rw[this];exact hp i (by omega)
theorem flN_atg: ∀(ns:List Int) (j:Nat) (v:Value),(flN ns)[j]?=some v->j/4<ns.length/\(LN (ns.getD (j/4) 0))[j%4]?=some v
 | [],j,v,h=>by simp[flN] at h
 | n::r,j,v,h=>by
  rw[flN] at h
  by_cases hj:j<4
  ·rw[List.getElem?_append_left (by show j<4;exact hj)] at h
   rw[show j/4=0 by omega,show j%4=j by omega]
   exact⟨by simp,by simpa using h⟩
  ·rw[List.getElem?_append_right (by show 4<=j;omega)] at h
   have h:(flN r)[j -4]?=some v:=h
   have:=flN_atg r (j -4) v h
   rw[show j/4=(j -4)/4+1 by omega,show j%4=(j -4)%4 by omega]
   exact⟨by simpa using this.1,by simpa using this.2⟩
theorem SN.of{w:World}{g o:Nat}{ns:List Int}(h: ∀i,i<ns.length-> ∀c v,(LN (ns.getD i 0))[c]?=some v->w.cell? ⟨g,o+(i*4+c),none⟩=some v):SN w g o ns:=fun j v hj=>by
 obtain⟨h1,h2⟩:=flN_atg ns j v hj
 have:=h _ h1 _ v h2
 rwa [show j/4*4+j%4=j by omega] at this
theorem row_nat{H:Type}{enc:TypeId×Value->H}{W:World}{bs fuel base:Nat}{sp:Nat->Bool}{held:Bool}{a:Addr}{cs:List Value}{x:DataW H×List MemPlace}(h1:W.cells? base a 4=some cs)(h:DataW.trod enc Tryd.prog W bs sp held fuel 26 cs=some x):
 ∃z,In z/\ ∀c v,(LN z)[c]?=some v->W.cell? (a.add c)=some v:=by
 obtain⟨_,hl,hc⟩:=World.cells?_some h1
 match cs,hl,hc,h with
 | [c0,c1,c2,c3],hl,hc,h=>
  obtain⟨y0,y1,y2,y3,m,hx,hy0,hy1,hy2,hy3⟩:=trod_array4 Tryd.underlying26 Tryd.cells24 h
  obtain⟨x0,e0,rfl,w0⟩:=DataW.trod_int Tryd.underlying24 hy0
  obtain⟨x1,e1,rfl,w1⟩:=DataW.trod_int Tryd.underlying24 hy1
  obtain⟨x2,e2,rfl,w2⟩:=DataW.trod_int Tryd.underlying24 hy2
  obtain⟨x3,e3,rfl,w3⟩:=DataW.trod_int Tryd.underlying24 hy3
  simp at e0 e1 e2 e3
  subst e0 e1 e2 e3
  refine⟨V x0 x1 x2 x3,In_V (Z7 w0) (Z7 w1) (Z7 w2) (Z7 w3),fun c v hv=>?_⟩
  have hL:LN (V x0 x1 x2 x3)=[.int .u64 x0,.int .u64 x1,.int .u64 x2,.int .u64 x3]:=by
   have:=NV_V (Z7 w0) (Z7 w1) (Z7 w2) (Z7 w3)
   unfold NV A4 at this
   injection this with this
   have:=congrArg Array.toList this
   simpa using this
  rw[hL] at hv
  have hlt:c<4:=by have:=(List.getElem?_eq_some_iff.1 hv).1;simpa using this
  rw[hc c hlt];exact hv
theorem open_nats(L:Nat){H:Type}{enc:TypeId×Value->H}{W:World}{base:Nat}{v0:Value}{x:DataW H}{p:List MemPlace}(hv:Value.okWide Tryd.prog W .any base 22 v0)(h:DataW.Trod enc Tryd.prog W 0 (fun _=>true) true 22 v0 x p):
 ∃sl len cap gb go,∃ns:List Int,v0= .slice sl len cap/\(min len L)=ns.length/\len<=cap/\(sl=none->cap=0)/\(cap=0\/sl=some ⟨gb,go,none⟩)/\(ns.length=0\/gb<W.heap.size)/\SN W gb go ns/\ ∀z∈ns,In z:=by
 obtain⟨a0,len,cap,rfl⟩:=okWide_slice Tryd.underlying22 hv
 obtain⟨fuel,hf⟩:=h
 rcases Go.Deep.open_slice Tryd.underlying22 hf with⟨hcs,hx⟩ | ⟨ad,len',cap',m,n,D,Pl,hcs,hbs,hl,hm,hmm,hx,hall⟩
 ·simp[Value.cells] at hcs
  obtain⟨rfl,rfl,rfl⟩:=hcs
  exact⟨_,_,_,0,0,[],rfl,by simp,Nat.le_refl _,fun _=>rfl,.inl rfl,.inl rfl,SN.empty rfl,fun z hz=>(by cases hz)⟩
 ·simp[Value.cells] at hcs
  obtain⟨rfl,rfl,rfl⟩:=hcs
  simp only[if_true] at hmm
  by_cases h0:cap=0
  ·subst h0
   have e:len=0:=by omega
   subst e
   exact⟨_,_,_,0,0,[],rfl,by simp,Nat.le_refl _,fun _=>rfl,.inl rfl,.inl rfl,SN.empty rfl,fun z hz=>(by cases hz)⟩
  ·have hrow: ∀i,i<cap-> ∃z,In z/\ ∀c v,(LN z)[c]?=some v->W.cell? ((ad.add (i*4)).add c)=some v:=fun i hi=>by
    obtain⟨cs,k1,k2⟩:=hall i (by rw[hmm];exact hi)
    rw[Tryd.cells26] at k1
    exact row_nat k1 k2
   obtain⟨gb,go,spot⟩:=ad
   have hspot:spot=none:=by
    obtain⟨z,_,hz⟩:=hrow 0 (by omega)
    have:=hz 0 _ rfl
    simpa [Addr.add] using World.cell?_spot this
   subst hspot
   have hadd: ∀i c:Nat,((⟨gb,go,none⟩:Addr).add (i*4)).add c=⟨gb,go+(i*4+c),none⟩:=fun i c=>by unfold Addr.add;(repeat' split)<;>simp_all<;>omega
   obtain⟨ns,hnl,hnp⟩:=list_ofP (min len L) (fun i hi=>hrow i (by omega))
   have hblk:gb<W.heap.size:=by
    obtain⟨z,_,hz⟩:=hrow 0 (by omega)
    have:=hz 0 _ rfl
    rw[hadd] at this
    exact World.block_lt_of_cell? W _ this
   refine⟨_,_,_,gb,go,ns,rfl,hnl.symm,hl,fun e=>(by cases e),.inr rfl,.inr hblk,SN.of (fun i hi c v hv=>?_),fun z hz=>?_⟩
   ·have:=(hnp i (by omega)).2 c v hv
    rwa [hadd] at this
   ·obtain⟨j,hj,rfl⟩:=List.mem_iff_getElem.1 hz
    have:=(hnp j (by omega)).1
    simpa [List.getElem?_eq_getElem hj] using this
theorem cellsI:Tryd.prog.cellsOf 3=1:=by kernel_rfl
theorem open_ints{H:Type}{enc:TypeId×Value->H}{W:World}{base:Nat}{v:Value}{x:DataW H}{p:List MemPlace}(hv:Value.okWide Tryd.prog W .any base 23 v)(h:DataW.Trod enc Tryd.prog W 0 (fun _=>true) true 23 v x p):
 ∃sl len cap gb go,∃f:Nat->Int,v= .slice sl len cap/\len<=9223372036854775807/\len<=cap/\(sl=none->cap=0)/\(0<len->sl=some ⟨gb,go,none⟩/\gb<W.heap.size)/\(∀j,j<len->W.cell? ⟨gb,go+j,none⟩=some (.int .i64 (f j)))/\ ∀j,j<len-> -9223372036854775808<=f j/\f j<9223372036854775808:=by
 obtain⟨a0,len,cap,rfl⟩:=okWide_slice Tryd.underlying23 hv
 obtain⟨fuel,hf⟩:=h
 rcases Go.Deep.open_slice1 Tryd.underlying23 cellsI hf with⟨hcs,hx⟩ | ⟨ad,len',cap',m,n,V,D,Pl,hcs,hbs,hl,hm,hmm,hx,hall⟩
 ·simp[Value.cells] at hcs
  obtain⟨rfl,rfl,rfl⟩:=hcs
  exact⟨_,_,_,0,0,fun _=>0,rfl,by omega,Nat.le_refl _,fun _=>rfl,fun h=>by omega,fun j hj=>by omega,fun j hj=>by omega⟩
 ·simp[Value.cells] at hcs
  obtain⟨rfl,rfl,rfl⟩:=hcs
  simp only[if_true] at hmm
  by_cases h0:len=0
  ·subst h0
   exact⟨_,_,_,0,0,fun _=>0,rfl,by omega,by omega,fun e=>(by cases e),fun h=>by omega,fun j hj=>by omega,fun j hj=>by omega⟩
  ·have hrow: ∀i,i<cap-> ∃k:Int,(-9223372036854775808<=k/\k<9223372036854775808)/\W.cell? (ad.add i)=some (.int .i64 k):=fun i hi=>by
    obtain⟨k1,k2⟩:=hall i (by omega)
    obtain⟨k,e1,e2,e3⟩:=DataW.trod_int Tryd.underlying3 k2
    simp at e1
    refine⟨k,?_,?_⟩
    ·simp[Lit.wf,IntKind.min,IntKind.max,IntKind.signed,IntKind.bits] at e3
     omega
    ·rw[k1,e1]
   obtain⟨gb,go,spot⟩:=ad
   have hspot:spot=none:=by
    obtain⟨z,_,hz⟩:=hrow 0 (by omega)
    simpa [Addr.add] using World.cell?_spot hz
   subst hspot
   have hadd: ∀i:Nat,((⟨gb,go,none⟩:Addr).add i)=⟨gb,go+i,none⟩:=fun i=>by unfold Addr.add;(repeat' split)<;>simp_all
   obtain⟨ns,hnl,hnp⟩:=list_ofP len (fun i hi=>hrow i (by omega))
   have hblk:gb<W.heap.size:=by
    obtain⟨z,_,hz⟩:=hrow 0 (by omega)
    rw[hadd] at hz
    exact World.block_lt_of_cell? W _ hz
   exact⟨_,_,_,gb,go,fun j=>ns.getD j 0,rfl,(by have:=Nat.le_trans hl hm;simpa [maxLen] using this),hl,fun e=>(by cases e),fun _=>⟨rfl,hblk⟩,fun j hj=>by have:=(hnp j hj).2;rwa [hadd] at this,fun j hj=>(hnp j hj).1⟩
end
section
open Go.RowKit
def PSt(lo N:Nat)(ns:List Int)(u:World)(v:Value):Prop:= ∃y,v= .tuple #[y,.int .i64 0]/\ ∃out:List Int,out.length=N/\Apart out/\PRp lo (pts OQ ns out) u y
theorem PSt.stab{lo N:Nat}{ns:List Int}{u u2:World}{x:Value}(hB:Bw u u2)(h:PSt lo N ns u x):PSt lo N ns u2 x:=by
 obtain⟨y,e,out,h1,h2,h3⟩:=h
 exact⟨y,e,out,h1,h2,h3.stab hB⟩
def PSp(lo N:Nat)(ns:List Int)(u:World)(v:Value):Prop:= ∃out:List Int,out.length=N/\Apart out/\PRp lo (pts OQ ns out) u v
theorem PSp.stab{lo N:Nat}{ns:List Int}{u u2:World}{x:Value}(hB:Bw u u2)(h:PSp lo N ns u x):PSp lo N ns u2 x:=by
 obtain⟨out,h1,h2,h3⟩:=h
 exact⟨out,h1,h2,h3.stab hB⟩
def PNl(ns:List Int)(u:World)(v:Value):Prop:=NL u v ns
theorem PNl.stab{ns:List Int}{u u2:World}{x:Value}(hB:Bw u u2)(h:PNl ns u x):PNl ns u2 x:=NL.up h hB
theorem Apart.ok{xs:List Int}(h:Apart xs): ∀x∈xs,0<=x/\x<=9223372036854775807:=fun x hx=>by have:=h.2 x hx;omega
theorem pts_In{ns out:List Int}(h:Apart out): ∀p∈pts OQ ns out,In p.1/\In p.2:=fun p hp=>by
 obtain⟨x,hx,rfl⟩:=List.mem_map.1 hp
 exact⟨h.In x hx,hoN_In In_OQ (by decide) _⟩
theorem cShares(ns out:List Int)(t:Int)(v:Value)(w:World)(hG:GP w)(ht:In t)(hap:Apart out)(hol:ns.length=out.length)(h1:1<=ns.length)(h12:ns.length<=12)(hv:PtL w v (pts OQ ns out)):
 CC 9 #[NV OQ,NV t,v] w (.tuple #[NV (hoN OQ t ns ns.length),.int .i64 0]):=by
 obtain⟨vs,hvs⟩:=hap.invs
 have hl:=pts_len OQ ns out
 have h:=cCombine OQ t vs (pts OQ ns out) v w hG In_OQ (by decide) ht hv (pts_In hap) (by omega) (by omega) (by rw[pts_fst];exact hvs)
 rw[pts_fst,pts_len] at h
 have e:=lagN 581039633 hvs ns (by omega) t (pts OQ ns out) (fun i hi=>by rw[pts_get hi];rfl)
 have e:smN OQ (fac OQ t out vs) (pts OQ ns out) out.length=hoN OQ t ns ns.length:=e
 rw[e] at h
 exact h
theorem Y8:EnT 5:=fun _ _=>by kernel_rfl
theorem ent_Q2:EnT 8:=fun _ _=>by kernel_rfl
theorem ent_Q4:EnT 6:=fun _ _=>by kernel_rfl
theorem polyShares_core(t:Int)(s0 sl:Option Addr)(L0_ c0_ L cap:Nat)(ns:List Int)(w:World)(hG:GP w)(ht:In t)(hns: ∀z∈ns,In z)(h12:ns.length<=12)(hW:Hid (∀u,Bw w u->CC 4 #[] u (.bool true)))(hFw:Hid (∀u,Bw w u->Calls Tryd.prog 5 #[.slice s0 L0_ c0_] u fun e u'=> ∃y,e= .returned y/\PNl ns u' y/\Bw u u'))(hAp:Hid (∀u,Bw w u->Calls Tryd.prog 8 #[.slice sl L cap,.int .i64 (ns.length:Int)] u fun e u'=> ∃y,e= .returned y/\PAp ns.length u' y/\Bw u u')):
 CC 3 #[.slice s0 L0_ c0_,.slice sl L cap,NV t] w (.bool true):=by
 go_enter Tryd.func3,Tryd.ntmps3
 go_upto_region 1 with fail
 generalize hC:(w.alloc (.cells (LN t:List Value).toArray 26))=v0 at *
 have HB0:Bw w v0:=by rw[<-hC];exact Z0 (Z2 w) _
 have K0:Bk w.heap.size v0 [(true,w.heap.size,LN t)]:=by rw[<-hC];exact(Bk.nil _ w).ad
 clear hC
 refine rgP K0 HB0 HB0.size [] [] [(0,13,.bool true),(1,14,.bool false)] [] [] [] ?_ ?_
 ·exact oc (g_cb Zx (fun uZ bZ=>hW.out uZ bZ))<|oc (g_un (fun uZ=>not_t uZ)) on
 intro u1 HB1 sz1 K1
 simp only[sQ] at K1⊢
 clear K0 HB0
 go_upto_region 3 with fail
 refine rgF K1 HB1 HB1.size [] [] [(0,15,.slice s0 L0_ c0_)] [(2,0)] [(2,0)] [⟨1,16,some 2,PNl ns⟩,⟨2,0,none,PNl ns⟩] [] (.cons (fun _ _ _ h1 h2=>h2.stab h1)<| .cons (fun _ _ _ h1 h2=>h2.stab h1)<|Stab.nil) ?_ ?_
 ·exact oc g_mv<|oc (g_cE 0 (PNl ns) Y8 (fun u hB hs=>hFw.out u hB))<|oc (g_sE 0 1 (PNl ns)) on
 intro u2 v2_1 hv2_1 v2_2 hv2_2 HB2 sz2 K2
 simp only[sQ] at K2⊢
 clear K1 HB1
 have hl0:=hv2_2 rfl
 have nl_0:NL u2 v2_2 ns:=hl0
 obtain⟨sa,ga,oa,ca,rfl,_⟩:=hl0
 have hT2:Bw w u2:=Z4 (Below.refl w.heap.size w) HB2
 have nl_2:NL u2 (.slice sa ns.length ca) ns:=nl_0
 have HBz2:Bw u2 u2:=Below.refl _ _
 by_cases hz:ns.length=0
 ·have hq:(((ns.length:Nat):Int)==0)=true:=by rw[beq_iff_eq];omega
  clear hz
  have K2_1:Bk u2.heap.size u2 [(false,w.heap.size,LN t)]:=⟨.c (K2.lt 0) (K2.cv 0)<|trivial,by simp⟩
  go_upto_region 4 with fail
  refine rgP K2_1 HBz2 HBz2.size [] [] [(0,17,.slice sa ns.length ca),(1,18,.int .i64 (ns.length:Int)),(2,19,.bool true)] [] [] [] ?_ ?_
  ·exact oc g_mv<|oc (g_ln Tryd.underlying22)<|oc (g_bn (fun uZ=>eql_i _ _ _ (ns.length:Int) 0 _ uZ hq)) on
  intro u3 HB3 sz3 K3
  simp only[sQ] at K3⊢
  go_upto_region 5 with fail
  refine rgP K3 HB3 HB3.size [] [] [(0,6,(Go.Value.bool Bool.true))] [] [] [] ?_ ?_
  ·exact oc g_as on
  intro u4 HB4 sz4 K4
  simp only[sQ] at K4⊢
  clear K3 HB3
  go_wp2
  exact bodyPost_ret (v:= .bool true) (by simp[results,Tryd.results3,go_sem]) rfl ⟨rfl,Z4 hT2 HB4⟩
 ·have hq:(((ns.length:Nat):Int)==0)=false:=by rw[beq_eq_false_iff_ne];omega
  have h1:1<=ns.length:=by omega
  clear hz
  have K2_1:Bk u2.heap.size u2 [(false,w.heap.size,LN t)]:=⟨.c (K2.lt 0) (K2.cv 0)<|trivial,by simp⟩
  go_upto_region 4 with fail
  refine rgP K2_1 HBz2 HBz2.size [] [] [(0,17,.slice sa ns.length ca),(1,18,.int .i64 (ns.length:Int)),(2,19,.bool false)] [] [] [] ?_ ?_
  ·exact oc g_mv<|oc (g_ln Tryd.underlying22)<|oc (g_bn (fun uZ=>eql_i _ _ _ (ns.length:Int) 0 _ uZ hq)) on
  intro u3 HB3 sz3 K3
  simp only[sQ] at K3⊢
  go_upto_region 6 with fail
  refine rgF K3 HB3 HB3.size [] [] [(0,21,NV 581039633),(1,22,.slice sa ns.length ca),(2,23,.slice sl L cap),(3,24,.slice sa ns.length ca),(4,25,.int .i64 (ns.length:Int)),(9,29,.int .i64 0),(11,8,.int .i64 0)] [] [] [⟨5,26,some 6,PAp ns.length⟩,⟨6,27,none,PSt u3.heap.size ns.length ns⟩,⟨7,20,none,PSt u3.heap.size ns.length ns⟩,⟨8,28,some 10,PSp u3.heap.size ns.length ns⟩,⟨10,7,none,PSp u3.heap.size ns.length ns⟩] [] (.cons (fun _ _ _ h1 h2=>h2.stab h1)<| .cons (fun _ _ _ h1 h2=>h2.stab h1)<| .cons (fun _ _ _ h1 h2=>h2.stab h1)<| .cons (fun _ _ _ h1 h2=>h2.stab h1)<| .cons (fun _ _ _ h1 h2=>h2.stab h1)<|Stab.nil) ?_ ?_
  ·exact oc (g_cl Za (fun uZ=>cOrder uZ))<|oc g_mv<|oc g_mv<|oc g_mv<|oc (g_ln Tryd.underlying22)<|oc (g_cE 0 (PAp ns.length) ent_Q2 (fun u hB hs=>hAp.out u (Z4 hT2 hB)))<|oc (g_cZ 0 1 (PAp ns.length) (PSt u3.heap.size ns.length ns) (fun y=>[NV 581039633,.slice sa ns.length ca,y]) ent_Q4 (fun u y bZ hs hy=>by obtain⟨out,h1',h2',h3'⟩:=hy;exact(cPoints OQ ns out _ y u ((hG.below hT2).below bZ) In_OQ (by decide) (nl_2.up bZ) hns h1 (by omega) h3' h2'.ok (by omega)).mono fun e u2 ⟨v,e1,k1,k2⟩=>⟨_,e1,⟨v,rfl,out,h1',h2',by obtain⟨b,q1,q2,q3⟩:=k1;exact⟨b,q1,Nat.le_trans hs q2,q3⟩⟩,k2⟩))<|oc (g_mE 1 2 (PSt u3.heap.size ns.length ns))<|oc (g_xE 2 3 (PSt u3.heap.size ns.length ns) (PSp u3.heap.size ns.length ns) (fun u v ⟨y,e,h⟩=>⟨_,y,e,rfl,h⟩))<|oc (g_xV 2 (PSt u3.heap.size ns.length ns) (fun u v ⟨y,e,h⟩=>⟨_,e,rfl⟩))<|oc (g_sE 3 4 (PSp u3.heap.size ns.length ns))<|oc g_as on
  intro u4 v4_5 hv4_5 v4_6 hv4_6 v4_7 hv4_7 v4_8 hv4_8 v4_10 hv4_10 HB4 sz4 K4
  simp only[sQ] at K4⊢
  clear K3 HB3
  obtain⟨out,hol,hap,hpr⟩:=hv4_10 rfl
  have hpl:=hpr.pl
  obtain⟨bp,rfl,_⟩:=hpr
  have hT4:Bw w u4:=Z4 hT2 HB4
  have nl_4:NL u4 (.slice sa ns.length ca) ns:=nl_2.up HB4
  have fp_4:PtL u4 (.slice (some ⟨bp,0,none⟩) (pts OQ ns out).length (pts OQ ns out).length) (pts OQ ns out):=hpl
  have HBz4:Bw u4 u4:=Below.refl _ _
  obtain⟨r,er⟩: ∃r,hoN OQ t ns ns.length=r:=⟨_,rfl⟩
  have ir:In r:=by rw[<-er];exact hoN_In In_OQ (by decide) _
  have K4_2:Bk u4.heap.size u4 [(false,w.heap.size,LN t)]:=⟨.c (K4.lt 0) (K4.cv 0)<|trivial,by simp⟩
  go_upto_region 7 with fail
  refine rgD K4_2 HBz4 HBz4.size [] [(7,9,L0s,some (8,LN r))] [(0,31,NV 581039633),(1,32,NV t),(2,33,.slice (some ⟨bp,0,none⟩) (pts OQ ns out).length (pts OQ ns out).length),(3,34,.tuple #[NV r,.int .i64 0]),(4,30,.tuple #[NV r,.int .i64 0]),(5,35,NV r),(6,36,.int .i64 0),(9,10,.int .i64 0)] [(8,7)] [] [] ?_ ?_
  ·exact oc (g_cl Za (fun uZ=>cOrder uZ))<|oc (g_ld 0 uN iN)<|oc g_mv<|oc (g_cb Y6 (fun uZ bZ=>by have h:=cShares ns out t _ uZ ((hG.below hT4).below bZ) ht hap hol.symm h1 h12 (fp_4.up bZ);rw[er] at h;exact h))<|oc g_mv<|oc g_ex<|oc g_ex<|oc (g_al 0 aN)<|oc (g_sn 0 iN)<|oc g_as on
  intro u5 b5_7 HB5 sz5 K5
  simp only[sQ] at K5⊢
  go_upto_region 8 with fail
  refine rgD K5 HB5 HB5.size [] [(7,11,L0s,some (8,LN r))] [(0,38,NV 581039633),(1,39,.slice sa ns.length ca),(2,40,NV t),(3,41,.tuple #[NV r,.int .i64 0]),(4,37,.tuple #[NV r,.int .i64 0]),(5,42,NV r),(6,43,.int .i64 0),(9,12,.int .i64 0)] [(8,7)] [] [] ?_ ?_
  ·exact oc (g_cl Za (fun uZ=>cOrder uZ))<|oc g_mv<|oc (g_ld 0 uN iN)<|oc (g_cb Yq (fun uZ bZ=>by have h:=cEval OQ t ns _ uZ ((hG.below hT4).below bZ) In_OQ (by decide) ht (nl_4.up bZ) hns h1 (by omega);rw[er] at h;exact h))<|oc g_mv<|oc g_ex<|oc g_ex<|oc (g_al 0 aN)<|oc (g_sn 0 iN)<|oc g_as on
  intro u6 b6_7 HB6 sz6 K6
  simp only[sQ] at K6⊢
  clear K5 HB5
  go_upto_region 9 with fail
  refine rgP K6 HB6 HB6.size [] [] [(0,44,.int .i64 0),(1,45,.bool true),(2,46,.bool true),(3,47,.int .i64 0),(4,48,.bool true),(5,49,.bool true),(6,50,.bool true),(7,51,.int .i64 0),(8,52,.bool true),(9,53,.bool true),(10,54,.bool true),(11,55,NV r),(12,56,NV r),(13,57,.bool true),(14,58,.bool true),(15,6,.bool true)] [] [] [] ?_ ?_
  ·exact oc g_mv<|oc (g_bn (fun uZ=>eql_i _ _ _ 0 0 _ uZ rfl))<|oc g_mv<|oc g_mv<|oc (g_bn (fun uZ=>eql_i _ _ _ 0 0 _ uZ rfl))<|oc g_pk<|oc g_mv<|oc g_mv<|oc (g_bn (fun uZ=>eql_i _ _ _ 0 0 _ uZ rfl))<|oc g_pk<|oc g_mv<|oc (g_ld 1 uN iN)<|oc (g_ld 2 uN iN)<|oc (g_bn (fun uZ=>eqb _ _ ir ir true (by simp) uZ))<|oc g_pk<|oc g_as on
  intro u7 HB7 sz7 K7
  simp only[sQ] at K7⊢
  clear K6 HB6
  go_wp2
  exact bodyPost_ret (v:= .bool true) (by simp[results,Tryd.results3,go_sem]) rfl ⟨rfl,Z4 hT4 HB7⟩
theorem cFewL(sl:Option Addr)(len cap gb go:Nat)(ns:List Int)(w:World)(n1:min len 12=ns.length)(n2:len<=cap)(n3:sl=none->cap=0)(n4:cap=0\/sl=some ⟨gb,go,none⟩)(n5:ns.length=0\/gb<w.heap.size)(n6:SN w gb go ns): ∀u,Bw w u->Calls Tryd.prog 5 #[.slice sl len cap] u fun e u'=> ∃y,e= .returned y/\PNl ns u' y/\Bw u u':=fun u hB=>
 few_core sl len cap ns.length gb go ns u (by omega) rfl (by omega) n2 n3 (by omega) (n4.imp (fun e=>by omega) id) (n5.imp id fun e=>Nat.lt_of_lt_of_le e hB.size) (n6.below2 hB n5)
theorem polyShares_any(t:Int)(s0 sl:Option Addr)(L0_ c0_ g0 o0 L cap gl ol:Nat)(f:Nat->Int)(ns:List Int)(w:World)(hG:GP w)(ht:In t)(hns: ∀z∈ns,In z)(n1:min L0_ 12=ns.length)(n2:L0_<=c0_)(n3:s0=none->c0_=0)(n4:c0_=0\/s0=some ⟨g0,o0,none⟩)(n5:ns.length=0\/g0<w.heap.size)(n6:SN w g0 o0 ns)(hL:L<=9223372036854775807)(hsl:0<L->sl=some ⟨gl,ol,none⟩/\gl<w.heap.size)(hc: ∀j,j<L->w.cell? ⟨gl,ol+j,none⟩=some (.int .i64 (f j)))(hf: ∀j,j<L-> -9223372036854775808<=f j/\f j<9223372036854775808):
 CC 3 #[.slice s0 L0_ c0_,.slice sl L cap,NV t] w (.bool true):=
 polyShares_core t s0 sl L0_ c0_ L cap ns w hG ht hns (by omega) (fun u hB=>cWorks u (hG.below hB)) (cFewL s0 L0_ c0_ g0 o0 ns w n1 n2 n3 n4 n5 n6) (cApart sl L cap gl ol ns.length f w (by omega) hL hsl hc hf)
end
end Go.Proofs.YtgieoghechekpaaDoor
