import Derived.Test.YtgieoghechekpaaGreatDoorAP9
import Derived.Test.YtgieoghechekpaaGreatDoorRows
import Derived.Test.YtgieoghechekpaaGreatDoorTie
import Derived.Test.YtgieoghechekpaaGreatDoorCards
import Derived.LaidMore
import Derived.SevenTiedAt
namespace Go.Proofs.YtgieoghechekpaaGreatDoor
set_option linter.unusedVariables false
set_option linter.unusedSimpArgs false
set_option maxRecDepth 100000
set_option maxHeartbeats 4000000
section
open Go.RowKit
theorem infoI:(Tryz.prog.info? 3).map (fun i=>(i.zero,i.size,i.bytes))=some (some (.int .i64 0),1,8):=by kernel_rfl
def iV(xs:List Int):List Value:=xs.map fun x=>.int .i64 x
theorem iV_len(xs:List Int):(iV xs).length=xs.length:=by simp[iV]
theorem bsI0(w:World):(Instr.buildSlice 26 0 #[]).run Tryz.prog w= .ok (.slice (some ⟨w.heap.size,0,none⟩) 0 0) (w.alloc (.cells #[] 3)):=by kernel_rfl
theorem il_row{u:World}{b m c:Nat}{out:List Int}{zs:List Value}(hb:b<u.heap.size)(h:CV u b (iV out++zs))(hm:out.length=m)(hc:m<=c):IL u (.slice (some ⟨b,0,none⟩) m c) out:=by
 subst hm
 refine⟨_,b,0,c,rfl,hc,(by simp),.inr rfl,.inr hb,fun j hj=>?_⟩
 rw[Nat.zero_add]
 exact(h j _ (by rw[List.getElem?_append_left (by rw[iV_len];exact hj)];simp[iV,List.getElem?_map,List.getElem?_eq_getElem hj])).1
theorem bsN0(w:World):(Instr.buildSlice 25 0 #[]).run Tryz.prog w= .ok (.slice (some ⟨w.heap.size,0,none⟩) 0 0) (w.alloc (.cells #[] 24)):=by kernel_rfl
theorem app_n0{u:World}{b m c:Nat}{sl:Option Addr}{gb go:Nat}{ns:List Int}{ty:TypeId}(hb:b<u.heap.size)(hc:CV u b [])(hm:ns.length=m)(hl:m<=100000)(hs:m=0\/sl=some ⟨gb,go,none⟩)(hS:SN u gb go ns):
 ∃v u',(Builtin.append_ #[25,25] ty #[.slice (some ⟨b,0,none⟩) 0 0,.slice sl m c]).run Tryz.prog u= .ok v u'/\Bw u u'/\(∃b2 c2,v= .slice (some ⟨b2,0,none⟩) m c2)/\NL u' v ns:=by
 obtain⟨ti,hti,htm⟩:=Option.map_eq_some_iff.1 infoNt
 simp only[Prod.mk.injEq] at htm
 obtain⟨hzv,hsz,hby⟩:=htm
 obtain⟨v',u',hr,hB,hg⟩:=run_appF (P:=Tryz.prog) u (ty:=ty) Tryz.underlying25 hti hzv (by rw[hsz];rfl) (lo:=0) (n:=0) (m:=m) (xs:=[]) (news:=flN ns) (y:= .slice sl m c) hc (Nat.zero_le _) (Nat.zero_le _) hb (by rw[hsz];rfl) ⟨sl,c,rfl,hs.imp id fun e=>⟨_,e,SN.news hS⟩⟩ (by rw[hsz,X9];omega) (by rw[hby];omega) (by omega)
 rw[hsz,List.nil_append,Nat.zero_add] at hg
 obtain⟨b2,c2,zs,rfl,h1,h2,h3,h4,h5⟩:=hg
 refine⟨_,u',hr,hB,⟨b2,c2,rfl⟩,⟨_,b2,0,c2,by rw[hm],by omega,(by simp),.inr rfl,.inr h2,fun j v hj=>?_⟩⟩
 rw[Nat.zero_add]
 exact(h5 j v (by rw[List.getElem?_append_left (List.getElem?_eq_some_iff.1 hj).1];exact hj)).1
theorem few_core(sl:Option Addr)(len cap m:Nat)(gb go:Nat)(ns:List Int)(w:World)(hm:min ((len:Nat):Int) 12=((m:Nat):Int))(hml:Hid (ns.length=m))(hmn:m<=len)(hlc:len<=cap)(hsn:sl=none->cap=0)(hm12:m<=12)(hs:Hid (m=0\/sl=some ⟨gb,go,none⟩))(hg:Hid (m=0\/gb<w.heap.size))(hS:Hid (SN w gb go ns)):
 Calls Tryz.prog 7 #[.slice sl len cap] w fun e u=> ∃y,e= .returned y/\NL u y ns/\Bw w u:=by
 have hbs:=bsN0
 have hsl:=slH sl len cap m hmn hlc hsn
 obtain⟨v',u',r,hB,⟨b2,c2,rfl⟩,hN⟩:=app_n0 (u:=w.alloc (.cells #[] 24)) (b:=w.heap.size) (m:=m) (c:=cap) (sl:=sl) (gb:=gb) (go:=go) (ns:=ns) (ty:=25) (by simp) (CV.new w [] 24) hml.out (by omega) hs.out (SN.below2 (m:=w.heap.size) hS.out (Z0 (Z1 w) _) (hg.out.imp (fun e=>hml.out.trans e) id))
 have hB2:Bw w u':=Z4 (Z0 (Z1 w) (.cells #[] 24)) hB
 have hN:Hid (NL u' (.slice (some ⟨b2,0,none⟩) m c2) ns):=hN
 clear hsn hB
 go_enter Tryz.func7,Tryz.ntmps7
 go_wp2_with (at_builtin;refine Zr rfl _ _ 25 rfl _ _ _ rfl rfl r ?_;clear r)
 exact bodyPost_ret (v:= .slice (some ⟨b2,0,none⟩) m c2) (by simp[results,Tryz.results7,go_sem]) rfl ⟨_,rfl,hN.out,hB2⟩
def PAp(N:Nat)(u:World)(v:Value):Prop:= ∃out:List Int,out.length=N/\Apart out/\IL u v out
theorem PAp.stab{N:Nat}{u u2:World}{x:Value}(hB:Bw u u2)(h:PAp N u x):PAp N u2 x:=by
 obtain⟨out,h1,h2,h3⟩:=h
 exact⟨out,h1,h2,h3.up hB⟩
theorem bsN1(x:Int)(w:World):(Instr.buildSlice 25 1 #[(0,NV x)]).run Tryz.prog w= .ok (.slice (some ⟨w.heap.size,0,none⟩) 1 1) (w.alloc (.cells (LN x:List Value).toArray 24)):=by kernel_rfl
theorem app_nn{u:World}{bo m co:Nat}{ns:List Int}{zs:List Value}{x:Int}{ty:TypeId}(hc:CV u bo (flN ns++zs))(hb:bo<u.heap.size)(hm:ns.length=m)(hmc:m<=co)(hz:zs.length=4*(co -m))(hl:m<=1000000):
 ∃v u',(Builtin.append_ #[25,25] ty #[.slice (some ⟨bo,0,none⟩) m co,.slice (some ⟨u.heap.size,0,none⟩) 1 1]).run Tryz.prog (u.alloc (.cells (LN x:List Value).toArray 24))= .ok v u'/\(u.alloc (.cells (LN x:List Value).toArray 24)).grownBy u' (some bo)/\PH (u.alloc (.cells (LN x:List Value).toArray 24)).heap.size bo 4 (m+1) (flN (ns++[x])) u' v:=by
 obtain⟨ti,hti,htm⟩:=Option.map_eq_some_iff.1 infoNt
 simp only[Prod.mk.injEq] at htm
 obtain⟨hzv,hsz,hby⟩:=htm
 have hss:u.heap.size<=(u.alloc (.cells (LN x:List Value).toArray 24)).heap.size:=by simp
 obtain⟨v',u',hr,hg,hp⟩:=run_app (P:=Tryz.prog) (u.alloc (.cells (LN x:List Value).toArray 24)) (ty:=ty) Tryz.underlying25 hti hzv (by rw[hsz];rfl) (base:=(u.alloc (.cells (LN x:List Value).toArray 24)).heap.size) (n:=m) (cap:=co) (m:=1) (news:=LN x) (y:= .slice (some ⟨u.heap.size,0,none⟩) 1 1) (hc.below (Z0 (Z1 u) _) hb) (Nat.lt_of_lt_of_le hb hss) (by rw[hsz,X9];omega) (by rw[hsz];omega) hmc (Nat.le_refl _) ⟨_,1,rfl,.inr ⟨_,rfl,fun j v hj=>by
  have:=(CV.new u (LN x) 24 j v hj).1
  rw[Addr.add0];exact this⟩⟩ (by rw[hsz];rfl) (fun v hv=>by simp at hv;rcases hv with h | h | h | h<;>(subst h;rfl)) (by rw[hby];omega) (by omega)
 rw[hsz] at hp
 rw[show flN ns++LN x=flN (ns++[x]) by rw[Y2];simp[flN]] at hp
 exact⟨v',u',hr,hg,hp⟩
theorem nl_row{u:World}{b m c:Nat}{ns:List Int}{zs:List Value}(hb:b<u.heap.size)(h:CV u b (flN ns++zs))(hm:ns.length=m)(hc:m<=c):NL u (.slice (some ⟨b,0,none⟩) m c) ns:=by
 subst hm
 refine⟨_,b,0,c,rfl,hc,(by simp),.inr rfl,.inr hb,fun j v hj=>?_⟩
 rw[Nat.zero_add]
 exact(h j v (by rw[List.getElem?_append_left (List.getElem?_eq_some_iff.1 hj).1];exact hj)).1
def PRt(lo:Nat)(ns:List Int)(u:World)(v:Value):Prop:= ∃y,v= .tuple #[y,.int .i64 0]/\PRw lo ns u y
theorem PRt.stab{lo:Nat}{ns:List Int}{u u2:World}{x:Value}(hB:Bw u u2)(h:PRt lo ns u x):PRt lo ns u2 x:=by
 obtain⟨y,e,h⟩:=h
 exact⟨y,e,h.stab hB⟩
theorem PRt.fst{lo:Nat}{ns:List Int}: ∀(u:World) (v:Value),PRt lo ns u v-> ∃cs y,v= .tuple cs/\cs[0]?=some y/\PRw lo ns u y:=fun u v ⟨y,e,h⟩=>⟨_,y,e,rfl,h⟩
theorem PRt.snd{lo:Nat}{ns:List Int}: ∀(u:World) (v:Value),PRt lo ns u v-> ∃cs,v= .tuple cs/\cs[1]?=some (.int .i64 0):=fun u v ⟨y,e,h⟩=>⟨_,e,rfl⟩
theorem Apart.In{xs:List Int}(h:Apart xs): ∀z∈xs,In z:=fun z hz=>⟨by have:=h.2 z hz;omega,by have:=h.2 z hz;omega⟩
theorem Ye:EnT 16:=fun _ _=>by kernel_rfl
end
section
open Go.ChangeShapes Go.WideShapes Go.ChangeAt Go.RowKit
theorem Tryz.cells24:Tryz.prog.cellsOf 24=4:=by kernel_rfl
theorem Tryz.cells22:Tryz.prog.cellsOf 22=1:=by kernel_rfl
theorem Zc{x:Int}(h:(Lit.int .u64 x).wf=true):W64 x:=by
 simp[Lit.wf,IntKind.min,IntKind.max,IntKind.signed,IntKind.bits] at h
 exact⟨by omega,by omega⟩
abbrev N4{H:Type}(a b c d:Int):DataW H:= .agg [.lit (.int .u64 a),.lit (.int .u64 b),.lit (.int .u64 c),.lit (.int .u64 d)]
theorem open_nat{H:Type}{enc:TypeId×Value->H}{W:World}{bs base:Nat}{sp:Nat->Bool}{held:Bool}{v:Value}{x:DataW H}{p:List MemPlace}
 (hv:Value.okWide Tryz.prog W .any base 24 v)(h:DataW.Trod enc Tryz.prog W bs sp held 24 v x p):
 ∃a b c d:Int,v=A4 a b c d/\x=N4 a b c d/\p=[]/\W64 a/\W64 b/\W64 c/\W64 d:=by
 obtain⟨cs,rfl,hsz,_⟩: ∃cs,v= .agg cs/\cs.size=Tryz.prog.cellsOf 24/\Row.okWide Tryz.prog W .any base 24 cs:=by
  simpa [Value.okWide,Tryz.underlying24] using hv
 rw[Tryz.cells24] at hsz
 obtain⟨c0,c1,c2,c3,rfl⟩:=Go.Joins.array4 hsz
 obtain⟨fuel,hf⟩:=h
 obtain⟨y0,y1,y2,y3,m,hx,hy0,hy1,hy2,hy3⟩:=trod_array4 Tryz.underlying24 Tryz.cells22 hf
 obtain⟨x0,e0,rfl,w0⟩:=DataW.trod_int Tryz.underlying22 hy0
 obtain⟨x1,e1,rfl,w1⟩:=DataW.trod_int Tryz.underlying22 hy1
 obtain⟨x2,e2,rfl,w2⟩:=DataW.trod_int Tryz.underlying22 hy2
 obtain⟨x3,e3,rfl,w3⟩:=DataW.trod_int Tryz.underlying22 hy3
 simp at e0 e1 e2 e3
 subst e0 e1 e2 e3
 simp only[Prod.mk.injEq] at hx
 obtain⟨rfl,rfl⟩:=hx
 exact⟨x0,x1,x2,x3,rfl,rfl,rfl,Zc w0,Zc w1,Zc w2,Zc w3⟩
section
section
variable {H:Type} {enc:TypeId×Value->H} {P:Program} {w:World} {base:Nat} {spare:Nat->Bool} {held:Bool}
theorem trodAll_five{t0 t1 t2 t3 t4:TypeId}{args:Array Value}{ds:List (DataW H)}{ps:List MemPlace}(h:DataW.TrodAll enc P w base spare held [t0,t1,t2,t3,t4] args.toList ds ps):
 ∃v0 v1 v2 v3 v4 d0 d1 d2 d3 d4 p0 p1 p2 p3 p4,args=#[v0,v1,v2,v3,v4]/\ds=[d0,d1,d2,d3,d4]/\ps=p0++(p1++(p2++(p3++p4)))/\DataW.Trod enc P w base spare held t0 v0 d0 p0/\DataW.Trod enc P w base spare held t1 v1 d1 p1/\DataW.Trod enc P w base spare held t2 v2 d2 p2/\DataW.Trod enc P w base spare held t3 v3 d3 p3/\DataW.Trod enc P w base spare held t4 v4 d4 p4:=by
 obtain⟨v0,r0,d0,e0,p0,q0,hargs,rfl,rfl,k0,h0⟩:=trodAll_cons h
 obtain⟨v1,r1,d1,e1,p1,q1,rfl,rfl,rfl,k1,h1⟩:=trodAll_cons h0
 obtain⟨v2,r2,d2,e2,p2,q2,rfl,rfl,rfl,k2,h2⟩:=trodAll_cons h1
 obtain⟨v3,r3,d3,e3,p3,q3,rfl,rfl,rfl,k3,h3⟩:=trodAll_cons h2
 obtain⟨v4,r4,d4,e4,p4,q4,rfl,rfl,rfl,k4,h4⟩:=trodAll_cons h3
 obtain⟨rfl,rfl,rfl⟩:=trodAll_nil h4
 exact⟨v0,v1,v2,v3,v4,d0,d1,d2,d3,d4,p0,p1,p2,p3,p4,by cases args;simp_all,rfl,by simp,k0,k1,k2,k3,k4⟩
theorem trodAll_mk5{t0 t1 t2 t3 t4:TypeId}{v0 v1 v2 v3 v4:Value}{d0 d1 d2 d3 d4:DataW H}{p0 p1 p2 p3 p4:List MemPlace}(h0:DataW.Trod enc P w base spare held t0 v0 d0 p0)(h1:DataW.Trod enc P w base spare held t1 v1 d1 p1)(h2:DataW.Trod enc P w base spare held t2 v2 d2 p2)(h3:DataW.Trod enc P w base spare held t3 v3 d3 p3)(h4:DataW.Trod enc P w base spare held t4 v4 d4 p4):
 DataW.TrodAll enc P w base spare held [t0,t1,t2,t3,t4] [v0,v1,v2,v3,v4] [d0,d1,d2,d3,d4] (p0++(p1++(p2++(p3++p4)))):=⟨p0,_,h0,trodAll_mk4 h1 h2 h3 h4,rfl⟩
end
end
theorem own4:ownKnob Tryz.prog.godebug=none:=by kernel_rfl
theorem laid4:laidOutB Tryz.prog=true:=by kernel_rfl
abbrev lstP:List (String×DataW Unit):=[("math/bits.deBruijn32tab",Rows.laid_math_bits_deBruijn32tab),("math/bits.deBruijn64tab",Rows.laid_math_bits_deBruijn64tab),("internal/strconv.uint64pow10",Rows.laid_internal_strconv_uint64pow10),("errors.errorType",Rows.laid_errors_errorType)]
theorem gEt:Tryz.prog.globalNamed "errors.errorType" =some 0:=by kernel_rfl
theorem rtW:(Tryz.prog.cutTypes.find? (·.1== "internal/reflectlite.rtype")).map (·.2)=some 130:=by kernel_rfl
theorem szW:Tryz.prog.types.size=203:=by kernel_rfl
theorem oneW:((List.range 203).filter fun t=>Tryz.prog.rowNamed t [101,114,114,111,114])=[63]:=by kernel_rfl
theorem tPow:(Tryz.prog.globals[1]?).map (·.type)=some 164:=by kernel_rfl
theorem powIs:(Rows.laid_internal_strconv_uint64pow10:DataW Unit)=Lib.tabData .u64 Lib.pow10Tab:=by kernel_rfl
theorem of_laidP{W:World}(h:laidMetH Tryz.prog lstP W):GP W:=by
 have h':laidMet Tryz.prog [("math/bits.deBruijn32tab",Rows.laid_math_bits_deBruijn32tab),("math/bits.deBruijn64tab",Rows.laid_math_bits_deBruijn64tab),("internal/strconv.uint64pow10",Rows.laid_internal_strconv_uint64pow10)] W/\handlesMet Tryz.prog [("errors.errorType",Rows.laid_errors_errorType)] W:=h
 obtain⟨hd,hh⟩:=h'
 obtain⟨ps,⟨g0,t0,cs0,f0,p0,q0,hg0,ht0,hv0,hd0,⟨g1,t1,cs1,f1,p1,q1,hg1,ht1,hv1,hd1,⟨g2,t2,cs2,f2,p2,q2,hg2,ht2,hv2,hd2,_,_⟩,_⟩,_⟩,_,_⟩:=hd
 obtain rfl:=Option.some.inj (gPow.symm.trans hg2)
 obtain rfl:=Option.some.inj (tPow.symm.trans ht2)
 rw[powIs] at hd2
 have htab:Lib.TabIs Tryz.prog W "internal/strconv.uint64pow10" .u64 Lib.pow10Tab:=by
  unfold Lib.TabIs
  rw[hv2,<-Lib.cells_of_tab Tryz.underlying164 Tryz.underlying22 (by kernel_rfl) (by kernel_rfl) hd2]
 obtain⟨name,u,ty,e1,e2,e3,e4,e5⟩:=hh _ (List.mem_singleton.2 rfl)
 have en:name=[101,114,114,111,114]:=(Option.some.inj e1).symm
 subst en
 obtain rfl:=Option.some.inj (rtW.symm.trans e2)
 have hm:ty∈(List.range 203).filter fun t=>Tryz.prog.rowNamed t [101,114,114,111,114]:=List.mem_filter.2 ⟨List.mem_range.2 (by rw[<-szW];exact e3),e4⟩
 rw[oneW] at hm
 obtain rfl:=List.mem_singleton.1 hm
 have hth:typeHandle Tryz.prog 63= .pointer (some ⟨6,63,none⟩):=by kernel_rfl
 rw[hth] at e5
 have hc:W.cell? ⟨0,0,none⟩=some (.iface 130 (.agg #[.pointer (some ⟨6,63,none⟩)])):=by simpa using World.var?_cell gEt e5 0
 have hc2:=htab.cell gPow 0 (by rw[Lib.pow10Tab_length];omega)
 exact⟨World.block_lt_of_cell? W _ hc2,htab,hc⟩
theorem doorP(os:Go.Os)(args:Array Value):laidMetH Tryz.prog lstP ((World.doorLaid Tryz.prog 400 os).forCall (fun _ _=>0) ⟨#[],args,[]⟩).memory:=
 laidMetH_of_parts3 (fuel:=8) (laidMet_of_run' 8 (by kernel_rfl) (by kernel_rfl)) (by kernel_rfl) (by kernel_rfl)
theorem list_ofP{p:Nat->Int->Prop}: ∀n,(∀i,i<n-> ∃z,p i z)-> ∃ns:List Int,ns.length=n/\ ∀i,i<n->p i (ns.getD i 0)
 | 0,_=>⟨[],rfl,fun i hi=>by omega⟩
 | n+1,h=>by
  obtain⟨ns,hl,hp⟩:=list_ofP n (fun i hi=>h i (by omega))
  obtain⟨z,hz⟩:=h n (by omega)
  refine⟨ns++[z],by simp[hl],fun i hi=>?_⟩
  by_cases e:i=n
  ·subst e
   have:(ns++[z]).getD i 0=z:=by rw[<-hl];simp
   rw[this];exact hz
  ·have:(ns++[z]).getD i 0=ns.getD i 0:=by simp[List.getElem?_append_left (show i<ns.length by omega)]
   rw[this];exact hp i (by omega)
theorem flN_atg: ∀(ns:List Int) (j:Nat) (v:Value),(flN ns)[j]?=some v->j/4<ns.length/\(LN (ns.getD (j/4) 0))[j%4]?=some v
 | [],j,v,h=>by simp[flN] at h
 | n::r,j,v,h=>by
  rw[flN] at h
  by_cases hj:j<4
  ·rw[List.getElem?_append_left (by show j<4;exact hj)] at h
   rw[show j/4=0 by omega,show j%4=j by omega]
   exact⟨by simp,by simpa using h⟩
  ·rw[List.getElem?_append_right (by show 4<=j;omega)] at h
   have h:(flN r)[j -4]?=some v:=h
   have:=flN_atg r (j -4) v h
   rw[show j/4=(j -4)/4+1 by omega,show j%4=(j -4)%4 by omega]
   exact⟨by simpa using this.1,by simpa using this.2⟩
theorem SN.of{w:World}{g o:Nat}{ns:List Int}(h: ∀i,i<ns.length-> ∀c v,(LN (ns.getD i 0))[c]?=some v->w.cell? ⟨g,o+(i*4+c),none⟩=some v):SN w g o ns:=fun j v hj=>by
 obtain⟨h1,h2⟩:=flN_atg ns j v hj
 have:=h _ h1 _ v h2
 rwa [show j/4*4+j%4=j by omega] at this
theorem row_nat{H:Type}{enc:TypeId×Value->H}{W:World}{bs fuel base:Nat}{sp:Nat->Bool}{held:Bool}{a:Addr}{cs:List Value}{x:DataW H×List MemPlace}(h1:W.cells? base a 4=some cs)(h:DataW.trod enc Tryz.prog W bs sp held fuel 24 cs=some x):
 ∃z,In z/\ ∀c v,(LN z)[c]?=some v->W.cell? (a.add c)=some v:=by
 obtain⟨_,hl,hc⟩:=World.cells?_some h1
 match cs,hl,hc,h with
 | [c0,c1,c2,c3],hl,hc,h=>
  obtain⟨y0,y1,y2,y3,m,hx,hy0,hy1,hy2,hy3⟩:=trod_array4 Tryz.underlying24 Tryz.cells22 h
  obtain⟨x0,e0,rfl,w0⟩:=DataW.trod_int Tryz.underlying22 hy0
  obtain⟨x1,e1,rfl,w1⟩:=DataW.trod_int Tryz.underlying22 hy1
  obtain⟨x2,e2,rfl,w2⟩:=DataW.trod_int Tryz.underlying22 hy2
  obtain⟨x3,e3,rfl,w3⟩:=DataW.trod_int Tryz.underlying22 hy3
  simp at e0 e1 e2 e3
  subst e0 e1 e2 e3
  refine⟨V x0 x1 x2 x3,In_V (Zc w0) (Zc w1) (Zc w2) (Zc w3),fun c v hv=>?_⟩
  have hL:LN (V x0 x1 x2 x3)=[.int .u64 x0,.int .u64 x1,.int .u64 x2,.int .u64 x3]:=by
   have:=NV_V (Zc w0) (Zc w1) (Zc w2) (Zc w3)
   unfold NV A4 at this
   injection this with this
   have:=congrArg Array.toList this
   simpa using this
  rw[hL] at hv
  have hlt:c<4:=by have:=(List.getElem?_eq_some_iff.1 hv).1;simpa using this
  rw[hc c hlt];exact hv
theorem open_nats(L:Nat){H:Type}{enc:TypeId×Value->H}{W:World}{base:Nat}{v0:Value}{x:DataW H}{p:List MemPlace}(hv:Value.okWide Tryz.prog W .any base 25 v0)(h:DataW.Trod enc Tryz.prog W 0 (fun _=>true) true 25 v0 x p):
 ∃sl len cap gb go,∃ns:List Int,v0= .slice sl len cap/\(min len L)=ns.length/\len<=cap/\(sl=none->cap=0)/\(cap=0\/sl=some ⟨gb,go,none⟩)/\(ns.length=0\/gb<W.heap.size)/\SN W gb go ns/\ ∀z∈ns,In z:=by
 obtain⟨a0,len,cap,rfl⟩:=okWide_slice Tryz.underlying25 hv
 obtain⟨fuel,hf⟩:=h
 rcases Go.Deep.open_slice Tryz.underlying25 hf with⟨hcs,hx⟩ | ⟨ad,len',cap',m,n,D,Pl,hcs,hbs,hl,hm,hmm,hx,hall⟩
 ·simp[Value.cells] at hcs
  obtain⟨rfl,rfl,rfl⟩:=hcs
  exact⟨_,_,_,0,0,[],rfl,by simp,Nat.le_refl _,fun _=>rfl,.inl rfl,.inl rfl,SN.empty rfl,fun z hz=>(by cases hz)⟩
 ·simp[Value.cells] at hcs
  obtain⟨rfl,rfl,rfl⟩:=hcs
  simp only[if_true] at hmm
  by_cases h0:cap=0
  ·subst h0
   have e:len=0:=by omega
   subst e
   exact⟨_,_,_,0,0,[],rfl,by simp,Nat.le_refl _,fun _=>rfl,.inl rfl,.inl rfl,SN.empty rfl,fun z hz=>(by cases hz)⟩
  ·have hrow: ∀i,i<cap-> ∃z,In z/\ ∀c v,(LN z)[c]?=some v->W.cell? ((ad.add (i*4)).add c)=some v:=fun i hi=>by
    obtain⟨cs,k1,k2⟩:=hall i (by rw[hmm];exact hi)
    rw[Tryz.cells24] at k1
    exact row_nat k1 k2
   obtain⟨gb,go,spot⟩:=ad
   have hspot:spot=none:=by
    obtain⟨z,_,hz⟩:=hrow 0 (by omega)
    have:=hz 0 _ rfl
    simpa [Addr.add] using World.cell?_spot this
   subst hspot
   have hadd: ∀i c:Nat,((⟨gb,go,none⟩:Addr).add (i*4)).add c=⟨gb,go+(i*4+c),none⟩:=fun i c=>by unfold Addr.add;(repeat' split)<;>simp_all<;>omega
   obtain⟨ns,hnl,hnp⟩:=list_ofP (min len L) (fun i hi=>hrow i (by omega))
   have hblk:gb<W.heap.size:=by
    obtain⟨z,_,hz⟩:=hrow 0 (by omega)
    have:=hz 0 _ rfl
    rw[hadd] at this
    exact World.block_lt_of_cell? W _ this
   refine⟨_,_,_,gb,go,ns,rfl,hnl.symm,hl,fun e=>(by cases e),.inr rfl,.inr hblk,SN.of (fun i hi c v hv=>?_),fun z hz=>?_⟩
   ·have:=(hnp i (by omega)).2 c v hv
    rwa [hadd] at this
   ·obtain⟨j,hj,rfl⟩:=List.mem_iff_getElem.1 hz
    have:=(hnp j (by omega)).1
    simpa [List.getElem?_eq_getElem hj] using this
theorem cellsI:Tryz.prog.cellsOf 3=1:=by kernel_rfl
theorem open_ints{H:Type}{enc:TypeId×Value->H}{W:World}{base:Nat}{v:Value}{x:DataW H}{p:List MemPlace}(hv:Value.okWide Tryz.prog W .any base 26 v)(h:DataW.Trod enc Tryz.prog W 0 (fun _=>true) true 26 v x p):
 ∃sl len cap gb go,∃f:Nat->Int,v= .slice sl len cap/\len<=9223372036854775807/\len<=cap/\(sl=none->cap=0)/\(0<len->sl=some ⟨gb,go,none⟩/\gb<W.heap.size)/\(∀j,j<len->W.cell? ⟨gb,go+j,none⟩=some (.int .i64 (f j)))/\ ∀j,j<len-> -9223372036854775808<=f j/\f j<9223372036854775808:=by
 obtain⟨a0,len,cap,rfl⟩:=okWide_slice Tryz.underlying26 hv
 obtain⟨fuel,hf⟩:=h
 rcases Go.Deep.open_slice1 Tryz.underlying26 cellsI hf with⟨hcs,hx⟩ | ⟨ad,len',cap',m,n,V,D,Pl,hcs,hbs,hl,hm,hmm,hx,hall⟩
 ·simp[Value.cells] at hcs
  obtain⟨rfl,rfl,rfl⟩:=hcs
  exact⟨_,_,_,0,0,fun _=>0,rfl,by omega,Nat.le_refl _,fun _=>rfl,fun h=>by omega,fun j hj=>by omega,fun j hj=>by omega⟩
 ·simp[Value.cells] at hcs
  obtain⟨rfl,rfl,rfl⟩:=hcs
  simp only[if_true] at hmm
  by_cases h0:len=0
  ·subst h0
   exact⟨_,_,_,0,0,fun _=>0,rfl,by omega,by omega,fun e=>(by cases e),fun h=>by omega,fun j hj=>by omega,fun j hj=>by omega⟩
  ·have hrow: ∀i,i<cap-> ∃k:Int,(-9223372036854775808<=k/\k<9223372036854775808)/\W.cell? (ad.add i)=some (.int .i64 k):=fun i hi=>by
    obtain⟨k1,k2⟩:=hall i (by omega)
    obtain⟨k,e1,e2,e3⟩:=DataW.trod_int Tryz.underlying3 k2
    simp at e1
    refine⟨k,?_,?_⟩
    ·simp[Lit.wf,IntKind.min,IntKind.max,IntKind.signed,IntKind.bits] at e3
     omega
    ·rw[k1,e1]
   obtain⟨gb,go,spot⟩:=ad
   have hspot:spot=none:=by
    obtain⟨z,_,hz⟩:=hrow 0 (by omega)
    simpa [Addr.add] using World.cell?_spot hz
   subst hspot
   have hadd: ∀i:Nat,((⟨gb,go,none⟩:Addr).add i)=⟨gb,go+i,none⟩:=fun i=>by unfold Addr.add;(repeat' split)<;>simp_all
   obtain⟨ns,hnl,hnp⟩:=list_ofP len (fun i hi=>hrow i (by omega))
   have hblk:gb<W.heap.size:=by
    obtain⟨z,_,hz⟩:=hrow 0 (by omega)
    rw[hadd] at hz
    exact World.block_lt_of_cell? W _ hz
   exact⟨_,_,_,gb,go,fun j=>ns.getD j 0,rfl,(by have:=Nat.le_trans hl hm;simpa [maxLen] using this),hl,fun e=>(by cases e),fun _=>⟨rfl,hblk⟩,fun j hj=>by have:=(hnp j hj).2;rwa [hadd] at this,fun j hj=>(hnp j hj).1⟩
end
section
open Go.RowKit
theorem AE.tr{w:World}{x:Value}(h:AE true w x): ∃T z,x= .iface T z:=h.elim (fun h=>by cases h.1) fun⟨_,d,h⟩=>h.some
set_option maxHeartbeats 8000000 in
theorem eval_err(q x:Int)(sl:Option Addr)(n cap:Nat)(w:World)(hP:Hid (∀u,Bw w u->Calls Tryz.prog 27 #[NV q,.slice sl n cap] u fun e u'=> ∃y,e= .returned y/\AE true u' y/\Bw u u'))(hT:Hid (∀u y,Bw w u->AE true u y->CC 28 #[y] u (.int .i64 2))):
 CC 8 #[NV q,.slice sl n cap,NV x] w (.tuple #[A4 0 0 0 0,.int .i64 2]):=by
 go_enter Tryz.func8,Tryz.ntmps8
 go_upto_region 1 with fail
 generalize e2:((w.alloc (.cells (LN q:List Value).toArray 24)).alloc (.cells (LN x:List Value).toArray 24)).alloc (.cells (L0s:List Value).toArray 24)=w2 at *
 have hB2:Bw w w2:=by rw[<-e2];exact Z0 (Z0 (Z0 (Z1 w) _) _) _
 have hs2:w2.heap.size=w.heap.size+3:=by rw[<-e2];simp
 have KQ:CV w2 w.heap.size (LN q):=by rw[<-e2];exact((CV.new w (LN q) 24).below (Z0 (Z1 _) _) (by simp)).below (Z0 (Z1 _) _) (by simp;omega)
 have KR:CV w2 (w.heap.size+2) L0s:=by rw[<-e2];exact CV.newAt _ _ _ _ (by simp)
 clear e2
 have a0:=(KQ 0 _ rfl).1
 have a1:=(KQ 1 _ rfl).1
 have a2:=(KQ 2 _ rfl).1
 have a3:=(KQ 3 _ rfl).1
 have KR:Hid (CV w2 (w.heap.size+2) L0s):=KR
 clear KQ
 have hP:=hP.out w2 hB2
 go_wp2_with (first
  | (go_at_call 27;refine hP.mono ?_;clear hP a0 a1 a2 a3;rintro e ua ⟨y,rfl,hy,hBa⟩;replace KR:Hid (CV ua (w.heap.size+2) L0s):=CV.below KR.out hBa (by omega);have hsa:=hBa.size;replace hBa:=Z4 hB2 hBa;replace hT:=hT.out ua y hBa hy;obtain⟨T0,z0,rfl⟩:=hy.tr)
  | (go_at_call 28;refine hT.mono ?_;clear hT;rintro e ub ⟨rfl,hBb⟩;have KR:=CV.below KR.out hBb (by omega);have r0:=KR 0 _ rfl;have r1:=KR 1 _ rfl;have r2:=KR 2 _ rfl;have r3:=KR 3 _ rfl;obtain⟨r0,f0⟩:=r0;obtain⟨r1,f1⟩:=r1;obtain⟨r2,f2⟩:=r2;obtain⟨r3,f3⟩:=r3;replace hBb:=Z4 hBa hBb))
 exact bodyPost_ret (v:= .tuple #[A4 0 0 0 0,.int .i64 2]) (by simp[results,Tryz.results8,go_sem,r0,r1,r2,r3]) rfl ⟨rfl,(((hBb.setCell (by simp;omega) _).setCell (by simp;omega) _).setCell (by simp;omega) _).setCell (by simp;omega) _⟩
set_option maxHeartbeats 8000000 in
theorem points_e01(q:Int)(sl si:Option Addr)(n cap m ci:Nat)(w:World)(hP:Hid (∀u,Bw w u->Calls Tryz.prog 27 #[NV q,.slice sl n cap] u fun e u'=> ∃y,e= .returned y/\AE false u' y/\Bw u u'))(hL:Hid (∀u,Bw w u->Calls Tryz.prog 34 #[.slice si m ci] u fun e u'=> ∃y,e= .returned y/\AE true u' y/\Bw u u'))(hT:Hid (∀u y,Bw w u->AE true u y->CC 28 #[y] u (.int .i64 2))):
 CC 10 #[NV q,.slice sl n cap,.slice si m ci] w (.tuple #[.slice none 0 0,.int .i64 2]):=by
 have hB0:Bw w (w.alloc (.cells (LN q:List Value).toArray 24)):=Z0 (Z1 w) _
 go_enter Tryz.func10,Tryz.ntmps10
 go_wp2_with (first
  | (go_at_call 27;refine(hP.out _ hB0).mono ?_;clear hP;rintro e ua ⟨y0,rfl,hy0,hBa⟩;replace hBa:=Z4 hB0 hBa;clear hB0;replace hL:=hL.out ua hBa;obtain rfl:=hy0.no)
  | (go_at_call 34;refine hL.mono ?_;clear hL;rintro e ub ⟨y1,rfl,hy1,hBb⟩;obtain⟨T1,z1,rfl⟩:=hy1.tr;replace hy0:=hy0.up hBb;replace hBb:=Z4 hBa hBb;clear hBa)
  | (go_at_call 33;refine(Y5 ub.heap.size 2 (.nilIface) (.iface T1 z1) false true (ub.alloc (.cells #[.nilIface,.iface T1 z1] 63)) (by simp) (by simp) (by simp) (hy0.up (Z0 (Z1 ub) _)) (hy1.up (Z0 (Z1 ub) _))).mono ?_;clear hy0 hy1;rintro e uc ⟨y2,rfl,hy2,hBc⟩;replace hBc:=Z4 (Z0 hBb (.cells #[.nilIface,.iface T1 z1] 63)) hBc;replace hT:=hT.out uc y2 hBc hy2;obtain⟨T2,z2,rfl⟩:=AE.tr hy2)
  | (go_at_call 28;refine hT.mono ?_;clear hT;rintro e ud ⟨rfl,hBd⟩;replace hBd:=Z4 hBc hBd))
 exact bodyPost_ret (v:= .tuple #[.slice none 0 0,.int .i64 2]) (by simp[results,Tryz.results10,go_sem]) rfl ⟨rfl,hBd⟩
set_option maxHeartbeats 8000000 in
theorem add_e01(q:Int)(sl sb:Option Addr)(n cap m cb:Nat)(w:World)(hP:Hid (∀u,Bw w u->Calls Tryz.prog 27 #[NV q,.slice sl n cap] u fun e u'=> ∃y,e= .returned y/\AE false u' y/\Bw u u'))(hL:Hid (∀u,Bw w u->Calls Tryz.prog 27 #[NV q,.slice sb m cb] u fun e u'=> ∃y,e= .returned y/\AE true u' y/\Bw u u'))(hT:Hid (∀u y,Bw w u->AE true u y->CC 28 #[y] u (.int .i64 2))):
 CC 13 #[NV q,.slice sl n cap,.slice sb m cb] w (.tuple #[.slice none 0 0,.int .i64 2]):=by
 go_enter Tryz.func13,Tryz.ntmps13
 go_upto_region 1 with fail
 generalize e2:w.alloc (.cells (LN q:List Value).toArray 24)=w2 at *
 have hB2:Bw w w2:=by rw[<-e2];exact Z0 (Z1 w) _
 have hs2:w2.heap.size=w.heap.size+1:=by rw[<-e2];simp
 have KQ:CV w2 w.heap.size (LN q):=by rw[<-e2];exact CV.new w (LN q) 24
 clear e2
 have a0:=(KQ 0 _ rfl).1
 have a1:=(KQ 1 _ rfl).1
 have a2:=(KQ 2 _ rfl).1
 have a3:=(KQ 3 _ rfl).1
 have KQ:Hid (CV w2 w.heap.size (LN q)):=KQ
 go_region_with (first
  | (go_at_call 27;refine(hP.out w2.drew hB2.drew).mono ?_;clear hP a0 a1 a2 a3;rintro e ua ⟨y0,rfl,hy0,hBa⟩;replace KQ:Hid (CV ua w.heap.size (LN q)):=CV.below (CV.drew KQ.out) hBa (by first | omega | (simp<;>omega));replace hBa:=Z4 hB2.drew hBa;replace hL:=hL.out ua hBa;obtain rfl:=hy0.no;have a0:=(KQ.out 0 _ rfl).1;have a1:=(KQ.out 1 _ rfl).1;have a2:=(KQ.out 2 _ rfl).1;have a3:=(KQ.out 3 _ rfl).1)
  | (go_at_call 27;refine hL.mono ?_;clear hL a0 a1 a2 a3;rintro e ub ⟨y1,rfl,hy1,hBb⟩;obtain⟨T1,z1,rfl⟩:=hy1.tr;replace hy0:=hy0.up hBb;replace hBb:=Z4 hBa hBb)
  | (go_at_call 33;refine(Y5 ub.heap.size 2 (.nilIface) (.iface T1 z1) false true (ub.alloc (.cells #[.nilIface,.iface T1 z1] 63)) (by simp) (by simp) (by simp) (hy0.up (Z0 (Z1 ub) _)) (hy1.up (Z0 (Z1 ub) _))).mono ?_;clear hy0 hy1;rintro e uc ⟨y2,rfl,hy2,hBc⟩;replace hBc:=Z4 (Z0 hBb (.cells #[.nilIface,.iface T1 z1] 63)) hBc;replace hT:=hT.out uc y2 hBc hy2;obtain⟨T2,z2,rfl⟩:=AE.tr hy2))
 all_goals
  go_wp2_with (go_at_call 28;refine hT.mono ?_;clear hT;rintro e ud ⟨rfl,hBd⟩;replace hBd:=Z4 hBc hBd)
  exact bodyPost_ret (v:= .tuple #[.slice none 0 0,.int .i64 2]) (by simp[results,Tryz.results13,go_sem]) rfl ⟨rfl,hBd⟩
set_option maxHeartbeats 8000000 in
theorem points_e10(q:Int)(sl si:Option Addr)(n cap m ci:Nat)(w:World)(hP:Hid (∀u,Bw w u->Calls Tryz.prog 27 #[NV q,.slice sl n cap] u fun e u'=> ∃y,e= .returned y/\AE true u' y/\Bw u u'))(hL:Hid (∀u,Bw w u->Calls Tryz.prog 34 #[.slice si m ci] u fun e u'=> ∃y,e= .returned y/\AE false u' y/\Bw u u'))(hT:Hid (∀u y,Bw w u->AE true u y->CC 28 #[y] u (.int .i64 2))):
 CC 10 #[NV q,.slice sl n cap,.slice si m ci] w (.tuple #[.slice none 0 0,.int .i64 2]):=by
 have hB0:Bw w (w.alloc (.cells (LN q:List Value).toArray 24)):=Z0 (Z1 w) _
 go_enter Tryz.func10,Tryz.ntmps10
 go_wp2_with (first
  | (go_at_call 27;refine(hP.out _ hB0).mono ?_;clear hP;rintro e ua ⟨y0,rfl,hy0,hBa⟩;replace hBa:=Z4 hB0 hBa;clear hB0;replace hL:=hL.out ua hBa;obtain⟨T0,z0,rfl⟩:=hy0.tr)
  | (go_at_call 34;refine hL.mono ?_;clear hL;rintro e ub ⟨y1,rfl,hy1,hBb⟩;obtain rfl:=hy1.no;replace hy0:=hy0.up hBb;replace hBb:=Z4 hBa hBb;clear hBa)
  | (go_at_call 33;refine(Y5 ub.heap.size 2 (.iface T0 z0) (.nilIface) true false (ub.alloc (.cells #[.iface T0 z0,.nilIface] 63)) (by simp) (by simp) (by simp) (hy0.up (Z0 (Z1 ub) _)) (hy1.up (Z0 (Z1 ub) _))).mono ?_;clear hy0 hy1;rintro e uc ⟨y2,rfl,hy2,hBc⟩;replace hBc:=Z4 (Z0 hBb (.cells #[.iface T0 z0,.nilIface] 63)) hBc;replace hT:=hT.out uc y2 hBc hy2;obtain⟨T2,z2,rfl⟩:=AE.tr hy2)
  | (go_at_call 28;refine hT.mono ?_;clear hT;rintro e ud ⟨rfl,hBd⟩;replace hBd:=Z4 hBc hBd))
 exact bodyPost_ret (v:= .tuple #[.slice none 0 0,.int .i64 2]) (by simp[results,Tryz.results10,go_sem]) rfl ⟨rfl,hBd⟩
set_option maxHeartbeats 8000000 in
theorem add_e10(q:Int)(sl sb:Option Addr)(n cap m cb:Nat)(w:World)(hP:Hid (∀u,Bw w u->Calls Tryz.prog 27 #[NV q,.slice sl n cap] u fun e u'=> ∃y,e= .returned y/\AE true u' y/\Bw u u'))(hL:Hid (∀u,Bw w u->Calls Tryz.prog 27 #[NV q,.slice sb m cb] u fun e u'=> ∃y,e= .returned y/\AE false u' y/\Bw u u'))(hT:Hid (∀u y,Bw w u->AE true u y->CC 28 #[y] u (.int .i64 2))):
 CC 13 #[NV q,.slice sl n cap,.slice sb m cb] w (.tuple #[.slice none 0 0,.int .i64 2]):=by
 go_enter Tryz.func13,Tryz.ntmps13
 go_upto_region 1 with fail
 generalize e2:w.alloc (.cells (LN q:List Value).toArray 24)=w2 at *
 have hB2:Bw w w2:=by rw[<-e2];exact Z0 (Z1 w) _
 have hs2:w2.heap.size=w.heap.size+1:=by rw[<-e2];simp
 have KQ:CV w2 w.heap.size (LN q):=by rw[<-e2];exact CV.new w (LN q) 24
 clear e2
 have a0:=(KQ 0 _ rfl).1
 have a1:=(KQ 1 _ rfl).1
 have a2:=(KQ 2 _ rfl).1
 have a3:=(KQ 3 _ rfl).1
 have KQ:Hid (CV w2 w.heap.size (LN q)):=KQ
 go_region_with (first
  | (go_at_call 27;refine(hP.out w2.drew hB2.drew).mono ?_;clear hP a0 a1 a2 a3;rintro e ua ⟨y0,rfl,hy0,hBa⟩;replace KQ:Hid (CV ua w.heap.size (LN q)):=CV.below (CV.drew KQ.out) hBa (by first | omega | (simp<;>omega));replace hBa:=Z4 hB2.drew hBa;replace hL:=hL.out ua hBa;obtain⟨T0,z0,rfl⟩:=hy0.tr;have a0:=(KQ.out 0 _ rfl).1;have a1:=(KQ.out 1 _ rfl).1;have a2:=(KQ.out 2 _ rfl).1;have a3:=(KQ.out 3 _ rfl).1)
  | (go_at_call 27;refine hL.mono ?_;clear hL a0 a1 a2 a3;rintro e ub ⟨y1,rfl,hy1,hBb⟩;obtain rfl:=hy1.no;replace hy0:=hy0.up hBb;replace hBb:=Z4 hBa hBb)
  | (go_at_call 33;refine(Y5 ub.heap.size 2 (.iface T0 z0) (.nilIface) true false (ub.alloc (.cells #[.iface T0 z0,.nilIface] 63)) (by simp) (by simp) (by simp) (hy0.up (Z0 (Z1 ub) _)) (hy1.up (Z0 (Z1 ub) _))).mono ?_;clear hy0 hy1;rintro e uc ⟨y2,rfl,hy2,hBc⟩;replace hBc:=Z4 (Z0 hBb (.cells #[.iface T0 z0,.nilIface] 63)) hBc;replace hT:=hT.out uc y2 hBc hy2;obtain⟨T2,z2,rfl⟩:=AE.tr hy2))
 all_goals
  go_wp2_with (go_at_call 28;refine hT.mono ?_;clear hT;rintro e ud ⟨rfl,hBd⟩;replace hBd:=Z4 hBc hBd)
  exact bodyPost_ret (v:= .tuple #[.slice none 0 0,.int .i64 2]) (by simp[results,Tryz.results13,go_sem]) rfl ⟨rfl,hBd⟩
set_option maxHeartbeats 8000000 in
theorem points_e11(q:Int)(sl si:Option Addr)(n cap m ci:Nat)(w:World)(hP:Hid (∀u,Bw w u->Calls Tryz.prog 27 #[NV q,.slice sl n cap] u fun e u'=> ∃y,e= .returned y/\AE true u' y/\Bw u u'))(hL:Hid (∀u,Bw w u->Calls Tryz.prog 34 #[.slice si m ci] u fun e u'=> ∃y,e= .returned y/\AE true u' y/\Bw u u'))(hT:Hid (∀u y,Bw w u->AE true u y->CC 28 #[y] u (.int .i64 2))):
 CC 10 #[NV q,.slice sl n cap,.slice si m ci] w (.tuple #[.slice none 0 0,.int .i64 2]):=by
 have hB0:Bw w (w.alloc (.cells (LN q:List Value).toArray 24)):=Z0 (Z1 w) _
 go_enter Tryz.func10,Tryz.ntmps10
 go_wp2_with (first
  | (go_at_call 27;refine(hP.out _ hB0).mono ?_;clear hP;rintro e ua ⟨y0,rfl,hy0,hBa⟩;replace hBa:=Z4 hB0 hBa;clear hB0;replace hL:=hL.out ua hBa;obtain⟨T0,z0,rfl⟩:=hy0.tr)
  | (go_at_call 34;refine hL.mono ?_;clear hL;rintro e ub ⟨y1,rfl,hy1,hBb⟩;obtain⟨T1,z1,rfl⟩:=hy1.tr;replace hy0:=hy0.up hBb;replace hBb:=Z4 hBa hBb;clear hBa)
  | (go_at_call 33;refine(Y5 ub.heap.size 2 (.iface T0 z0) (.iface T1 z1) true true (ub.alloc (.cells #[.iface T0 z0,.iface T1 z1] 63)) (by simp) (by simp) (by simp) (hy0.up (Z0 (Z1 ub) _)) (hy1.up (Z0 (Z1 ub) _))).mono ?_;clear hy0 hy1;rintro e uc ⟨y2,rfl,hy2,hBc⟩;replace hBc:=Z4 (Z0 hBb (.cells #[.iface T0 z0,.iface T1 z1] 63)) hBc;replace hT:=hT.out uc y2 hBc hy2;obtain⟨T2,z2,rfl⟩:=AE.tr hy2)
  | (go_at_call 28;refine hT.mono ?_;clear hT;rintro e ud ⟨rfl,hBd⟩;replace hBd:=Z4 hBc hBd))
 exact bodyPost_ret (v:= .tuple #[.slice none 0 0,.int .i64 2]) (by simp[results,Tryz.results10,go_sem]) rfl ⟨rfl,hBd⟩
set_option maxHeartbeats 8000000 in
theorem add_e11(q:Int)(sl sb:Option Addr)(n cap m cb:Nat)(w:World)(hP:Hid (∀u,Bw w u->Calls Tryz.prog 27 #[NV q,.slice sl n cap] u fun e u'=> ∃y,e= .returned y/\AE true u' y/\Bw u u'))(hL:Hid (∀u,Bw w u->Calls Tryz.prog 27 #[NV q,.slice sb m cb] u fun e u'=> ∃y,e= .returned y/\AE true u' y/\Bw u u'))(hT:Hid (∀u y,Bw w u->AE true u y->CC 28 #[y] u (.int .i64 2))):
 CC 13 #[NV q,.slice sl n cap,.slice sb m cb] w (.tuple #[.slice none 0 0,.int .i64 2]):=by
 go_enter Tryz.func13,Tryz.ntmps13
 go_upto_region 1 with fail
 generalize e2:w.alloc (.cells (LN q:List Value).toArray 24)=w2 at *
 have hB2:Bw w w2:=by rw[<-e2];exact Z0 (Z1 w) _
 have hs2:w2.heap.size=w.heap.size+1:=by rw[<-e2];simp
 have KQ:CV w2 w.heap.size (LN q):=by rw[<-e2];exact CV.new w (LN q) 24
 clear e2
 have a0:=(KQ 0 _ rfl).1
 have a1:=(KQ 1 _ rfl).1
 have a2:=(KQ 2 _ rfl).1
 have a3:=(KQ 3 _ rfl).1
 have KQ:Hid (CV w2 w.heap.size (LN q)):=KQ
 go_region_with (first
  | (go_at_call 27;refine(hP.out w2.drew hB2.drew).mono ?_;clear hP a0 a1 a2 a3;rintro e ua ⟨y0,rfl,hy0,hBa⟩;replace KQ:Hid (CV ua w.heap.size (LN q)):=CV.below (CV.drew KQ.out) hBa (by first | omega | (simp<;>omega));replace hBa:=Z4 hB2.drew hBa;replace hL:=hL.out ua hBa;obtain⟨T0,z0,rfl⟩:=hy0.tr;have a0:=(KQ.out 0 _ rfl).1;have a1:=(KQ.out 1 _ rfl).1;have a2:=(KQ.out 2 _ rfl).1;have a3:=(KQ.out 3 _ rfl).1)
  | (go_at_call 27;refine hL.mono ?_;clear hL a0 a1 a2 a3;rintro e ub ⟨y1,rfl,hy1,hBb⟩;obtain⟨T1,z1,rfl⟩:=hy1.tr;replace hy0:=hy0.up hBb;replace hBb:=Z4 hBa hBb)
  | (go_at_call 33;refine(Y5 ub.heap.size 2 (.iface T0 z0) (.iface T1 z1) true true (ub.alloc (.cells #[.iface T0 z0,.iface T1 z1] 63)) (by simp) (by simp) (by simp) (hy0.up (Z0 (Z1 ub) _)) (hy1.up (Z0 (Z1 ub) _))).mono ?_;clear hy0 hy1;rintro e uc ⟨y2,rfl,hy2,hBc⟩;replace hBc:=Z4 (Z0 hBb (.cells #[.iface T0 z0,.iface T1 z1] 63)) hBc;replace hT:=hT.out uc y2 hBc hy2;obtain⟨T2,z2,rfl⟩:=AE.tr hy2))
 all_goals
  go_wp2_with (go_at_call 28;refine hT.mono ?_;clear hT;rintro e ud ⟨rfl,hBd⟩;replace hBd:=Z4 hBc hBd)
  exact bodyPost_ret (v:= .tuple #[.slice none 0 0,.int .i64 2]) (by simp[results,Tryz.results13,go_sem]) rfl ⟨rfl,hBd⟩
end
end Go.Proofs.YtgieoghechekpaaGreatDoor
