/- Proved: for any group and any numbers, GrpTells returns true and leaves its arguments as they were. The five variables that the program lays as its text says. -/
import Derived.Test.YtknpepgonhdbgaaGreatDoorAN8
import Derived.Test.YtknpepgonhdbgaaGreatDoorTie
import Derived.Test.YtknpepgonhdbgaaGreatDoorCards
import Derived.LaidMore
import Derived.SevenTiedAt
namespace Go.Proofs.YtknpepgonhdbgaaGreatDoor
set_option linter.unusedVariables false
set_option linter.unusedSimpArgs false
set_option maxRecDepth 100000
set_option maxHeartbeats 4000000
section
open Go.RowKit
def PGI (ys:List Nat) (u:World) (v:Value):Prop:=IN u u.heap.size v ys
theorem PGI.stab {ys:List Nat} {u u2:World} {x:Value} (hB:Bw u u2) (h:PGI ys u x):PGI ys u2 x:=(IN.below h hB).mono hB.size
theorem gPa0 (w:World) (hV:GV w):GPa0 w:=fun u hB=>par_k 0 P0 Q0 _ u (fun u _=>cNumbers 0 1162079267 581039633 [131101,581039633,1162079267] u (by decide) (by decide) rfl rfl (fun u=>cPrimes0 u)) (fun u2 y hB2 hy=>cMemberOf P0 [104] y u2 (hV.below (Zz hB hB2) hV.sz) Yb (by decide) hy (by decide) (by decide))
theorem gChk (w:World):GChk w:=fun u p q g h hB hp hq hg hh=>cCheckG p q g h u hp hq
theorem gIs (w:World) (hG:GT w):GIs w:=fun u p q g h x hB hp hq hg hh hx=>cIsG p q g h x u (hG.below hB) hp hq hx
theorem gExp (w:World) (hG:GT w):GExp w:=fun u p q g h x e hB hp hq hg hh hx he=>cExpG p q g h x e u (hG.below hB) hp hq hx he
theorem gInv (w:World) (hG:GT w):GInv w:=fun u p q g h x hB hp hq hg hh hx=>cInvG p q g h x u (hG.below hB) hp hq hx
end
section
open Go.ChangeShapes Go.WideShapes Go.ChangeAt Go.RowKit
theorem own4:ownKnob Tryz.prog.godebug=none:=by kernel_rfl
theorem Vy:laidOutB Tryz.prog=true:=by kernel_rfl
abbrev lstG:List (String×DataW Unit):=[("math/bits.deBruijn32tab",Rows.laid_math_bits_deBruijn32tab),("math/bits.deBruijn64tab",Rows.laid_math_bits_deBruijn64tab),("internal/strconv.uint64pow10",Rows.laid_internal_strconv_uint64pow10),("seneschal/sha.constants",Rows.laid_seneschal_sha_constants),("seneschal/sha.first",Rows.laid_seneschal_sha_first)]
theorem gCon:Tryz.prog.globalNamed "seneschal/sha.constants" =some 7:=by kernel_rfl
theorem gFir:Tryz.prog.globalNamed "seneschal/sha.first" =some 3:=by kernel_rfl
theorem tCon:(Tryz.prog.globals[7]?).map (·.type)=some 197:=by kernel_rfl
theorem tFir:(Tryz.prog.globals[3]?).map (·.type)=some 183:=by kernel_rfl
theorem tPow:(Tryz.prog.globals[0]?).map (·.type)=some 179:=by kernel_rfl
theorem powIs:(Rows.laid_internal_strconv_uint64pow10:DataW Unit)=Lib.tabData .u64 Lib.pow10Tab:=by kernel_rfl
def lits {H:Type} (ks:List Nat):DataW H:= .agg (ks.map fun(k:Nat)=>.lit (.int .u32 (k:Int)))
theorem con_is {H:Type}:(Rows.laid_seneschal_sha_constants:DataW H)=lits kcs:=by kernel_rfl
theorem fir_is {H:Type}:(Rows.laid_seneschal_sha_first:DataW H)=lits fst8:=by kernel_rfl
theorem cells32:Tryz.prog.cellsOf 180=1:=by kernel_rfl
theorem arr_cells {H:Type} {enc:TypeId×Value->H} {W:World} {base fuel:Nat} {sp:Nat->Bool} {held:Bool} {t:TypeId} {n:Nat} (ht:Tryz.prog.underlying t=some (.array n 180)) {cs:List Value} {ks:List Nat} {pl:List MemPlace} (h:DataW.trod enc Tryz.prog W base sp held fuel t cs=some (lits ks,pl)) (hk:ks.length=n): ∀i,i<n->cs[i]?=some (.int .u32 ((ks.getD i 0:Nat):Int)):=fun i hi=>by
 obtain⟨xs,m,rfl,hx,hlen,hn,hel⟩:=DataW.trod_array ht h
 simp only[Prod.mk.injEq,lits,DataW.agg.injEq] at hx
 have h1:=hel i hi
 rw[cells32,Nat.mul_one,List.getElem?_eq_getElem (by omega)] at h1
 obtain⟨k,e1,e2,_⟩:=DataW.trod_int Tryz.underlying180 h1
 have e3:(xs.map (·.1))[i]?=some (.lit (.int .u32 k)):=by
  rw[List.getElem?_map,List.getElem?_eq_getElem (by omega)]
  simp[e2]
 rw[<-hx.1,List.getElem?_map,List.getElem?_eq_getElem (by omega)] at e3
 simp at e3
 have e4:(cs.drop i)[0]?=some (.int .u32 k):=by
  have:((cs.drop i).take 1)[0]?=some (.int .u32 k):=by rw[e1];rfl
  rwa [List.getElem?_take_of_lt (by omega)] at this
 rw[List.getElem?_drop,Nat.add_zero] at e4
 rw[e4,List.getD_eq_getElem?_getD,List.getElem?_eq_getElem (by omega),<-e3]
 rfl
structure GG (w:World):Prop where
 v:GV w
 t:GT w
 sz:0<w.heap.size
theorem Tb {W:World} (h:laidMetH Tryz.prog lstG W):GG W:=by
 rw[MakeChecks.laidMetH_plain _ _ _ (by kernel_rfl)] at h
 obtain⟨ps,⟨g0,t0,cs0,f0,p0,q0,hg0,ht0,hv0,hd0,⟨g1,t1,cs1,f1,p1,q1,hg1,ht1,hv1,hd1,⟨g2,t2,cs2,f2,p2,q2,hg2,ht2,hv2,hd2,⟨g3,t3,cs3,f3,p3,q3,hg3,ht3,hv3,hd3,⟨g4,t4,cs4,f4,p4,q4,hg4,ht4,hv4,hd4,_,_⟩,_⟩,_⟩,_⟩,_⟩,_,_⟩:=h
 obtain rfl:=Option.some.inj (gPow.symm.trans hg2)
 obtain rfl:=Option.some.inj (tPow.symm.trans ht2)
 obtain rfl:=Option.some.inj (gCon.symm.trans hg3)
 obtain rfl:=Option.some.inj (gFir.symm.trans hg4)
 obtain rfl:=Option.some.inj (tCon.symm.trans ht3)
 obtain rfl:=Option.some.inj (tFir.symm.trans ht4)
 rw[powIs] at hd2
 rw[con_is] at hd3
 rw[fir_is] at hd4
 have htab:Lib.TabIs Tryz.prog W "internal/strconv.uint64pow10" .u64 Lib.pow10Tab:=by
  unfold Lib.TabIs
  rw[hv2,<-Lib.cells_of_tab Tryz.underlying179 Tryz.underlying22 (by kernel_rfl) (by kernel_rfl) hd2]
 have hc2:=htab.cell gPow 0 (by rw[Lib.pow10Tab_length];omega)
 have k0:=arr_cells Tryz.underlying197 hd3 rfl
 have k1:=arr_cells Tryz.underlying183 hd4 rfl
 have c0: ∀t,t<64->W.cell? ⟨7,t,none⟩=some (.int .u32 ((kcs.getD t 0:Nat):Int)):=fun t ht=>by
  rw[World.var?_cell hg3 hv3 t,<-Array.getElem?_toList];exact k0 t ht
 have c1: ∀t,t<8->W.cell? ⟨3,t,none⟩=some (.int .u32 ((fst8.getD t 0:Nat):Int)):=fun t ht=>by
  rw[World.var?_cell hg4 hv4 t,<-Array.getElem?_toList];exact k1 t ht
 have s0:7<W.heap.size:=World.block_lt_of_cell? W _ (c0 0 (by decide))
 have s1:3<W.heap.size:=World.block_lt_of_cell? W _ (c1 0 (by decide))
 exact⟨⟨by omega,c0,c1⟩,⟨World.block_lt_of_cell? W _ hc2,htab⟩,by omega⟩
theorem doorG (os:Go.Os) (args:Array Value):laidMetH Tryz.prog lstG ((World.doorLaid Tryz.prog 400 os).forCall (fun _ _=>0) ⟨#[],args,[]⟩).memory:=
 laidMetH_of_parts3 (fuel:=8) (laidMet_of_run' 8 (by kernel_rfl) (by kernel_rfl)) (by kernel_rfl) (by kernel_rfl)
theorem grpTells_lifted (os:Go.Os) (started:os.Started) (H:Type) (enc:TypeId×Value->H):
 ReturnsInHanded {} Tryz.checked os 3 .any (fun w args=>(Rows.grpTellsSpec.pre enc Tryz.prog Tryz.f3 [] false w args/\laidMetH Tryz.prog lstG w)/\sizedMet enc Tryz.prog Tryz.f3 (OpenSpec.ofChange Rows.grpTellsSpec) false w args)
  (Rows.grpTellsSpec.post enc Tryz.prog Tryz.f3 false true false false):=by
 refine returnsInHanded_of_change_and (C:=Tryz.checked) (X:=fun w _=>laidMetH Tryz.prog lstG w) (fun _ _ _ hh h=>h.of_heap hh) own4 started (by kernel_rfl) Tryz.func3
  (ChangeSpec.witness_shaped (enc:=enc) (C:=Tryz.checked) (os:=os) (X:=fun w _=>laidMetH Tryz.prog lstG w) false (World.doorLaid Tryz.prog 400 os) #[.agg #[.int .u64 0,.int .u64 0,.int .u64 0,.int .u64 0,.int .u64 0,.int .u64 0,.int .u64 0,.int .u64 0,.int .u64 0,.int .u64 0,.int .u64 0,.int .u64 0,.int .u64 0,.int .u64 0,.int .u64 0,.int .u64 0],.agg #[.int .u64 0,.int .u64 0,.int .u64 0,.int .u64 0],.agg #[.int .u64 0,.int .u64 0,.int .u64 0,.int .u64 0]] 8 rfl (World.shaped_of_RefB (by kernel_rfl) (by kernel_rfl)) (by kernel_rfl) (by kernel_rfl) (by kernel_rfl) (doorG os _)) ?_
 intro W base args ds gs before hval0 hW _ _ hL _
 have hval: ∀(j:Nat) t v,Tryz.f3.params[j]?=some t->args[j]?=some v->Value.okWide Tryz.prog W .any base t v:=hval0
 have hW':=hW
 obtain⟨p,q,hA0,hV,rfl,hfz,hnd⟩:=hW
 have hA:DataW.TrodAll enc Tryz.prog W 0 (fun _=>true) true Tryz.f3.params.toList args.toList ds p:=hA0
 rw[Tryz.params3] at hA hval
 obtain⟨v0,v1,v2,d0,d1,d2,q0,q1,q2,rfl,rfl,rfl,h0,h1,h2⟩:=trodAll_three hA
 obtain⟨rfl,rfl⟩:=trodVars_none hV
 simp only[List.append_nil] at hW'
 have hGV:=Tb hL
 have hlt: ∀x∈q0++q1++q2,x.block<W.heap.size:=fun x hx=>by simpa using hW'.lt x (by simpa using hx)
 have hargs: ∀(W':World),Bw W W'->DataW.Trod enc Tryz.prog W' 0 (fun b=>decide (b<W.heap.size)) true 26 v0 d0 q0/\DataW.Trod enc Tryz.prog W' 0 (fun b=>decide (b<W.heap.size)) true 24 v1 d1 q1/\DataW.Trod enc Tryz.prog W' 0 (fun b=>decide (b<W.heap.size)) true 24 v2 d2 q2:=
  fun W' hn=>⟨Below.trod Vy (by kernel_rfl) (of_decide_eq_true (by kernel_rfl)) h0 hn (fun x hx=>hlt x (by simp[hx])),Below.trod Vy (by kernel_rfl) (of_decide_eq_true (by kernel_rfl)) h1 hn (fun x hx=>hlt x (by simp[hx])),Below.trod Vy (by kernel_rfl) (of_decide_eq_true (by kernel_rfl)) h2 hn (fun x hx=>hlt x (by simp[hx]))⟩
 have h0k:=h0
 have h1k:=h1
 have h2k:=h2
 obtain⟨p,q,g,hh,rfl,ip,iq,ig,ih⟩:=open_group (hval 0 26 v0 rfl rfl) h0k
 obtain⟨x0,x1,x2,x3,rfl,_,_,wx0,wx1,wx2,wx3⟩:=Wk (hval 1 24 v1 rfl rfl) h1k
 have ix:=In_V wx0 wx1 wx2 wx3
 have ex:=NV_V wx0 wx1 wx2 wx3
 obtain⟨e0,e1,e2,e3,rfl,_,_,we0,we1,we2,we3⟩:=Wk (hval 2 24 v2 rfl rfl) h2k
 have ie:=In_V we0 we1 we2 we3
 have ee:=NV_V we0 we1 we2 we3
 clear hA0 hval0
 have hwalk:=(by have h:=grpTells_any p q g hh (V x0 x1 x2 x3) (V e0 e1 e2 e3) W ip iq ig ih ix ie (gPa0 W hGV.v) (gExp W hGV.t) (gInv W hGV.t) (gIs W hGV.t) (gChk W);rw[ex,ee] at h;exact h)
 refine hwalk.mono fun e W' ⟨he,bel⟩=>?_
 subst he
 exact⟨_,rfl,_,_,_,[],_,[],hW',trodAll_mk1 (shut_bool Tryz.underlying4 _),(by first | exact trodAll_mk3 (hargs _ bel).1 (hargs _ bel).2.1 (hargs _ bel).2.2 | (simp only[List.append_assoc];exact trodAll_mk3 (hargs _ bel).1 (hargs _ bel).2.1 (hargs _ bel).2.2)),rfl,bel.frame _,fun h=>by cases h⟩
theorem grpTells_holds:Rows.GrpTellsSaid:=
 OpenClaim.holds_of_wide 3 Tryz.f3 rfl rfl rfl rfl rfl rfl rfl ⟨rfl,rfl,rfl,rfl,rfl⟩ rfl rfl rfl rfl rfl (by kernel_rfl) Tryz.func3 (by kernel_rfl)
  (of_decide_eq_true (by kernel_rfl)) (by unfold Func.isWrapper;first | (rw[if_pos (by decide+kernel)];kernel_rfl) | (rw[if_neg (by decide+kernel)];exact⟨rfl,rfl⟩))
  (fun os started H enc _=>grpTells_lifted os started H enc)
theorem grpTells_card:Rows.GrpTellsCardSaid:=
 Claim7.holds_tied_plain_at .later [] [.data,.data,.data,.data,.data] true (true, "c23cea0777dd7d4ec82a202e3326ab7f6e52c60381327f7b88e1805c4f269827") true
  grpTells_holds (fun _ h=>by cases h) (by kernel_rfl) (fun _ h=>by cases h) grpTells_row_tie rfl ⟨rfl,rfl⟩ (by kernel_rfl) rfl
  (fun f fn hf hfn=>by
   obtain rfl:f=3:=Option.some.inj ((show Tryz.prog.funcNamed "seneschal/seneschallaw09.GrpTells" =some 3 by kernel_rfl).symm.trans hf)|>.symm
   obtain rfl:fn=Tryz.f3:=(Option.some.inj (Tryz.func3.symm.trans hfn)).symm
   exact⟨by kernel_rfl,fun j t ht=>by
    rw[Tryz.params3] at ht
    have hm:t∈[26,24,24]:=by simpa using Array.mem_of_getElem? ht
    have hall:([26,24,24].all fun u=>!Tryz.prog.wantsStandIn u)=true:=by kernel_rfl
    exact(show Tryz.prog.wantsStandIn t=false by simpa using List.all_eq_true.1 hall t hm)⟩)
  (by kernel_rfl)
#print axioms grpTells_card
end
end Go.Proofs.YtknpepgonhdbgaaGreatDoor
