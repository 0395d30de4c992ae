import Derived.Test.YtmoimodkopjeeaaGreatDoorAKR
namespace Go.Proofs.YtmoimodkopjeeaaGreatDoor
set_option linter.unusedVariables false
set_option linter.unusedSimpArgs false
set_option maxRecDepth 100000
set_option maxHeartbeats 4000000
section
open Go.RowKit
def PDl(lo:Nat)(d:Int)(ns:List Int)(u:World)(v:Value):Prop:= ∃y,v=DX d y/\NL u y ns/\ ∃b c,y= .slice (some ⟨b,0,none⟩) ns.length c/\lo<=b
theorem PDl.stab{lo:Nat}{d:Int}{ns:List Int}{u u2:World}{x:Value}(hB:Bw u u2)(h:PDl lo d ns u x):PDl lo d ns u2 x:=by
 obtain⟨y,e,h,h2⟩:=h
 exact⟨y,e,NL.up h hB,h2⟩
theorem GP.gt{w:World}(h:GP w):GT w:=⟨by have:=h.sz;omega,h.tab⟩
theorem vOK{w:World}(hG:GP w):VOK w where
 share:=fun u hB p q g h nd ss ts v v2 hp hq _ _ _ hv hv2 hs ht _ _=>vShare p q g h nd ss ts v v2 u (hG.below hB) hp hq hv hv2 hs ht
 deal:=fun u hB p q g h d ss ts v v2 hp hq hg hh _ hv hv2 hs ht _ _=>vDeal p q g h d ss ts v v2 u (hG.below hB).gt hp hq hg hh hv hv2 hs ht
 check:=fun u hB p q g h d ns v hp hq _ _ _ hv hns hl=>vCheck p q g h d ns v u (hG.below hB).gt hp hq hv hns (by omega)
 verify:=fun u hB p q g h d nd s t ns v hp hq hg hh _ _ hs ht hv hns hl=>vVerify p q g h d nd s t ns v u (hG.below hB).gt hp hq hg hh hs ht hv hns hl
theorem op_len{l:List (Int×Int×Int)}:(opS l).length=l.length/\(opT l).length=l.length:=⟨by simp[opS],by simp[opT]⟩
theorem op_fst{l:List (Int×Int×Int)}:(opS l).map Prod.fst=l.map (·.1)/\(opT l).map Prod.fst=l.map (·.1):=⟨by simp[opS,Function.comp_def],by simp[opT,Function.comp_def]⟩
theorem op_In{l:List (Int×Int×Int)}(h: ∀x∈l,(1<=x.1/\x.1<=16)/\In x.2.1/\In x.2.2):(∀p∈opS l,In p.1/\In p.2)/\ ∀p∈opT l,In p.1/\In p.2:=by
 constructor<;>intro p hp
 ·obtain⟨x,hx,rfl⟩:=List.mem_map.1 hp
  exact⟨⟨by have:=(h x hx).1;omega,by have:=(h x hx).1;show x.1<_;omega⟩,(h x hx).2.1⟩
 ·obtain⟨x,hx,rfl⟩:=List.mem_map.1 hp
  exact⟨⟨by have:=(h x hx).1;omega,by have:=(h x hx).1;show x.1<_;omega⟩,(h x hx).2.2⟩
end
section
open Go.ChangeShapes Go.WideShapes Go.ChangeAt Go.RowKit
theorem Tryz.cells35:Tryz.prog.cellsOf 35=9:=by kernel_rfl
theorem int_of{x:Int}(h:(Lit.int .i64 x).wf=true): -9223372036854775808<=x/\x<9223372036854775808:=by
 simp[Lit.wf,IntKind.min,IntKind.max,IntKind.signed,IntKind.bits] at h;omega
end
section
section
def tpN(q t:Int)(ns:List Int)(i:Nat):Nat->Int
 | 0=>1
 | j+1=>if j=i then tpN q t ns i j else (tpN q t ns i j*((t -ns.getD j 0)%q))%q
theorem tpN_In{q t:Int}{ns:List Int}{i:Nat}(hq:In q)(hq0:q≠0): ∀j,In (tpN q t ns i j)
 | 0=>In_1
 | j+1=>by rw[tpN];split;exact tpN_In hq hq0 j;exact Zi hq hq0
theorem ds_tp{q:Int}{ns:List Int}{i:Nat}: ∀j,dsN q ns i j=tpN q (ns.getD i 0) ns i j
 | 0=>rfl
 | j+1=>by rw[dsN,tpN,ds_tp j]
section ring
variable {R:Type} [Lean.Grind.CommRing R] (p:Nat) [Lean.Grind.IsCharP R p]
theorem cR_tp{xs:List Int}{i:Nat}(t:Int): ∀j,(cR (tpN p t xs i j):R)=if j<=i then preR xs j (cR t) else preR xs i (cR t)*mdR xs (cR t) (i+1) (j -(i+1))
 | 0=>by rw[tpN,if_pos (Nat.zero_le _),preR,cR_1]
 | j+1=>by
  rw[tpN]
  by_cases e:j=i
  ·rw[if_pos e,cR_tp t j,if_pos (by omega),if_neg (by omega),e,Nat.sub_self,mdR];grind
  ·rw[if_neg e,W4,U3,W4,cR_sub,cR_tp t j]
   by_cases h:j<=i
   ·rw[if_pos h,if_pos (by omega),preR]
   ·rw[if_neg h,if_neg (by omega),show j+1 -(i+1)=(j -(i+1))+1 by omega,mdR,show i+1+(j -(i+1))=j by omega];grind
theorem cR_tpt{xs vs:List Int}(hl:vs.length=xs.length){i:Nat}(hi:i<xs.length)(t:Int):(cR (tpN p t xs i xs.length):R)=preR xs i (cR t)*pP (cR t) (sfx xs vs (i+1)):=by
 rw[cR_tp p,if_neg (by omega),<-mdR_sfx hl (cR t) (i+1) (xs.length -(i+1)) (by omega),show i+1+(xs.length -(i+1))=xs.length by omega,sfx_end hl,pP];grind
end ring
theorem facR(p:Nat)[NeZero p]{xs vs:List Int}(hl:vs.length=xs.length)(t:Int){i:Nat}(hi:i<xs.length):(tpN p t xs i xs.length*vs.getD i 0)%(p:Int)=(fac p t xs vs).getD i 0:=by
 have hp0:0<p:=Nat.pos_of_ne_zero (NeZero.ne p)
 have e1:=cR_fac (R:=Fin p) p hl t hi
 rw[<-cR_tpt p hl hi t,<-U3,cR_ext p] at e1
 have r1:=fac_rng (q:=p) (by omega) (t:=t) (xs:=xs) (vs:=vs) hi
 rw[Int.emod_eq_of_lt r1.1 r1.2] at e1
 rw[e1,Int.mul_comm]
def frS(q t:Int)(ns vs:List Int):List Int:=tab ns.length fun i=>(tpN q t ns i ns.length*vs.getD i 0)%q
theorem frS_fac{q t:Int}{ns vs:List Int}(hq:0<q)(hl:vs.length=ns.length):frS q t ns vs=fac q t ns vs:=by
 obtain⟨p,rfl⟩: ∃p:Nat,q=(p:Int):=⟨q.toNat,by omega⟩
 haveI:NeZero p:=⟨by omega⟩
 refine List.ext_getElem (by rw[frS,W6,fac_len]) fun i h1 h2=>?_
 rw[frS,W6] at h1
 have e:=facR p hl t h1
 have e2:(frS (p:Int) t ns vs).getD i 0=(fac p t ns vs).getD i 0:=by rw[<-e,frS,Xg h1]
 simpa [List.getElem?_eq_getElem h2,List.getElem?_eq_getElem (show i<(frS (p:Int) t ns vs).length by rw[frS,W6];exact h1)] using e2
def alG(q:Int)(ns:List Int):Bool:=decide (∀i,i<ns.length->gI q (dsN q ns i ns.length%q)=1)
theorem gd_vs{q:Int}(hq:0<q)(ns:List Int): ∃vs:List Int,vs.length=ns.length/\ ∀i,i<ns.length->gI q (dsN q ns i ns.length%q)=1->IsInv (dsN q ns i ns.length%q) q (vs.getD i 0):=
 list_of2 (p:=fun i z=>gI q (dsN q ns i ns.length%q)=1->IsInv (dsN q ns i ns.length%q) q z) ns.length fun i hi=>by
  by_cases h:gI q (dsN q ns i ns.length%q)=1
  ·obtain⟨x,hx⟩:=IsInv.ex (Int.emod_nonneg _ (by omega)) (Int.emod_lt_of_pos _ hq) h
   exact⟨x,fun _=>hx⟩
  ·exact⟨0,fun e=>absurd e h⟩
end
end
end Go.Proofs.YtmoimodkopjeeaaGreatDoor
