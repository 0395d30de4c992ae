import Derived.Test.YtgieoghechekpaaGreatDoorAPX
import Derived.Test.YtgieoghechekpaaGreatDoorAPT
namespace Go.Proofs.YtgieoghechekpaaGreatDoor
set_option linter.unusedVariables false
set_option linter.unusedSimpArgs false
set_option maxRecDepth 100000
set_option maxHeartbeats 4000000
open Go.RowKit
theorem polyOk{q:Int}{sl:Option Addr}{n cap:Nat}{w:World}(hG:GP w)(hq:In q)(hn:n<=256)(h:2<=q/\1<=n): ∀u,Bw w u->Calls Tryz.prog 27 #[NV q,.slice sl n cap] u fun e u'=> ∃y,e= .returned y/\AE false u' y/\Bw u u':=fun u hB=>by
 have:=X8 q sl n cap u (hG.below hB) hq hn
 rw[show (decide (q<2) || decide (n<1))=false by rw[Bool.or_eq_false_iff,decide_eq_false_iff_not,decide_eq_false_iff_not];omega] at this
 exact this
theorem polyNo{q:Int}{sl:Option Addr}{n cap:Nat}{w:World}(hG:GP w)(hq:In q)(hn:n<=256)(h: ¬(2<=q/\1<=n)): ∀u,Bw w u->Calls Tryz.prog 27 #[NV q,.slice sl n cap] u fun e u'=> ∃y,e= .returned y/\AE true u' y/\Bw u u':=fun u hB=>by
 have:=X8 q sl n cap u (hG.below hB) hq hn
 rw[show (decide (q<2) || decide (n<1))=true by rw[Bool.or_eq_true,decide_eq_true_iff,decide_eq_true_iff];omega] at this
 exact this
theorem polyNil{q:Int}{sl:Option Addr}{n cap:Nat}{w:World}(hG:GP w)(hq:In q)(hn:n<=256)(h:2<=q/\1<=n): ∀u,Bw w u->CC 27 #[NV q,.slice sl n cap] u .nilIface:=fun u hB=>by
 refine(polyOk hG hq hn h u hB).mono ?_
 rintro e u' ⟨y,rfl,hy,hB'⟩
 obtain rfl:=AE.no hy
 exact⟨rfl,hB'⟩
theorem toldP{w:World}(hG:GP w): ∀u y,Bw w u->AE true u y->CC 28 #[y] u (.int .i64 2):=fun u y hB hy=>pTold y u (hG.below hB) hy
theorem cEvalA(q x:Int)(ns:List Int)(v:Value)(w:World)(hG:GP w)(hq:In q)(hx:In x)(hv:NL w v ns)(hns: ∀z∈ns,In z)(hl:ns.length<=256):
 CC 8 #[NV q,v,NV x] w (.tuple #[NV (evX q ns x),.int .i64 (evE q ns)]):=by
 unfold evX evE
 by_cases h:2<=q/\1<=ns.length
 ·rw[if_pos h,if_pos h];exact cEval q x ns v w hG hq h.1 hx hv hns h.2 hl
 ·obtain⟨sl,gb,go,cap,rfl,_⟩:=hv
  rw[if_neg h,if_neg h,NV_0]
  exact eval_err q x sl _ cap w (polyNo hG hq hl h) (toldP hG)
def ptO(q:Int)(ns xs:List Int):Prop:=(2<=q/\1<=ns.length)/\poS xs=true
instance (q:Int) (ns xs:List Int):Decidable (ptO q ns xs):=by unfold ptO;exact inferInstance
def ptX(q:Int)(ns xs:List Int):List (Int×Int):=if ptO q ns xs then pts q ns xs else []
def ptY(q:Int)(ns xs:List Int):Int:=if ptO q ns xs then 0 else 2
theorem PtL.nil(u:World):PtL u (.slice none 0 0) []:=⟨none,0,0,0,rfl,Nat.le_refl _,fun _=>rfl,.inl rfl,.inl rfl,SN.empty rfl⟩
theorem NL.nil(u:World):NL u (.slice none 0 0) []:=⟨none,0,0,0,rfl,Nat.le_refl _,fun _=>rfl,.inl rfl,.inl rfl,SN.empty rfl⟩
theorem cPointsA(q:Int)(ns xs:List Int)(v vx:Value)(w:World)(hG:GP w)(hq:In q)(hv:NL w v ns)(hns: ∀z∈ns,In z)(hl:ns.length<=256)(hvx:IL w vx xs)(hx: ∀x∈xs,-9223372036854775808<=x/\x<=9223372036854775807)(hxl:xs.length<=256):
 Calls Tryz.prog 10 #[NV q,v,vx] w fun e u=> ∃y,e= .returned (.tuple #[y,.int .i64 (ptY q ns xs)])/\PtL u y (ptX q ns xs)/\Bw w u:=by
 have hpl: ∀u,Bw w u->Calls Tryz.prog 34 #[vx] u fun e u'=> ∃y,e= .returned y/\AE (!poS xs) u' y/\Bw u u':=fun u hB=>pPlaces xs _ u (hG.below hB) hxl hx (hvx.up hB)
 unfold ptX ptY
 by_cases h:ptO q ns xs
 ·rw[if_pos h,if_pos h]
  refine(cPoints q ns xs v vx w hG hq h.1.1 hv hns h.1.2 hl hvx (fun x hm=>⟨?_,(hx x hm).2⟩) hxl).mono ?_
  ·have:=h.2
   unfold poS at this
   rw[List.all_eq_true] at this
   simpa using this x hm
  ·rintro e u ⟨y,rfl,hy,hB⟩
   exact⟨y,rfl,hy.pl,hB⟩
 ·rw[if_neg h,if_neg h]
  obtain⟨sl,gb,go,cap,rfl,_⟩:=hv
  obtain⟨si,gi,oi,ci,rfl,_⟩:=hvx
  have fin: ∀(e:Ending) (u:World),(e= .returned (.tuple #[.slice none 0 0,.int .i64 2])/\Bw w u)-> ∃y,e= .returned (.tuple #[y,.int .i64 2])/\PtL u y []/\Bw w u:=fun e u ⟨h1,h2⟩=>⟨_,h1,PtL.nil u,h2⟩
  cases hp:poS xs with
  | false=>
   rw[hp] at hpl
   by_cases h2:2<=q/\1<=ns.length
   ·exact(points_e01 q sl si _ cap _ ci w (polyOk hG hq hl h2) hpl (toldP hG)).mono fin
   ·exact(points_e11 q sl si _ cap _ ci w (polyNo hG hq hl h2) hpl (toldP hG)).mono fin
  | true=>
   rw[hp] at hpl
   have h2: ¬(2<=q/\1<=ns.length):=fun h2=>h ⟨h2,hp⟩
   exact(points_e10 q sl si _ cap _ ci w (polyNo hG hq hl h2) hpl (toldP hG)).mono fin
def adO(q:Int)(aa bs:List Int):Prop:=(2<=q/\1<=aa.length)/\1<=bs.length
instance (q:Int) (aa bs:List Int):Decidable (adO q aa bs):=by unfold adO;exact inferInstance
def adS(q:Int)(aa bs:List Int):List Int:=tab (max aa.length bs.length) fun i=>(aa.getD i 0+bs.getD i 0)%q
def adX(q:Int)(aa bs:List Int):List Int:=if adO q aa bs then adS q aa bs else []
def adY(q:Int)(aa bs:List Int):Int:=if adO q aa bs then 0 else 2
theorem cAddA(q:Int)(aa bs:List Int)(v vb:Value)(w:World)(hG:GP w)(hq:In q)(hv:NL w v aa)(hna: ∀z∈aa,In z)(hl:aa.length<=256)(hvb:NL w vb bs)(hnb: ∀z∈bs,In z)(hlb:bs.length<=256):
 Calls Tryz.prog 13 #[NV q,v,vb] w fun e u=> ∃y,e= .returned (.tuple #[y,.int .i64 (adY q aa bs)])/\NL u y (adX q aa bs)/\Bw w u:=by
 obtain⟨sa,ga,oa,ca,rfl,a2,a3,a4,a5,a6⟩:=hv
 obtain⟨sb,gb,ob,cb,rfl,b2,b3,b4,b5,b6⟩:=hvb
 unfold adX adY
 by_cases h:adO q aa bs
 ·rw[if_pos h,if_pos h]
  have fin: ∀(e:Ending) (u:World),(∃y,e= .returned (.tuple #[y,.int .i64 0])/\PRw w.heap.size (adS q aa bs) u y/\Bw w u)-> ∃y,e= .returned (.tuple #[y,.int .i64 0])/\NL u y (adS q aa bs)/\Bw w u:=fun e u ⟨y,h1,h2,h3⟩=>⟨y,h1,h2.nl,h3⟩
  by_cases hs:aa.length<bs.length
  ·exact(add_sw q sb sa gb ob cb ga oa ca bs aa (adS q aa bs) w hq (by have:=h.1.1;omega) (by omega) (by simp;omega) (polyNil hG hq hl h.1) (polyNil hG hq hlb ⟨h.1.1,h.2⟩) (NL.ix (u:=w) b4) b5 b6 (Zt hnb) (NL.ix (u:=w) a4) a5 a6 (Zt hna) (by omega) (by show (adS q aa bs).length=bs.length;unfold adS;rw[Yi];omega) (fun k hk=>by unfold adS;rw[X7 (by omega),Int.add_comm])).mono fin
  ·exact(add_ok q sa sb ga oa ca gb ob cb aa bs (adS q aa bs) w hq (by have:=h.1.1;omega) (by omega) (by simp;omega) (polyNil hG hq hl h.1) (polyNil hG hq hlb ⟨h.1.1,h.2⟩) (NL.ix (u:=w) a4) a5 a6 (Zt hna) (NL.ix (u:=w) b4) b5 b6 (Zt hnb) (by omega) (by show (adS q aa bs).length=aa.length;unfold adS;rw[Yi];omega) (fun k hk=>by unfold adS;rw[X7 (by omega)])).mono fin
 ·rw[if_neg h,if_neg h]
  have fin: ∀(e:Ending) (u:World),(e= .returned (.tuple #[.slice none 0 0,.int .i64 2])/\Bw w u)-> ∃y,e= .returned (.tuple #[y,.int .i64 2])/\NL u y []/\Bw w u:=fun e u ⟨h1,h2⟩=>⟨_,h1,NL.nil u,h2⟩
  by_cases h1:2<=q/\1<=aa.length
  ·have h2: ¬(2<=q/\1<=bs.length):=fun h2=>h ⟨h1,h2.2⟩
   exact(add_e01 q sa sb _ ca _ cb w (polyOk hG hq hl h1) (polyNo hG hq hlb h2) (toldP hG)).mono fin
  ·by_cases h2:2<=q/\1<=bs.length
   ·exact(add_e10 q sa sb _ ca _ cb w (polyNo hG hq hl h1) (polyOk hG hq hlb h2) (toldP hG)).mono fin
   ·exact(add_e11 q sa sb _ ca _ cb w (polyNo hG hq hl h1) (polyNo hG hq hlb h2) (toldP hG)).mono fin
end Go.Proofs.YtgieoghechekpaaGreatDoor
