import Derived.Test.YtgieoghechekpaaGreatDoorAP7
namespace Go.Proofs.YtgieoghechekpaaGreatDoor
set_option linter.unusedVariables false
set_option linter.unusedSimpArgs false
set_option maxRecDepth 100000
set_option maxHeartbeats 4000000
open Go.RowKit
theorem set6_K{u:World}{b:Nat}{v0 v1 v2 v3 v4 v5 c0 c1 c2 c3 c4 c5:Value}(h:CV u b [c0,c1,c2,c3,c4,c5]):CV ((((((u.setCell ⟨b,0,none⟩ v0).setCell ⟨b,1,none⟩ v1).setCell ⟨b,2,none⟩ v2).setCell ⟨b,3,none⟩ v3).setCell ⟨b,4,none⟩ v4).setCell ⟨b,5,none⟩ v5) b [v0,v1,v2,v3,v4,v5]:=
 (((((h.setC 0 (by simp) v0).setC 1 (by simp) v1).setC 2 (by simp) v2).setC 3 (by simp) v3).setC 4 (by simp) v4).setC 5 (by simp) v5
theorem CV.oset{u:World}{c:Nat}{l:List Value}(h:CV u c l)(a:Addr)(v:Value)(hne:c≠a.block):CV (u.setCell a v) c l:=h.blk (Below.heap_setCell u a v c hne)
theorem Ym{u:World}{b c:Nat}{v0 v1 v2 v3 v4 v5:Value}{l:List Value}(h:CV u c l)(hne:c≠b):CV ((((((u.setCell ⟨b,0,none⟩ v0).setCell ⟨b,1,none⟩ v1).setCell ⟨b,2,none⟩ v2).setCell ⟨b,3,none⟩ v3).setCell ⟨b,4,none⟩ v4).setCell ⟨b,5,none⟩ v5) c l:=
 (((((h.oset ⟨b,0,none⟩ v0 hne).oset ⟨b,1,none⟩ v1 hne).oset ⟨b,2,none⟩ v2 hne).oset ⟨b,3,none⟩ v3 hne).oset ⟨b,4,none⟩ v4 hne).oset ⟨b,5,none⟩ v5 hne
theorem set6_B{m b:Nat}{w u:World}{v0 v1 v2 v3 v4 v5:Value}(h:Below m w u)(hb:m<=b):Below m w ((((((u.setCell ⟨b,0,none⟩ v0).setCell ⟨b,1,none⟩ v1).setCell ⟨b,2,none⟩ v2).setCell ⟨b,3,none⟩ v3).setCell ⟨b,4,none⟩ v4).setCell ⟨b,5,none⟩ v5):=
 (((((h.setCell hb v0).setCell hb v1).setCell hb v2).setCell hb v3).setCell hb v4).setCell hb v5
set_option maxHeartbeats 8000000 in
theorem combineOk(q t r:Int)(sl:Option Addr)(n cap:Nat)(xs vs:List Int)(w:World)
 (hP:Hid (∀u,Bw w u->CC 39 #[NV q,.int .i64 (n:Int)] u .nilIface))
 (hA:Hid (∀u,Bw w u->Calls Tryz.prog 44 #[.slice sl n cap] u fun e u'=> ∃y,e= .returned y/\PRw u.heap.size xs u' y/\Bw u u'))
 (hO:Hid (∀u bx,Bw w u->bx<u.heap.size->CV u bx (flN xs)->Calls Tryz.prog 40 #[NV q,.slice (some ⟨bx,0,none⟩) xs.length xs.length] u fun e u'=> ∃vd,e= .returned (.tuple #[BX q (.slice (some ⟨bx,0,none⟩) xs.length xs.length) vd,.nilIface])/\PRw u.heap.size vs u' vd/\Bw u u'))
 (hS:Hid (∀u bx bd,Bw w u->bx<u.heap.size->bd<u.heap.size->CV u bx (flN xs)->CV u bd (flN vs)->CC 46 #[BX q (.slice (some ⟨bx,0,none⟩) xs.length xs.length) (.slice (some ⟨bd,0,none⟩) vs.length vs.length),NV t,.slice sl n cap] u (NV r))):
 CC 37 #[NV q,NV t,.slice sl n cap] w (.tuple #[NV r,.int .i64 0]):=by
 go_enter Tryz.func37,Tryz.ntmps37
 go_upto_region 1 with fail
 generalize e2:((w.alloc (.cells (LN q:List Value).toArray 24)).alloc (.cells (LN t:List Value).toArray 24)).alloc (.cells (L0s:List Value).toArray 24)=w2 at *
 have hB2:Bw w w2:=by rw[<-e2];exact Z0 (Z0 (Z0 (Z2 w) _) _) _
 have hs2:w2.heap.size=w.heap.size+3:=by rw[<-e2];simp
 have KQ:CV w2 w.heap.size (LN q):=by rw[<-e2];exact((CV.new w (LN q) 24).below (Z0 (Z2 _) _) (by simp)).below (Z0 (Z2 _) _) (by first | omega | (simp<;>omega))
 have KT:CV w2 (w.heap.size+1) (LN t):=by rw[<-e2];exact(CV.newAt _ _ _ _ (by simp)).below (Z0 (Z2 _) _) (by simp)
 have KR:CV w2 (w.heap.size+2) L0s:=by rw[<-e2];exact CV.newAt _ _ _ _ (by simp)
 clear e2
 have a0:=(KQ 0 _ rfl).1
 have a1:=(KQ 1 _ rfl).1
 have a2:=(KQ 2 _ rfl).1
 have a3:=(KQ 3 _ rfl).1
 have KQ:Hid (CV w2 w.heap.size (LN q)):=KQ
 have KT:Hid (CV w2 (w.heap.size+1) (LN t)):=KT
 have KR:Hid (CV w2 (w.heap.size+2) L0s):=KR
 have hP:=hP.out w2 hB2
 go_upto_region 4 with(go_at_call 39;refine hP.mono ?_;clear hP a0 a1 a2 a3;rintro e ua ⟨rfl,hBa⟩;replace KQ:Hid (CV ua w.heap.size (LN q)):=CV.below KQ.out hBa (by omega);replace KT:Hid (CV ua (w.heap.size+1) (LN t)):=CV.below KT.out hBa (by omega);replace KR:Hid (CV ua (w.heap.size+2) L0s):=CV.below KR.out hBa (by omega);have hsa:=hBa.size;replace hBa:=Z3 hB2 hBa;have a0:=(KQ.out 0 _ rfl).1;have a1:=(KQ.out 1 _ rfl).1;have a2:=(KQ.out 2 _ rfl).1;have a3:=(KQ.out 3 _ rfl).1;have b0:=fun o=>(CV.below KQ.out (Z0 (Z2 ua) o) (by omega) 0 _ rfl).1;have b1:=fun o=>(CV.below KQ.out (Z0 (Z2 ua) o) (by omega) 1 _ rfl).1;have b2:=fun o=>(CV.below KQ.out (Z0 (Z2 ua) o) (by omega) 2 _ rfl).1;have b3:=fun o=>(CV.below KQ.out (Z0 (Z2 ua) o) (by omega) 3 _ rfl).1)
 go_cut [9,10] (fun s9 s10 wx=> ∃b bx bd,s9= .pointer (some ⟨b,0,none⟩)/\s10= .nilIface/\Bw w wx/\b<wx.heap.size/\w.heap.size+2<b/\bx<wx.heap.size/\bd<wx.heap.size/\CV wx b (BE q (.slice (some ⟨bx,0,none⟩) xs.length xs.length) (.slice (some ⟨bd,0,none⟩) vs.length vs.length))/\CV wx bx (flN xs)/\CV wx bd (flN vs)/\CV wx (w.heap.size+1) (LN t)/\CV wx (w.heap.size+2) L0s)
 case first=>
  go_region_with (first | (go_at_call 44;refine(hA.out ua.drew hBa.drew).mono ?_;go_must (clear a0 a1 a2 a3 b0 b1 b2 b3;rintro e ub ⟨y,rfl,⟨bx,rfl,x1,x2,x3⟩,hBb⟩;replace KQ:Hid (CV ub w.heap.size (LN q)):=CV.below (CV.drew KQ.out) hBb (by first | omega | (simp<;>omega));replace KT:Hid (CV ub (w.heap.size+1) (LN t)):=CV.below (CV.drew KT.out) hBb (by first | omega | (simp<;>omega));replace KR:Hid (CV ub (w.heap.size+2) L0s):=CV.below (CV.drew KR.out) hBb (by first | omega | (simp<;>omega));have hsb:ua.heap.size<=ub.heap.size:=(by have:=hBb.size;first | omega | (simp at this;omega));skip;replace hBb:=Z3 hBa.drew hBb;have x3:Hid (CV ub bx (flN xs)):=x3;have a0:=(KQ.out 0 _ rfl).1;have a1:=(KQ.out 1 _ rfl).1;have a2:=(KQ.out 2 _ rfl).1;have a3:=(KQ.out 3 _ rfl).1;have b0:=fun o=>(CV.below KQ.out (Z0 (Z2 ub) o) (by omega) 0 _ rfl).1;have b1:=fun o=>(CV.below KQ.out (Z0 (Z2 ub) o) (by omega) 1 _ rfl).1;have b2:=fun o=>(CV.below KQ.out (Z0 (Z2 ub) o) (by omega) 2 _ rfl).1;have b3:=fun o=>(CV.below KQ.out (Z0 (Z2 ub) o) (by omega) 3 _ rfl).1)) | (go_at_call 44;refine(hA.out (ua.alloc (.cells (L0b:List Value).toArray 76)).drew (Z0 hBa (.cells (L0b:List Value).toArray 76)).drew).mono ?_;go_must (clear a0 a1 a2 a3 b0 b1 b2 b3;rintro e ub ⟨y,rfl,⟨bx,rfl,x1,x2,x3⟩,hBb⟩;replace KQ:=CV.below KQ.out (Z0 (Z2 ua) (.cells (L0b:List Value).toArray 76)) (by omega);replace KT:=CV.below KT.out (Z0 (Z2 ua) (.cells (L0b:List Value).toArray 76)) (by omega);replace KR:=CV.below KR.out (Z0 (Z2 ua) (.cells (L0b:List Value).toArray 76)) (by omega);have KZ:CV ub ua.heap.size L0b:=CV.below (CV.drew (CV.new ua L0b 76)) hBb (by simp);replace KQ:Hid (CV ub w.heap.size (LN q)):=CV.below (CV.drew KQ) hBb (by first | omega | (simp<;>omega));replace KT:Hid (CV ub (w.heap.size+1) (LN t)):=CV.below (CV.drew KT) hBb (by first | omega | (simp<;>omega));replace KR:Hid (CV ub (w.heap.size+2) L0s):=CV.below (CV.drew KR) hBb (by first | omega | (simp<;>omega));have hsb:ua.heap.size<=ub.heap.size:=(by have:=hBb.size;first | omega | (simp at this;omega));have hx0:ua.heap.size<bx:=(by first | omega | (simp at x1;omega));have KZ:Hid (CV ub ua.heap.size L0b):=KZ;replace hBb:=Z3 (Z0 hBa (.cells (L0b:List Value).toArray 76)).drew hBb;have x3:Hid (CV ub bx (flN xs)):=x3;have a0:=(KQ.out 0 _ rfl).1;have a1:=(KQ.out 1 _ rfl).1;have a2:=(KQ.out 2 _ rfl).1;have a3:=(KQ.out 3 _ rfl).1;have b0:=fun o=>(CV.below KQ.out (Z0 (Z2 ub) o) (by omega) 0 _ rfl).1;have b1:=fun o=>(CV.below KQ.out (Z0 (Z2 ub) o) (by omega) 1 _ rfl).1;have b2:=fun o=>(CV.below KQ.out (Z0 (Z2 ub) o) (by omega) 2 _ rfl).1;have b3:=fun o=>(CV.below KQ.out (Z0 (Z2 ub) o) (by omega) 3 _ rfl).1)) | (go_at_call 40;have _:=KZ;refine(hO.out ub bx hBb (by first | omega | (simp<;>omega)) (x3.out)).mono ?_;go_must (clear a0 a1 a2 a3 b0 b1 b2 b3;rintro e uc ⟨vd,rfl,⟨bd,rfl,d1,d2,d3⟩,hBc⟩;replace KZ:Hid (CV uc ua.heap.size L0b):=CV.below KZ.out hBc (by omega);replace KQ:Hid (CV uc w.heap.size (LN q)):=CV.below KQ.out hBc (by omega);replace KT:Hid (CV uc (w.heap.size+1) (LN t)):=CV.below KT.out hBc (by omega);replace KR:Hid (CV uc (w.heap.size+2) L0s):=CV.below KR.out hBc (by omega);replace x3:Hid (CV uc bx (flN xs)):=CV.below x3.out hBc x2;have hsc:ub.heap.size<=uc.heap.size:=(by have:=hBc.size;first | omega | (simp at this;omega));replace hBc:=Z3 hBb hBc;have z0:=(KZ.out 0 _ rfl).1;have zf0:=(KZ.out 0 _ rfl).2;have z1:=(KZ.out 1 _ rfl).1;have zf1:=(KZ.out 1 _ rfl).2;have z2:=(KZ.out 2 _ rfl).1;have zf2:=(KZ.out 2 _ rfl).2;have z3:=(KZ.out 3 _ rfl).1;have zf3:=(KZ.out 3 _ rfl).2;have z4:=(KZ.out 4 _ rfl).1;have zf4:=(KZ.out 4 _ rfl).2;have z5:=(KZ.out 5 _ rfl).1;have zf5:=(KZ.out 5 _ rfl).2;have d3:Hid (CV uc bd (flN vs)):=d3)) | (go_at_call 40;refine(hO.out ub bx hBb (by first | omega | (simp<;>omega)) (x3.out)).mono ?_;go_must (clear a0 a1 a2 a3 b0 b1 b2 b3;rintro e uc ⟨vd,rfl,⟨bd,rfl,d1,d2,d3⟩,hBc⟩;replace KQ:Hid (CV uc w.heap.size (LN q)):=CV.below KQ.out hBc (by omega);replace KT:Hid (CV uc (w.heap.size+1) (LN t)):=CV.below KT.out hBc (by omega);replace KR:Hid (CV uc (w.heap.size+2) L0s):=CV.below KR.out hBc (by omega);replace x3:Hid (CV uc bx (flN xs)):=CV.below x3.out hBc x2;have hsc:ub.heap.size<=uc.heap.size:=(by have:=hBc.size;first | omega | (simp at this;omega));replace hBc:=Z3 hBb hBc;have d3:Hid (CV uc bd (flN vs)):=d3)) | (go_at_call 40;refine(hO.out (ub.alloc (.cells (L0b:List Value).toArray 76)) bx (Z0 hBb (.cells (L0b:List Value).toArray 76)) (by first | omega | (simp<;>omega)) (CV.below x3.out (Z0 (Z2 ub) (.cells (L0b:List Value).toArray 76)) x2)).mono ?_;go_must (clear a0 a1 a2 a3 b0 b1 b2 b3;rintro e uc ⟨vd,rfl,⟨bd,rfl,d1,d2,d3⟩,hBc⟩;have KZ:Hid (CV uc ub.heap.size L0b):=CV.below (CV.new ub L0b 76) hBc (by simp);replace x3:Hid (CV uc bx (flN xs)):=CV.below (CV.below x3.out (Z0 (Z2 ub) (.cells (L0b:List Value).toArray 76)) x2) hBc (by first | omega | (simp<;>omega));replace KT:Hid (CV uc (w.heap.size+1) (LN t)):=CV.below (CV.below KT.out (Z0 (Z2 ub) (.cells (L0b:List Value).toArray 76)) (by omega)) hBc (by first | omega | (simp<;>omega));replace KR:Hid (CV uc (w.heap.size+2) L0s):=CV.below (CV.below KR.out (Z0 (Z2 ub) (.cells (L0b:List Value).toArray 76)) (by omega)) hBc (by first | omega | (simp<;>omega));have hsc:ub.heap.size<=uc.heap.size:=(by have:=hBc.size;first | omega | (simp at this;omega));replace hBc:=Z3 (Z0 hBb (.cells (L0b:List Value).toArray 76)) hBc;have hd0:ub.heap.size<bd:=(by first | omega | (simp at d1;omega));have z0:=(KZ.out 0 _ rfl).1;have zf0:=(KZ.out 0 _ rfl).2;have z1:=(KZ.out 1 _ rfl).1;have zf1:=(KZ.out 1 _ rfl).2;have z2:=(KZ.out 2 _ rfl).1;have zf2:=(KZ.out 2 _ rfl).2;have z3:=(KZ.out 3 _ rfl).1;have zf3:=(KZ.out 3 _ rfl).2;have z4:=(KZ.out 4 _ rfl).1;have zf4:=(KZ.out 4 _ rfl).2;have z5:=(KZ.out 5 _ rfl).1;have zf5:=(KZ.out 5 _ rfl).2;have d3:Hid (CV uc bd (flN vs)):=d3)))
  all_goals (go_wp2_with fail;go_meet;first | (refine⟨uc.heap.size,bx,bd,rfl,rfl,?_⟩;exact⟨Z0 hBc _,by simp,by omega,(by first | omega | (simp<;>omega)),(by first | omega | (simp<;>omega)),CV.new uc _ _,CV.below x3.out (Z0 (Z2 uc) _) (by omega),CV.below d3.out (Z0 (Z2 uc) _) d2,CV.below KT.out (Z0 (Z2 uc) _) (by omega),CV.below KR.out (Z0 (Z2 uc) _) (by omega)⟩) | (refine⟨ua.heap.size,bx,bd,rfl,rfl,?_⟩;exact⟨set6_B hBc (by omega),(by first | omega | (simp<;>omega)),by omega,(by first | omega | (simp<;>omega)),(by first | omega | (simp<;>omega)),set6_K KZ.out,Ym x3.out (by omega),Ym d3.out (by omega),Ym KT.out (by omega),Ym KR.out (by omega)⟩) | (refine⟨ub.heap.size,bx,bd,rfl,rfl,?_⟩;exact⟨set6_B hBc (by omega),(by first | omega | (simp<;>omega)),by omega,(by first | omega | (simp<;>omega)),(by first | omega | (simp<;>omega)),set6_K KZ.out,Ym x3.out (by omega),Ym d3.out (by omega),Ym KT.out (by omega),Ym KR.out (by omega)⟩))
 case rest=>
  obtain⟨b,bx,bd,rfl,rfl,hBw,hb,hbw,hbx,hbd,KB,KX,KD,KT,KR⟩:=hcut
  have hS:=hS.out wc bx bd hBw hbx hbd KX KD
  have c0:=(KB 0 _ rfl).1
  have c1:=(KB 1 _ rfl).1
  have c2:=(KB 2 _ rfl).1
  have c3:=(KB 3 _ rfl).1
  have c4:=(KB 4 _ rfl).1
  have c5:=(KB 5 _ rfl).1
  have t0:=(KT 0 _ rfl).1
  have t1:=(KT 1 _ rfl).1
  have t2:=(KT 2 _ rfl).1
  have t3:=(KT 3 _ rfl).1
  have KR:Hid (CV wc (w.heap.size+2) L0s):=KR
  clear KB KX KD KT
  go_wp2_with (go_at_call 46;refine hS.mono ?_;go_must (clear hS c0 c1 c2 c3 c4 c5 t0 t1 t2 t3;rintro e ue ⟨rfl,hBe⟩;have KR:=CV.below KR.out hBe (by omega);have r0:=KR 0 _ rfl;have r1:=KR 1 _ rfl;have r2:=KR 2 _ rfl;have r3:=KR 3 _ rfl;obtain⟨r0,f0⟩:=r0;obtain⟨r1,f1⟩:=r1;obtain⟨r2,f2⟩:=r2;obtain⟨r3,f3⟩:=r3;replace hBe:=Z3 hBw hBe))
  exact bodyPost_ret (v:= .tuple #[NV r,.int .i64 0]) (by simp[results,Tryz.results37,go_sem,r0,r1,r2,r3]) rfl ⟨rfl,(((hBe.setCell (by simp;omega) _).setCell (by simp;omega) _).setCell (by simp;omega) _).setCell (by simp;omega) _⟩
def tab(n:Nat)(f:Nat->Int):List Int:=(List.range n).map f
theorem tab_len(n:Nat)(f:Nat->Int):(tab n f).length=n:=by simp[tab]
theorem tab_get{n:Nat}{f:Nat->Int}{i:Nat}(h:i<n):(tab n f).getD i 0=f i:=by simp[tab,List.getElem?_map,List.getElem?_range h]
def fa1(q t:Int)(ns vs:List Int):List Int:=tab ns.length fun i=>vs.getD i 0*ahN q t ns i%q
def fac(q t:Int)(ns vs:List Int):List Int:=tab ns.length fun i=>(vs.getD i 0*ahN q t ns i%q)*bhN q t ns (ns.length -1 -i)%q
theorem fac_len(q t:Int)(ns vs:List Int):(fac q t ns vs).length=ns.length:=tab_len _ _
theorem fac_get{q t:Int}{ns vs:List Int}{i:Nat}(h:i<ns.length):(fac q t ns vs).getD i 0=(vs.getD i 0*ahN q t ns i%q)*bhN q t ns (ns.length -1 -i)%q:=tab_get h
theorem Zz{ns:List Int}(h: ∀z∈ns,In z): ∀k,k<ns.length->In (ns.getD k 0):=fun k hk=>h _ (by simp[List.getElem?_eq_getElem hk])
theorem NL.ix{u:World}{sl:Option Addr}{gb go cap:Nat}{ns:List Int}(h:ns=[]\/sl=some ⟨gb,go,none⟩): ∀j,j<ns.length-> ∀W,(Instr.indexAt 25 (.slice sl ns.length cap) (.int .i64 j)).run Tryz.prog W= .ok (.pointer (some ⟨gb,go+4*j,none⟩)) W:=fun j hj W=>by
 obtain rfl:=h.resolve_left (fun e=>by subst e;simp at hj)
 exact ixS gb go ns.length cap j hj W
theorem PtL.ix{sl:Option Addr}{gb go cap:Nat}{ps:List (Int×Int)}(h:ps=[]\/sl=some ⟨gb,go,none⟩): ∀j,j<ps.length-> ∀W,(Instr.indexAt 31 (.slice sl ps.length cap) (.int .i64 j)).run Tryz.prog W= .ok (.pointer (some ⟨gb,go+8*j,none⟩)) W:=fun j hj W=>by
 obtain rfl:=h.resolve_left (fun e=>by subst e;simp at hj)
 exact ixP gb go ps.length cap j hj W
theorem cPolyn{q:Int}{sl:Option Addr}{n cap:Nat}{w:World}(hG:GP w)(hq:In q)(hq2:2<=q)(hn:n<=256)(h1:1<=n): ∀u,Bw w u->CC 27 #[NV q,.slice sl n cap] u .nilIface:=fun u hB=>by
 refine(pPolynomial q sl n cap u (hG.below hB) hq hn).mono ?_
 rintro e u' ⟨y,rfl,hy,hB'⟩
 rw[decide_eq_false (show ¬q<2 by omega),decide_eq_false (show ¬n<1 by omega)] at hy
 obtain rfl:=hy.no
 exact⟨rfl,hB'⟩
theorem cPtsOf{q:Int}{n:Nat}{w:World}(hG:GP w)(hq:In q)(hq2:2<=q)(hn:n<=256)(h1:1<=n): ∀u,Bw w u->CC 39 #[NV q,.int .i64 (n:Int)] u .nilIface:=fun u hB=>by
 refine(pPointsOf q n u (hG.below hB) hq hn).mono ?_
 rintro e u' ⟨y,rfl,hy,hB'⟩
 rw[decide_eq_false (show ¬q<2 by omega),decide_eq_false (show ¬n<1 by omega)] at hy
 obtain rfl:=hy.no
 exact⟨rfl,hB'⟩
theorem pValue(q x:Int)(ns:List Int)(v:Value)(w:World)(hq:In q)(hq0:q≠0)(hx:In x)(hv:NL w v ns)(hns: ∀z∈ns,In z)(hl:ns.length<=1000):
 CC 29 #[NV q,v,NV x] w (NV (hoN q x ns ns.length)):=by
 obtain⟨sl,gb,go,cap,rfl,h2,h3,h4,h5,h6⟩:=hv
 exact pValue_core q x sl gb go cap ns w hq hq0 hx (NL.ix (u:=w) h4) h5 h6 (Zz hns) hl
theorem cEval(q x:Int)(ns:List Int)(v:Value)(w:World)(hG:GP w)(hq:In q)(hq2:2<=q)(hx:In x)(hv:NL w v ns)(hns: ∀z∈ns,In z)(h1:1<=ns.length)(hl:ns.length<=256):
 CC 8 #[NV q,v,NV x] w (.tuple #[NV (hoN q x ns ns.length),.int .i64 0]):=by
 have hv':=hv
 obtain⟨sl,gb,go,cap,rfl,_⟩:=hv
 exact eval_ok q x _ sl _ cap w (cPolyn hG hq hq2 hl h1) (fun u hB=>pValue q x ns _ u hq (by omega) hx (hv'.up hB) hns (by omega))
def pts(q:Int)(ns xs:List Int):List (Int×Int):=xs.map fun x=>(x,hoN q x ns ns.length)
theorem Xe(q:Int)(ns xs:List Int):(pts q ns xs).length=xs.length:=by simp[pts]
theorem pts_get{q:Int}{ns xs:List Int}{k:Nat}(h:k<xs.length):(pts q ns xs).getD k (0,0)=(xs.getD k 0,hoN q (xs.getD k 0) ns ns.length):=by
 simp[pts,List.getElem?_map,List.getElem?_eq_getElem h]
theorem pts_fst(q:Int)(ns xs:List Int):(pts q ns xs).map Prod.fst=xs:=by simp[pts,Function.comp_def]
theorem cPoints(q:Int)(ns xs:List Int)(v vx:Value)(w:World)(hG:GP w)(hq:In q)(hq2:2<=q)(hv:NL w v ns)(hns: ∀z∈ns,In z)(h1:1<=ns.length)(hl:ns.length<=256)(hvx:IL w vx xs)(hx: ∀x∈xs,0<=x/\x<=9223372036854775807)(hxl:xs.length<=256):
 Calls Tryz.prog 10 #[NV q,v,vx] w fun e u=> ∃y,e= .returned (.tuple #[y,.int .i64 0])/\PRp w.heap.size (pts q ns xs) u y/\Bw w u:=by
 have hv':=hv
 have hvx':=hvx
 obtain⟨sl,gb,go,cap,rfl,_⟩:=hv
 obtain⟨si,gi,oi,ci,rfl,i2,i3,i4,i5,i6⟩:=hvx
 have hg: ∀k,k<xs.length->0<=xs.getD k 0/\xs.getD k 0<=9223372036854775807:=fun k hk=>hx _ (by simp[List.getElem?_eq_getElem hk])
 refine points_ok q sl si _ cap gi oi ci xs _ (fun k=>hoN q (xs.getD k 0) ns ns.length) w (by omega) (cPolyn hG hq hq2 hl h1) (fun u hB=>?_) (Xe q ns xs) (fun k hk=>pts_get hk) (fun h=>⟨i4.resolve_left (fun e=>by subst e;simp at h),i5.resolve_left (by omega)⟩) i6 hg (fun k u hk hB=>?_)
 ·refine(pPlaces xs _ u (hG.below hB) hxl (fun x h=>⟨by have:=(hx x h).1;omega,(hx x h).2⟩) (hvx'.up hB)).mono ?_
  rintro e u' ⟨y,rfl,hy,hB'⟩
  rw[poS_of (fun j hj=>(hg j hj).1)] at hy
  obtain rfl:=AE.no hy
  exact⟨rfl,hB'⟩
 ·have:=hg k hk
  exact pValue q _ ns _ u hq (by omega) ⟨this.1,by have:=this.2;omega⟩ (hv'.up hB) hns (by omega)
theorem inv_In{q a v:Int}(hq:In q)(h:IsInv a q v):In v:=In_le hq h.1 (by have:=h.2.1;omega)
theorem cBaseOf(q:Int)(ns vs:List Int)(sl:Option Addr)(cap:Nat)(w:World)(hq:In q)(hq2:2<=q)(hv:NL w (.slice sl ns.length cap) ns)(hns: ∀z∈ns,In z)(hl:ns.length<=256)(hi:Invs q ns vs):
 Calls Tryz.prog 40 #[NV q,.slice sl ns.length cap] w fun e u=> ∃vd,e= .returned (.tuple #[BX q (.slice sl ns.length cap) vd,.nilIface])/\PRw w.heap.size vs u vd/\Bw w u:=by
 obtain⟨sl',gb,go,cap',e,h2,h3,h4,h5,h6⟩:=hv
 cases e
 exact baseOf_core q sl gb go cap ns vs w hq (by omega) hi.1 hi.2 (NL.ix (u:=w) h4) h5 h6 (Zz hns) (by omega)
theorem cFactorsB(q t:Int)(ns vs:List Int)(sx:Option Addr)(cx bd:Nat)(w:World)(hq:In q)(hq2:2<=q)(ht:In t)(hv:NL w (.slice sx ns.length cx) ns)(hns: ∀z∈ns,In z)(hl:ns.length<=256)(hi:Invs q ns vs)(hb:bd<w.heap.size)(hK:CV w bd (flN vs)):
 Calls Tryz.prog 41 #[BX q (.slice sx ns.length cx) (.slice (some ⟨bd,0,none⟩) vs.length vs.length),NV t] w fun e u=> ∃y,e= .returned y/\PRw w.heap.size (fac q t ns vs) u y/\Bw w u:=by
 obtain⟨sl',gx,ox,cap',e,h2,h3,h4,h5,h6⟩:=hv
 cases e
 obtain⟨hil,hii⟩:=hi
 rw[hil]
 refine factors_core q t sx (some ⟨bd,0,none⟩) gx ox cx bd 0 ns.length ns vs (fa1 q t ns vs) (fac q t ns vs) w hq (by omega) ht (NL.ix (u:=w) h4) h5 h6 (Zz hns) (by omega) (fun j hj W=>?_) (.inr hb) (fun j v hj=>by rw[Nat.zero_add];exact(hK j v hj).1) (fun k hk=>inv_In hq (hii k hk)) hil (tab_len _ _) (by rw[fac_len];exact(tab_len _ _).symm) (fun i hi=>tab_get hi) (fun i hi=>?_)
 ·rw[Nat.zero_add];exact ixZ bd ns.length ns.length j hj W
 ·rw[fac_get hi,fa1,tab_get hi]
theorem row_nl{u:World}{b:Nat}{ns:List Int}(h2:b<u.heap.size)(h3:CV u b (flN ns)):NL u (.slice (some ⟨b,0,none⟩) ns.length ns.length) ns:=
 ⟨_,b,0,_,rfl,Nat.le_refl _,(by simp),.inr rfl,.inr h2,fun j v hj=>by rw[Nat.zero_add];exact(h3 j v hj).1⟩
theorem fac_In{q t:Int}{ns vs:List Int}(hq:In q)(hq0:q≠0): ∀k,k<(fac q t ns vs).length->In ((fac q t ns vs).getD k 0):=fun k hk=>by
 rw[fac_len] at hk
 rw[fac_get hk];exact Zd hq hq0
theorem cSumB(q t:Int)(ns vs:List Int)(ps:List (Int×Int))(v:Value)(sx:Option Addr)(cx bd:Nat)(w:World)(hq:In q)(hq2:2<=q)(ht:In t)(hx:NL w (.slice sx ns.length cx) ns)(hns: ∀z∈ns,In z)(hl:ns.length<=256)(hi:Invs q ns vs)(hb:bd<w.heap.size)(hK:CV w bd (flN vs))(hv:PtL w v ps)(hps: ∀p∈ps,In p.2)(hpl:ns.length=ps.length):
 CC 46 #[BX q (.slice sx ns.length cx) (.slice (some ⟨bd,0,none⟩) vs.length vs.length),NV t,v] w (NV (smN q (fac q t ns vs) ps ps.length)):=by
 have hq0:q≠0:=by omega
 have hp1:ps.length<=1000:=by omega
 obtain⟨sl,gb,go,cap,rfl,h2,h3,h4,h5,h6⟩:=hv
 have hfl:(fac q t ns vs).length=ps.length:=by rw[fac_len,hpl]
 have hc:=fun u (hB:Bw w u)=>cFactorsB q t ns vs sx cx bd u hq hq2 ht (hx.up hB) hns hl hi (Nat.lt_of_lt_of_le hb hB.size) (hK.below hB hb)
 rw[hi.1] at hc⊢
 have hz:=sum_core q t sx (some ⟨bd,0,none⟩) sl cx ns.length gb go cap ns (fac q t ns vs) ps w hq hq0 (PtL.ix h4) h5 h6 hp1 hc hfl (fac_In hq hq0) (fun k hk=>hps _ (by simp[List.getElem?_eq_getElem hk]))
 rw[hfl] at hz
 exact hz
theorem cCombine(q t:Int)(vs:List Int)(ps:List (Int×Int))(v:Value)(w:World)(hG:GP w)(hq:In q)(hq2:2<=q)(ht:In t)(hv:PtL w v ps)(hps: ∀p∈ps,In p.1/\In p.2)(h1:1<=ps.length)(hl:ps.length<=256)(hi:Invs q (ps.map Prod.fst) vs):
 CC 37 #[NV q,NV t,v] w (.tuple #[NV (smN q (fac q t (ps.map Prod.fst) vs) ps ps.length),.int .i64 0]):=by
 have hv':=hv
 obtain⟨sl,gb,go,cap,rfl,_⟩:=hv
 have hxl:(ps.map Prod.fst).length=ps.length:=by simp
 have hxs: ∀z∈ps.map Prod.fst,In z:=fun z hz=>by
  obtain⟨p,hp,rfl⟩:=List.mem_map.1 hz
  exact(hps p hp).1
 refine combineOk q t _ sl _ cap (ps.map Prod.fst) vs w (cPtsOf hG hq hq2 hl h1) (fun u hB=>?_) (fun u bx hB hb hK=>?_) (fun u bx bd hB hb hd hKx hKd=>?_)
 ·obtain⟨sl',gb',go',cap',e,h2,h3,h4,h5,h6⟩:=hv'.up hB
  cases e
  exact allX_core sl gb' go' cap ps (ps.map Prod.fst) u hxl (fun k hk=>by simp[List.getElem?_map,List.getElem?_eq_getElem hk]) (PtL.ix h4) h5 h6 (by omega)
 ·exact cBaseOf q _ vs _ _ u hq hq2 (row_nl hb hK) hxs (by omega) hi
 ·exact cSumB q t _ vs ps _ _ _ bd u hq hq2 ht (row_nl hb hKx) hxs (by omega) hi hd hKd (hv'.up hB) (fun p hp=>(hps p hp).2) hxl
theorem xaddG_lt(a b m0 m1 m2 m3 r0 r1 r2 r3 ec:Int)(w:World)(ha:In a)(hb:In b)(hR:Hid (∀u,CC 25 #[WV (a+b),A4 m0 m1 m2 m3] u (.tuple #[A4 r0 r1 r2 r3,.int .i64 ec])))(hl:a+b<115792089237316195423570985008687907853269984665640564039457584007913129639936):CC 23 #[NV a,NV b,A4 m0 m1 m2 m3] w (.tuple #[A4 r0 r1 r2 r3,.int .i64 ec]):=by
 have hi:In (a+b):=⟨by have:=ha.1;have:=hb.1;omega,hl⟩
 go_enter Tryz.func23,Tryz.ntmps23
 go_upto_region 1 with fail
 generalize hC:((((w.alloc (.cells (LN a:List Value).toArray 24)).alloc (.cells (LN b:List Value).toArray 24)).alloc (.cells ([.int .u64 m0,.int .u64 m1,.int .u64 m2,.int .u64 m3]:List Value).toArray 24)).alloc (.cells (L0s:List Value).toArray 24))=v0 at *
 have HB0:Bw w v0:=by rw[<-hC];exact Z0 (Z0 (Z0 (Z0 (Z2 w) _) _) _) _
 have K0:Bk w.heap.size v0 [(true,w.heap.size,LN a),(true,w.heap.size+1,LN b),(true,w.heap.size+1+1,[.int .u64 m0,.int .u64 m1,.int .u64 m2,.int .u64 m3]),(true,w.heap.size+1+1+1,L0s)]:=by rw[<-hC];exact(Bk.nil _ w).ad.ad.ad.ad
 clear hC
 refine rgP K0 HB0 HB0.size [] [(6,8,L0s,some (7,LN (a+b)))] [(0,12,NV a),(1,13,NV b),(2,14,.tuple #[NV (a+b),.bool false]),(3,11,.tuple #[NV (a+b),.bool false]),(4,15,NV (a+b)),(5,16,.bool false),(8,9,.bool false)] [(7,6)] [] [false,false] ?_ ?_
 ·exact oc (g_ld 0 uN iN)<|oc (g_ld 1 uN iN)<|oc (g_cl Zt (fun uZ=>nrAdd_lt a b uZ ha hb hl))<|oc g_mv<|oc g_ex<|oc g_ex<|oc (g_al 0 aN)<|oc (g_sn 0 iN)<|oc g_as on
 intro u1 b1_6 HB1 sz1 K1
 simp only[sQ] at K1⊢
 clear K0 HB0
 go_upto_region 2 with fail
 refine rgP K1 HB1 HB1.size [] [(2,10,L0w,some (3,LW (a+b)))] [(0,17,NV (a+b)),(1,18,WV (a+b))] [(3,2)] [] [true,true,false] ?_ ?_
 ·exact oc (g_ld 2 uN iN)<|oc (g_cl Zp (fun uZ=>nrWiden (a+b) uZ hi))<|oc (g_al 0 aW)<|oc (g_sn 0 iW) on
 intro u2 b2_2 HB2 sz2 K2
 simp only[sQ] at K2⊢
 clear K1 HB1
 go_upto_region 5 with fail
 refine rgP K2 HB2 HB2.size [.no,.all 5 ([.int .u64 r0,.int .u64 r1,.int .u64 r2,.int .u64 r3])] [] [(0,21,WV (a+b)),(1,22,.agg #[.int .u64 m0,.int .u64 m1,.int .u64 m2,.int .u64 m3]),(2,23,.tuple #[A4 r0 r1 r2 r3,.int .i64 ec]),(3,24,A4 r0 r1 r2 r3),(4,25,.int .i64 ec),(6,7,.int .i64 ec)] [] [] [false,true,false] ?_ ?_
 ·exact oc (g_ld 2 uW iW)<|oc (g_ld 0 uN iN)<|oc (g_cl Zm (fun uZ=>hR.out uZ))<|oc g_ex<|oc g_ex<|oc (g_st 1 iN)<|oc g_as on
 intro u3 HB3 sz3 K3
 simp only[sQ] at K3⊢
 clear K2 HB2
 have c6:=(K3.cv 0).n4
 go_wp2
 refine bodyPost_ret (v:= .tuple #[A4 r0 r1 r2 r3,.int .i64 ec]) (by simp[results,Tryz.results23,go_sem,c6]) rfl ⟨rfl,HB3⟩
theorem xaddG_ge(a b m0 m1 m2 m3 r0 r1 r2 r3 ec:Int)(w:World)(ha:In a)(hb:In b)(hR:Hid (∀u,CC 25 #[WV (a+b),A4 m0 m1 m2 m3] u (.tuple #[A4 r0 r1 r2 r3,.int .i64 ec])))(hl:115792089237316195423570985008687907853269984665640564039457584007913129639936<=a+b):CC 23 #[NV a,NV b,A4 m0 m1 m2 m3] w (.tuple #[A4 r0 r1 r2 r3,.int .i64 ec]):=by
 have ha2:=ha.2;have hb2:=hb.2
 obtain⟨s,hs⟩: ∃s,a+b -115792089237316195423570985008687907853269984665640564039457584007913129639936=s:=⟨_,rfl⟩
 have hA:WV (a+b)=A8 (D0 s) (D1 s) (D2 s) (D3 s) 1 0 0 0:=WV_of (a+b) (D0 s) (D1 s) (D2 s) (D3 s) 1 0 0 0 (W_D0 s) (W_D1 s) (W_D2 s) (W_D3 s) ⟨by omega,by omega⟩ W_0 W_0 W_0 (by rw[V_In ⟨by omega,by omega⟩];simp[V];omega)
 rw[hA] at hR
 have nA:Hid (∀u,CC 42 #[NV a,NV b] u (.tuple #[NV s,.bool true])):=fun u=>by rw[<-hs];exact nrAdd_ge a b u ha hb hl
 clear hs hA ha2 hb2
 go_enter Tryz.func23,Tryz.ntmps23
 go_upto_region 1 with fail
 generalize hC:((((w.alloc (.cells (LN a:List Value).toArray 24)).alloc (.cells (LN b:List Value).toArray 24)).alloc (.cells ([.int .u64 m0,.int .u64 m1,.int .u64 m2,.int .u64 m3]:List Value).toArray 24)).alloc (.cells (L0s:List Value).toArray 24))=v0 at *
 have HB0:Bw w v0:=by rw[<-hC];exact Z0 (Z0 (Z0 (Z0 (Z2 w) _) _) _) _
 have K0:Bk w.heap.size v0 [(true,w.heap.size,LN a),(true,w.heap.size+1,LN b),(true,w.heap.size+1+1,[.int .u64 m0,.int .u64 m1,.int .u64 m2,.int .u64 m3]),(true,w.heap.size+1+1+1,L0s)]:=by rw[<-hC];exact(Bk.nil _ w).ad.ad.ad.ad
 clear hC
 refine rgP K0 HB0 HB0.size [] [(6,8,L0s,some (7,LN s))] [(0,12,NV a),(1,13,NV b),(2,14,.tuple #[NV s,.bool true]),(3,11,.tuple #[NV s,.bool true]),(4,15,NV s),(5,16,.bool true),(8,9,.bool true)] [(7,6)] [] [false,false] ?_ ?_
 ·exact oc (g_ld 0 uN iN)<|oc (g_ld 1 uN iN)<|oc (g_cl Zt (fun uZ=>nA.out uZ))<|oc g_mv<|oc g_ex<|oc g_ex<|oc (g_al 0 aN)<|oc (g_sn 0 iN)<|oc g_as on
 intro u1 b1_6 HB1 sz1 K1
 simp only[sQ] at K1⊢
 clear K0 HB0
 go_upto_region 2 with fail
 refine rgP K1 HB1 HB1.size [] [(2,10,L0w,some (3,[.int .u64 (D0 s),.int .u64 (D1 s),.int .u64 (D2 s),.int .u64 (D3 s),.int .u64 (0),.int .u64 (0),.int .u64 (0),.int .u64 (0)]))] [(0,17,NV s),(1,18,A8 (D0 s) (D1 s) (D2 s) (D3 s) (0) (0) (0) (0))] [(3,2)] [] [true,true,false] ?_ ?_
 ·exact oc (g_ld 2 uN iN)<|oc (g_cl Zp (fun uZ=>rWiden_any (D0 s) (D1 s) (D2 s) (D3 s) uZ (W_D0 s) (W_D1 s) (W_D2 s) (W_D3 s)))<|oc (g_al 0 aW)<|oc (g_sn 0 iW) on
 intro u2 b2_2 HB2 sz2 K2
 simp only[sQ] at K2⊢
 clear K1 HB1
 go_upto_region 4 with fail
 refine rgP K2 HB2 HB2.size [.no,.no,.cs [(4,1,(Go.Value.int Go.IntKind.u64 1))]] [] [(0,20,.pointer (some ⟨b2_2,4,none⟩))] [] [] [] ?_ ?_
 ·exact oc (g_ix (jW 4))<|oc (g_sc 2 0 sU) on
 intro u3 HB3 sz3 K3
 simp only[fX,nK,nP,Wr.f,aK,pM,List.foldl,List.set_cons_zero,List.set_cons_succ] at K3
 simp only[setG,setN,List.set_cons_zero,List.set_cons_succ]
 clear K2 HB2
 go_upto_region 5 with fail
 refine rgP K3 HB3 HB3.size [.no,.all 5 ([.int .u64 r0,.int .u64 r1,.int .u64 r2,.int .u64 r3])] [] [(0,21,.agg #[.int .u64 (D0 s),.int .u64 (D1 s),.int .u64 (D2 s),.int .u64 (D3 s),(Go.Value.int Go.IntKind.u64 1),.int .u64 (0),.int .u64 (0),.int .u64 (0)]),(1,22,.agg #[.int .u64 m0,.int .u64 m1,.int .u64 m2,.int .u64 m3]),(2,23,.tuple #[A4 r0 r1 r2 r3,.int .i64 ec]),(3,24,A4 r0 r1 r2 r3),(4,25,.int .i64 ec),(6,7,.int .i64 ec)] [] [] [false,true,false] ?_ ?_
 ·exact oc (g_ld 2 uW iW)<|oc (g_ld 0 uN iN)<|oc (g_cl Zm (fun uZ=>hR.out uZ))<|oc g_ex<|oc g_ex<|oc (g_st 1 iN)<|oc g_as on
 intro u4 HB4 sz4 K4
 simp only[sQ] at K4⊢
 clear K3 HB3
 have c6:=(K4.cv 0).n4
 go_wp2
 refine bodyPost_ret (v:= .tuple #[A4 r0 r1 r2 r3,.int .i64 ec]) (by simp[results,Tryz.results23,go_sem,c6]) rfl ⟨rfl,HB4⟩
theorem xaddG(a b m0 m1 m2 m3 r0 r1 r2 r3 ec:Int)(w:World)(ha:In a)(hb:In b)(hR:Hid (∀u,CC 25 #[WV (a+b),A4 m0 m1 m2 m3] u (.tuple #[A4 r0 r1 r2 r3,.int .i64 ec]))):CC 23 #[NV a,NV b,A4 m0 m1 m2 m3] w (.tuple #[A4 r0 r1 r2 r3,.int .i64 ec]):=by
 by_cases hl:a+b<115792089237316195423570985008687907853269984665640564039457584007913129639936
 ·exact xaddG_lt a b m0 m1 m2 m3 r0 r1 r2 r3 ec w ha hb hR hl
 ·exact xaddG_ge a b m0 m1 m2 m3 r0 r1 r2 r3 ec w ha hb hR (by omega)
theorem xAdd(a b m:Int)(w:World)(ha:In a)(hb:In b)(hm:In m)(h:m≠0):CC 23 #[NV a,NV b,NV m] w (.tuple #[NV ((a+b)%m),.int .i64 0]):=
 xaddG a b _ _ _ _ _ _ _ _ 0 w ha hb (fun u=>xReduce (a+b) m u ⟨by have:=ha.1;have:=hb.1;omega,by have:=ha.2;have:=hb.2;omega⟩ hm h)
end Go.Proofs.YtgieoghechekpaaGreatDoor
