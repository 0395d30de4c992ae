import Derived.Test.YtgieoghechekpaaGreatDoorAP7
namespace Go.Proofs.YtgieoghechekpaaGreatDoor
set_option linter.unusedVariables false
set_option linter.unusedSimpArgs false
set_option maxRecDepth 100000
set_option maxHeartbeats 4000000
open Go.RowKit
set_option maxHeartbeats 8000000 in
theorem factorsOk(q t:Int)(sl:Option Addr)(n cap:Nat)(vs fs:List Int)(w:World)
 (hP:Hid (∀u,Bw w u->CC 39 #[NV q,.int .i64 (n:Int)] u .nilIface))
 (hO:Hid (∀u,Bw w u->Calls Tryz.prog 40 #[NV q,.slice sl n cap] u fun e u'=> ∃vd,e= .returned (.tuple #[BX q (.slice sl n cap) vd,.nilIface])/\PRw u.heap.size vs u' vd/\Bw u u'))
 (hF:Hid (∀u bd,Bw w u->bd<u.heap.size->CV u bd (flN vs)->Calls Tryz.prog 41 #[BX q (.slice sl n cap) (.slice (some ⟨bd,0,none⟩) vs.length vs.length),NV t] u fun e u'=> ∃y,e= .returned y/\PRw u.heap.size fs u' y/\Bw u u')):
 Calls Tryz.prog 20 #[NV q,NV t,.slice sl n cap] w fun e u=> ∃y,e= .returned (.tuple #[y,.int .i64 0])/\PRw w.heap.size fs u y/\Bw w u:=by
 go_enter Tryz.func20,Tryz.ntmps20
 go_upto_region 1 with fail
 generalize e2:(w.alloc (.cells (LN q:List Value).toArray 24)).alloc (.cells (LN t:List Value).toArray 24)=w2 at *
 have hB2:Bw w w2:=by rw[<-e2];exact Z0 (Z0 (Z2 w) _) _
 have hs2:w2.heap.size=w.heap.size+2:=by rw[<-e2];simp
 have KQ:CV w2 w.heap.size (LN q):=by rw[<-e2];exact(CV.new w (LN q) 24).below (Z0 (Z2 _) _) (by simp)
 have KT:CV w2 (w.heap.size+1) (LN t):=by rw[<-e2];exact CV.newAt _ _ _ _ (by simp)
 clear e2
 have a0:=(KQ 0 _ rfl).1
 have a1:=(KQ 1 _ rfl).1
 have a2:=(KQ 2 _ rfl).1
 have a3:=(KQ 3 _ rfl).1
 have KQ:Hid (CV w2 w.heap.size (LN q)):=KQ
 have KT:Hid (CV w2 (w.heap.size+1) (LN t)):=KT
 have hP:=hP.out w2 hB2
 go_wp2_with (first
  | (go_at_call 39;refine hP.mono ?_;clear hP a0 a1 a2 a3;rintro e ua ⟨rfl,hBa⟩;replace KQ:Hid (CV ua w.heap.size (LN q)):=CV.below KQ.out hBa (by omega);replace KT:Hid (CV ua (w.heap.size+1) (LN t)):=CV.below KT.out hBa (by omega);have hsa:=hBa.size;replace hBa:=Z4 hB2 hBa;replace hO:=hO.out ua hBa;have a0:=(KQ.out 0 _ rfl).1;have a1:=(KQ.out 1 _ rfl).1;have a2:=(KQ.out 2 _ rfl).1;have a3:=(KQ.out 3 _ rfl).1)
  | (go_at_call 40;refine hO.mono ?_;clear hO a0 a1 a2 a3;rintro e ub ⟨vd,rfl,⟨bd,rfl,d1,d2,d3⟩,hBb⟩;replace KT:Hid (CV ub (w.heap.size+1) (LN t)):=CV.below KT.out hBb (by omega);have hsb:=hBb.size;replace hBb:=Z4 hBa hBb;have d3:Hid (CV ub bd (flN vs)):=d3;have a0:=fun o=>(CV.below KT.out (Z0 (Z2 ub) o) (by omega) 0 _ rfl).1;have a1:=fun o=>(CV.below KT.out (Z0 (Z2 ub) o) (by omega) 1 _ rfl).1;have a2:=fun o=>(CV.below KT.out (Z0 (Z2 ub) o) (by omega) 2 _ rfl).1;have a3:=fun o=>(CV.below KT.out (Z0 (Z2 ub) o) (by omega) 3 _ rfl).1)
  | (go_at_call 41;refine(hF.out (ub.alloc (.cells (BE q (.slice sl n cap) (.slice (some ⟨bd,0,none⟩) vs.length vs.length):List Value).toArray 76)) bd (Z0 hBb _) (by simp;omega) (CV.below d3.out (Z0 (Z2 ub) _) d2)).mono ?_;clear hF a0 a1 a2 a3;rintro e uc ⟨y,rfl,⟨by_,rfl,y1,y2,y3⟩,hBc⟩;replace hBc:=Z4 (Z0 hBb (.cells (BE q (.slice sl n cap) (.slice (some ⟨bd,0,none⟩) vs.length vs.length):List Value).toArray 76)) hBc;have y3:Hid _:=y3))
 exact bodyPost_ret (v:= .tuple #[.slice (some ⟨by_,0,none⟩) fs.length fs.length,.int .i64 0]) (by simp[results,Tryz.results20,go_sem]) rfl ⟨_,rfl,⟨by_,rfl,by have:=hBb.size;simp at y1;omega,y2,y3.out⟩,hBc⟩
theorem set6_K{u:World}{b:Nat}{v0 v1 v2 v3 v4 v5 c0 c1 c2 c3 c4 c5:Value}(h:CV u b [c0,c1,c2,c3,c4,c5]):CV ((((((u.setCell ⟨b,0,none⟩ v0).setCell ⟨b,1,none⟩ v1).setCell ⟨b,2,none⟩ v2).setCell ⟨b,3,none⟩ v3).setCell ⟨b,4,none⟩ v4).setCell ⟨b,5,none⟩ v5) b [v0,v1,v2,v3,v4,v5]:=
 (((((h.setC 0 (by simp) v0).setC 1 (by simp) v1).setC 2 (by simp) v2).setC 3 (by simp) v3).setC 4 (by simp) v4).setC 5 (by simp) v5
theorem CV.oset{u:World}{c:Nat}{l:List Value}(h:CV u c l)(a:Addr)(v:Value)(hne:c≠a.block):CV (u.setCell a v) c l:=h.blk (Below.heap_setCell u a v c hne)
theorem Xb{u:World}{b c:Nat}{v0 v1 v2 v3 v4 v5:Value}{l:List Value}(h:CV u c l)(hne:c≠b):CV ((((((u.setCell ⟨b,0,none⟩ v0).setCell ⟨b,1,none⟩ v1).setCell ⟨b,2,none⟩ v2).setCell ⟨b,3,none⟩ v3).setCell ⟨b,4,none⟩ v4).setCell ⟨b,5,none⟩ v5) c l:=
 (((((h.oset ⟨b,0,none⟩ v0 hne).oset ⟨b,1,none⟩ v1 hne).oset ⟨b,2,none⟩ v2 hne).oset ⟨b,3,none⟩ v3 hne).oset ⟨b,4,none⟩ v4 hne).oset ⟨b,5,none⟩ v5 hne
theorem set6_B{m b:Nat}{w u:World}{v0 v1 v2 v3 v4 v5:Value}(h:Below m w u)(hb:m<=b):Below m w ((((((u.setCell ⟨b,0,none⟩ v0).setCell ⟨b,1,none⟩ v1).setCell ⟨b,2,none⟩ v2).setCell ⟨b,3,none⟩ v3).setCell ⟨b,4,none⟩ v4).setCell ⟨b,5,none⟩ v5):=
 (((((h.setCell hb v0).setCell hb v1).setCell hb v2).setCell hb v3).setCell hb v4).setCell hb v5
set_option maxHeartbeats 8000000 in
theorem combineOk(q t r:Int)(sl:Option Addr)(n cap:Nat)(xs vs:List Int)(w:World)
 (hP:Hid (∀u,Bw w u->CC 39 #[NV q,.int .i64 (n:Int)] u .nilIface))
 (hA:Hid (∀u,Bw w u->Calls Tryz.prog 44 #[.slice sl n cap] u fun e u'=> ∃y,e= .returned y/\PRw u.heap.size xs u' y/\Bw u u'))
 (hO:Hid (∀u bx,Bw w u->bx<u.heap.size->CV u bx (flN xs)->Calls Tryz.prog 40 #[NV q,.slice (some ⟨bx,0,none⟩) xs.length xs.length] u fun e u'=> ∃vd,e= .returned (.tuple #[BX q (.slice (some ⟨bx,0,none⟩) xs.length xs.length) vd,.nilIface])/\PRw u.heap.size vs u' vd/\Bw u u'))
 (hS:Hid (∀u bx bd,Bw w u->bx<u.heap.size->bd<u.heap.size->CV u bx (flN xs)->CV u bd (flN vs)->CC 46 #[BX q (.slice (some ⟨bx,0,none⟩) xs.length xs.length) (.slice (some ⟨bd,0,none⟩) vs.length vs.length),NV t,.slice sl n cap] u (NV r))):
 CC 37 #[NV q,NV t,.slice sl n cap] w (.tuple #[NV r,.int .i64 0]):=by
 go_enter Tryz.func37,Tryz.ntmps37
 go_upto_region 1 with fail
 generalize e2:((w.alloc (.cells (LN q:List Value).toArray 24)).alloc (.cells (LN t:List Value).toArray 24)).alloc (.cells (L0s:List Value).toArray 24)=w2 at *
 have hB2:Bw w w2:=by rw[<-e2];exact Z0 (Z0 (Z0 (Z2 w) _) _) _
 have hs2:w2.heap.size=w.heap.size+3:=by rw[<-e2];simp
 have KQ:CV w2 w.heap.size (LN q):=by rw[<-e2];exact((CV.new w (LN q) 24).below (Z0 (Z2 _) _) (by simp)).below (Z0 (Z2 _) _) (by first | omega | (simp<;>omega))
 have KT:CV w2 (w.heap.size+1) (LN t):=by rw[<-e2];exact(CV.newAt _ _ _ _ (by simp)).below (Z0 (Z2 _) _) (by simp)
 have KR:CV w2 (w.heap.size+2) L0s:=by rw[<-e2];exact CV.newAt _ _ _ _ (by simp)
 clear e2
 have a0:=(KQ 0 _ rfl).1
 have a1:=(KQ 1 _ rfl).1
 have a2:=(KQ 2 _ rfl).1
 have a3:=(KQ 3 _ rfl).1
 have KQ:Hid (CV w2 w.heap.size (LN q)):=KQ
 have KT:Hid (CV w2 (w.heap.size+1) (LN t)):=KT
 have KR:Hid (CV w2 (w.heap.size+2) L0s):=KR
 have hP:=hP.out w2 hB2
 go_upto_region 4 with(go_at_call 39;refine hP.mono ?_;clear hP a0 a1 a2 a3;rintro e ua ⟨rfl,hBa⟩;replace KQ:Hid (CV ua w.heap.size (LN q)):=CV.below KQ.out hBa (by omega);replace KT:Hid (CV ua (w.heap.size+1) (LN t)):=CV.below KT.out hBa (by omega);replace KR:Hid (CV ua (w.heap.size+2) L0s):=CV.below KR.out hBa (by omega);have hsa:=hBa.size;replace hBa:=Z4 hB2 hBa;have a0:=(KQ.out 0 _ rfl).1;have a1:=(KQ.out 1 _ rfl).1;have a2:=(KQ.out 2 _ rfl).1;have a3:=(KQ.out 3 _ rfl).1;have b0:=fun o=>(CV.below KQ.out (Z0 (Z2 ua) o) (by omega) 0 _ rfl).1;have b1:=fun o=>(CV.below KQ.out (Z0 (Z2 ua) o) (by omega) 1 _ rfl).1;have b2:=fun o=>(CV.below KQ.out (Z0 (Z2 ua) o) (by omega) 2 _ rfl).1;have b3:=fun o=>(CV.below KQ.out (Z0 (Z2 ua) o) (by omega) 3 _ rfl).1)
 go_cut [9,10] (fun s9 s10 wx=> ∃b bx bd,s9= .pointer (some ⟨b,0,none⟩)/\s10= .nilIface/\Bw w wx/\b<wx.heap.size/\w.heap.size+2<b/\bx<wx.heap.size/\bd<wx.heap.size/\CV wx b (BE q (.slice (some ⟨bx,0,none⟩) xs.length xs.length) (.slice (some ⟨bd,0,none⟩) vs.length vs.length))/\CV wx bx (flN xs)/\CV wx bd (flN vs)/\CV wx (w.heap.size+1) (LN t)/\CV wx (w.heap.size+2) L0s)
 case first=>
  go_region_with (first | (go_at_call 44;refine(hA.out ua.drew hBa.drew).mono ?_;go_must (clear a0 a1 a2 a3 b0 b1 b2 b3;rintro e ub ⟨y,rfl,⟨bx,rfl,x1,x2,x3⟩,hBb⟩;replace KQ:Hid (CV ub w.heap.size (LN q)):=CV.below (CV.drew KQ.out) hBb (by first | omega | (simp<;>omega));replace KT:Hid (CV ub (w.heap.size+1) (LN t)):=CV.below (CV.drew KT.out) hBb (by first | omega | (simp<;>omega));replace KR:Hid (CV ub (w.heap.size+2) L0s):=CV.below (CV.drew KR.out) hBb (by first | omega | (simp<;>omega));have hsb:ua.heap.size<=ub.heap.size:=(by have:=hBb.size;first | omega | (simp at this;omega));skip;replace hBb:=Z4 hBa.drew hBb;have x3:Hid (CV ub bx (flN xs)):=x3;have a0:=(KQ.out 0 _ rfl).1;have a1:=(KQ.out 1 _ rfl).1;have a2:=(KQ.out 2 _ rfl).1;have a3:=(KQ.out 3 _ rfl).1;have b0:=fun o=>(CV.below KQ.out (Z0 (Z2 ub) o) (by omega) 0 _ rfl).1;have b1:=fun o=>(CV.below KQ.out (Z0 (Z2 ub) o) (by omega) 1 _ rfl).1;have b2:=fun o=>(CV.below KQ.out (Z0 (Z2 ub) o) (by omega) 2 _ rfl).1;have b3:=fun o=>(CV.below KQ.out (Z0 (Z2 ub) o) (by omega) 3 _ rfl).1)) | (go_at_call 44;refine(hA.out (ua.alloc (.cells (L0b:List Value).toArray 76)).drew (Z0 hBa (.cells (L0b:List Value).toArray 76)).drew).mono ?_;go_must (clear a0 a1 a2 a3 b0 b1 b2 b3;rintro e ub ⟨y,rfl,⟨bx,rfl,x1,x2,x3⟩,hBb⟩;replace KQ:=CV.below KQ.out (Z0 (Z2 ua) (.cells (L0b:List Value).toArray 76)) (by omega);replace KT:=CV.below KT.out (Z0 (Z2 ua) (.cells (L0b:List Value).toArray 76)) (by omega);replace KR:=CV.below KR.out (Z0 (Z2 ua) (.cells (L0b:List Value).toArray 76)) (by omega);have KZ:CV ub ua.heap.size L0b:=CV.below (CV.drew (CV.new ua L0b 76)) hBb (by simp);replace KQ:Hid (CV ub w.heap.size (LN q)):=CV.below (CV.drew KQ) hBb (by first | omega | (simp<;>omega));replace KT:Hid (CV ub (w.heap.size+1) (LN t)):=CV.below (CV.drew KT) hBb (by first | omega | (simp<;>omega));replace KR:Hid (CV ub (w.heap.size+2) L0s):=CV.below (CV.drew KR) hBb (by first | omega | (simp<;>omega));have hsb:ua.heap.size<=ub.heap.size:=(by have:=hBb.size;first | omega | (simp at this;omega));have hx0:ua.heap.size<bx:=(by first | omega | (simp at x1;omega));have KZ:Hid (CV ub ua.heap.size L0b):=KZ;replace hBb:=Z4 (Z0 hBa (.cells (L0b:List Value).toArray 76)).drew hBb;have x3:Hid (CV ub bx (flN xs)):=x3;have a0:=(KQ.out 0 _ rfl).1;have a1:=(KQ.out 1 _ rfl).1;have a2:=(KQ.out 2 _ rfl).1;have a3:=(KQ.out 3 _ rfl).1;have b0:=fun o=>(CV.below KQ.out (Z0 (Z2 ub) o) (by omega) 0 _ rfl).1;have b1:=fun o=>(CV.below KQ.out (Z0 (Z2 ub) o) (by omega) 1 _ rfl).1;have b2:=fun o=>(CV.below KQ.out (Z0 (Z2 ub) o) (by omega) 2 _ rfl).1;have b3:=fun o=>(CV.below KQ.out (Z0 (Z2 ub) o) (by omega) 3 _ rfl).1)) | (go_at_call 40;have _:=KZ;refine(hO.out ub bx hBb (by first | omega | (simp<;>omega)) (x3.out)).mono ?_;go_must (clear a0 a1 a2 a3 b0 b1 b2 b3;rintro e uc ⟨vd,rfl,⟨bd,rfl,d1,d2,d3⟩,hBc⟩;replace KZ:Hid (CV uc ua.heap.size L0b):=CV.below KZ.out hBc (by omega);replace KQ:Hid (CV uc w.heap.size (LN q)):=CV.below KQ.out hBc (by omega);replace KT:Hid (CV uc (w.heap.size+1) (LN t)):=CV.below KT.out hBc (by omega);replace KR:Hid (CV uc (w.heap.size+2) L0s):=CV.below KR.out hBc (by omega);replace x3:Hid (CV uc bx (flN xs)):=CV.below x3.out hBc x2;have hsc:ub.heap.size<=uc.heap.size:=(by have:=hBc.size;first | omega | (simp at this;omega));replace hBc:=Z4 hBb hBc;have z0:=(KZ.out 0 _ rfl).1;have zf0:=(KZ.out 0 _ rfl).2;have z1:=(KZ.out 1 _ rfl).1;have zf1:=(KZ.out 1 _ rfl).2;have z2:=(KZ.out 2 _ rfl).1;have zf2:=(KZ.out 2 _ rfl).2;have z3:=(KZ.out 3 _ rfl).1;have zf3:=(KZ.out 3 _ rfl).2;have z4:=(KZ.out 4 _ rfl).1;have zf4:=(KZ.out 4 _ rfl).2;have z5:=(KZ.out 5 _ rfl).1;have zf5:=(KZ.out 5 _ rfl).2;have d3:Hid (CV uc bd (flN vs)):=d3)) | (go_at_call 40;refine(hO.out ub bx hBb (by first | omega | (simp<;>omega)) (x3.out)).mono ?_;go_must (clear a0 a1 a2 a3 b0 b1 b2 b3;rintro e uc ⟨vd,rfl,⟨bd,rfl,d1,d2,d3⟩,hBc⟩;replace KQ:Hid (CV uc w.heap.size (LN q)):=CV.below KQ.out hBc (by omega);replace KT:Hid (CV uc (w.heap.size+1) (LN t)):=CV.below KT.out hBc (by omega);replace KR:Hid (CV uc (w.heap.size+2) L0s):=CV.below KR.out hBc (by omega);replace x3:Hid (CV uc bx (flN xs)):=CV.below x3.out hBc x2;have hsc:ub.heap.size<=uc.heap.size:=(by have:=hBc.size;first | omega | (simp at this;omega));replace hBc:=Z4 hBb hBc;have d3:Hid (CV uc bd (flN vs)):=d3)) | (go_at_call 40;refine(hO.out (ub.alloc (.cells (L0b:List Value).toArray 76)) bx (Z0 hBb (.cells (L0b:List Value).toArray 76)) (by first | omega | (simp<;>omega)) (CV.below x3.out (Z0 (Z2 ub) (.cells (L0b:List Value).toArray 76)) x2)).mono ?_;go_must (clear a0 a1 a2 a3 b0 b1 b2 b3;rintro e uc ⟨vd,rfl,⟨bd,rfl,d1,d2,d3⟩,hBc⟩;have KZ:Hid (CV uc ub.heap.size L0b):=CV.below (CV.new ub L0b 76) hBc (by simp);replace x3:Hid (CV uc bx (flN xs)):=CV.below (CV.below x3.out (Z0 (Z2 ub) (.cells (L0b:List Value).toArray 76)) x2) hBc (by first | omega | (simp<;>omega));replace KT:Hid (CV uc (w.heap.size+1) (LN t)):=CV.below (CV.below KT.out (Z0 (Z2 ub) (.cells (L0b:List Value).toArray 76)) (by omega)) hBc (by first | omega | (simp<;>omega));replace KR:Hid (CV uc (w.heap.size+2) L0s):=CV.below (CV.below KR.out (Z0 (Z2 ub) (.cells (L0b:List Value).toArray 76)) (by omega)) hBc (by first | omega | (simp<;>omega));have hsc:ub.heap.size<=uc.heap.size:=(by have:=hBc.size;first | omega | (simp at this;omega));replace hBc:=Z4 (Z0 hBb (.cells (L0b:List Value).toArray 76)) hBc;have hd0:ub.heap.size<bd:=(by first | omega | (simp at d1;omega));have z0:=(KZ.out 0 _ rfl).1;have zf0:=(KZ.out 0 _ rfl).2;have z1:=(KZ.out 1 _ rfl).1;have zf1:=(KZ.out 1 _ rfl).2;have z2:=(KZ.out 2 _ rfl).1;have zf2:=(KZ.out 2 _ rfl).2;have z3:=(KZ.out 3 _ rfl).1;have zf3:=(KZ.out 3 _ rfl).2;have z4:=(KZ.out 4 _ rfl).1;have zf4:=(KZ.out 4 _ rfl).2;have z5:=(KZ.out 5 _ rfl).1;have zf5:=(KZ.out 5 _ rfl).2;have d3:Hid (CV uc bd (flN vs)):=d3)))
  all_goals (go_wp2_with fail;go_meet;first | (refine⟨uc.heap.size,bx,bd,rfl,rfl,?_⟩;exact⟨Z0 hBc _,by simp,by omega,(by first | omega | (simp<;>omega)),(by first | omega | (simp<;>omega)),CV.new uc _ _,CV.below x3.out (Z0 (Z2 uc) _) (by omega),CV.below d3.out (Z0 (Z2 uc) _) d2,CV.below KT.out (Z0 (Z2 uc) _) (by omega),CV.below KR.out (Z0 (Z2 uc) _) (by omega)⟩) | (refine⟨ua.heap.size,bx,bd,rfl,rfl,?_⟩;exact⟨set6_B hBc (by omega),(by first | omega | (simp<;>omega)),by omega,(by first | omega | (simp<;>omega)),(by first | omega | (simp<;>omega)),set6_K KZ.out,Xb x3.out (by omega),Xb d3.out (by omega),Xb KT.out (by omega),Xb KR.out (by omega)⟩) | (refine⟨ub.heap.size,bx,bd,rfl,rfl,?_⟩;exact⟨set6_B hBc (by omega),(by first | omega | (simp<;>omega)),by omega,(by first | omega | (simp<;>omega)),(by first | omega | (simp<;>omega)),set6_K KZ.out,Xb x3.out (by omega),Xb d3.out (by omega),Xb KT.out (by omega),Xb KR.out (by omega)⟩))
 case rest=>
  obtain⟨b,bx,bd,rfl,rfl,hBw,hb,hbw,hbx,hbd,KB,KX,KD,KT,KR⟩:=hcut
  have hS:=hS.out wc bx bd hBw hbx hbd KX KD
  have c0:=(KB 0 _ rfl).1
  have c1:=(KB 1 _ rfl).1
  have c2:=(KB 2 _ rfl).1
  have c3:=(KB 3 _ rfl).1
  have c4:=(KB 4 _ rfl).1
  have c5:=(KB 5 _ rfl).1
  have t0:=(KT 0 _ rfl).1
  have t1:=(KT 1 _ rfl).1
  have t2:=(KT 2 _ rfl).1
  have t3:=(KT 3 _ rfl).1
  have KR:Hid (CV wc (w.heap.size+2) L0s):=KR
  clear KB KX KD KT
  go_wp2_with (go_at_call 46;refine hS.mono ?_;go_must (clear hS c0 c1 c2 c3 c4 c5 t0 t1 t2 t3;rintro e ue ⟨rfl,hBe⟩;have KR:=CV.below KR.out hBe (by omega);have r0:=KR 0 _ rfl;have r1:=KR 1 _ rfl;have r2:=KR 2 _ rfl;have r3:=KR 3 _ rfl;obtain⟨r0,f0⟩:=r0;obtain⟨r1,f1⟩:=r1;obtain⟨r2,f2⟩:=r2;obtain⟨r3,f3⟩:=r3;replace hBe:=Z4 hBw hBe))
  exact bodyPost_ret (v:= .tuple #[NV r,.int .i64 0]) (by simp[results,Tryz.results37,go_sem,r0,r1,r2,r3]) rfl ⟨rfl,(((hBe.setCell (by simp;omega) _).setCell (by simp;omega) _).setCell (by simp;omega) _).setCell (by simp;omega) _⟩
end Go.Proofs.YtgieoghechekpaaGreatDoor
