import Derived.Test.YtbbohmgjphpfeaaGreatDoorPK
import Derived.Test.YtbbohmgjphpfeaaGreatDoorRows
import Derived.Test.YtbbohmgjphpfeaaGreatDoorTie
import Derived.Test.YtbbohmgjphpfeaaGreatDoorCards
import Derived.LaidMore
import Derived.SevenTiedAt
namespace Go.Proofs.YtbbohmgjphpfeaaGreatDoor
set_option linter.unusedVariables false
set_option linter.unusedSimpArgs false
set_option maxRecDepth 100000
set_option maxHeartbeats 4000000
section
open Go.RowKit
section
theorem neq_no(p:Operand)(c:Value)(w:World):(do eqGuard .neq 90 p (.const c) .nilIface .nilIface;binOp .neq 90 .nilIface .nilIface:Sem Value).run Tryz.prog w= .ok (.bool false) w:=by go_simp
theorem cviP{o:Oper}{ev:Operand->Value}{x:Operand}{n:Int}(u:World)(h0:0<=n)(h1:n<=9223372036854775807)(ho:o.op= .convert 3 22 x)(hx:ev x= .int .i64 n):(execOp ev o).run Tryz.prog u= .ok (.value (.int .u64 n)) u:=by
 have e1:IntKind.u64.wrap n=n:=by simp[IntKind.wrap,IntKind.signed,IntKind.bits];omega
 unfold execOp;rw[ho];simp only[hx];go_simp
def PE0(u:World)(v:Value):Prop:= ∃b,v= .slice (some ⟨b,0,none⟩) 2 2/\b<u.heap.size/\u.cell? ⟨b,0,none⟩=some .nilIface/\u.cell? ⟨b,1,none⟩=some .nilIface
theorem PE0.stab{u u2:World}{x:Value}(hB:Bw u u2)(h:PE0 u x):PE0 u2 x:=by
 obtain⟨b,e,h1,h2,h3⟩:=h
 exact⟨b,e,Nat.lt_of_lt_of_le h1 hB.size,(hB.cell (p:=⟨b,0,none⟩) h1).trans h2,(hB.cell (p:=⟨b,1,none⟩) h1).trans h3⟩
theorem PE0.new(u:World):PE0 (u.alloc (.cells [Value.nilIface,.nilIface].toArray 90)) (.slice (some ⟨u.heap.size,0,none⟩) 2 2):=⟨_,rfl,by simp,by simp,by simp⟩
def PRy(lo n:Nat)(u:World)(v:Value):Prop:= ∃b,v= .slice (some ⟨b,0,none⟩) n n/\lo<=b/\b<u.heap.size/\CV u b (flN (List.replicate (2*n) 0))
theorem PRy.stab{lo n:Nat}{u u2:World}{x:Value}(hB:Bw u u2)(h:PRy lo n u x):PRy lo n u2 x:=by
 obtain⟨b,e,h1,h2,h3⟩:=h
 exact⟨b,e,h1,Nat.lt_of_lt_of_le h2 hB.size,h3.below hB h2⟩
theorem PRy.new{lo n:Nat}{T:TypeId}(u:World)(h:lo<=u.heap.size):PRy lo n (u.alloc (.cells (flN (List.replicate (2*n) 0)).toArray T)) (.slice (some ⟨u.heap.size,0,none⟩) n n):=
 ⟨_,rfl,h,by simp,CV.new u _ _⟩
section
variable {R:Rg} {P:Program} {Q:Exit->Act->World->Prop} {ops:Array Oper} {i:Nat} {o:Oper}
end
theorem U6:EnT 67:=fun _ _=>by kernel_rfl
theorem ent_poly_value:EnT 69:=fun _ _=>by kernel_rfl
theorem eval_ok(q x r:Int)(sl:Option Addr)(n cap:Nat)(w:World)(hP:Hid (∀u,Bw w u->CC 67 #[NV q,.slice sl n cap] u (.nilIface)))(hV:Hid (∀u,Bw w u->CC 69 #[NV q,.slice sl n cap,NV x] u (NV r))):
 CC 42 #[NV q,.slice sl n cap,NV x] w (.tuple #[NV r,.int .i64 0]):=by
 go_enter Tryz.func42,Tryz.ntmps42
 go_upto_region 1 with fail
 obtain⟨v0,hC,HB0,K0⟩:=bx3 w (LN q) 24 (LN x) 24 L0s 24
 rw[hC]
 clear hC
 apply Rn K0 HB0 [(0,9,_),(1,10,_),(2,11,_),(3,8,_)]
 ·exact oc (g_ld 0 uN iN)<|oc g_mv<|oc (g_cb U6 hP.out)<|oc g_as on
 intro u1 HB1 sz1 K1
 simp only[sQ] at K1⊢
 clear K0 HB0
 go_upto_region 2 with fail
 apply Rn K1 HB1 [(0,12,_),(1,13,_)]
 ·exact oc g_mv<|oc (g_bn (neq_no _ _)) on
 intro u2 HB2 sz2 K2
 simp only[sQ] at K2⊢
 clear K1 HB1
 go_upto_region 4 with fail
 apply Rp K2 HB2 [.no,.no,.all 4 (LN r)] [] [(0,17,_),(1,18,_),(2,19,_),(3,20,_),(5,7,_)] [] [] [false,false]
 ·exact oc (g_ld 0 uN iN)<|oc g_mv<|oc (g_ld 1 uN iN)<|oc (g_cb ent_poly_value hV.out)<|oc (g_st 2 iN)<|oc g_as on
 intro u3 HB3 sz3 K3
 simp only[sQ] at K3⊢
 clear K2 HB2
 have c6:=(K3.cv 0).n4
 go_wp2
 refine bodyPost_ret (v:= .tuple #[NV r,.int .i64 0]) (by simp[results,Tryz.results42,go_sem,c6]) rfl ⟨rfl,HB3⟩
end
theorem set6_K{u:World}{b:Nat}{v0 v1 v2 v3 v4 v5 c0 c1 c2 c3 c4 c5:Value}(h:CV u b [c0,c1,c2,c3,c4,c5]):CV ((((((u.setCell ⟨b,0,none⟩ v0).setCell ⟨b,1,none⟩ v1).setCell ⟨b,2,none⟩ v2).setCell ⟨b,3,none⟩ v3).setCell ⟨b,4,none⟩ v4).setCell ⟨b,5,none⟩ v5) b [v0,v1,v2,v3,v4,v5]:=
 (((((h.setC 0 (by simp) v0).setC 1 (by simp) v1).setC 2 (by simp) v2).setC 3 (by simp) v3).setC 4 (by simp) v4).setC 5 (by simp) v5
theorem CV.oset{u:World}{c:Nat}{l:List Value}(h:CV u c l)(a:Addr)(v:Value)(hne:c≠a.block):CV (u.setCell a v) c l:=h.blk (Below.heap_setCell u a v c hne)
theorem Tm{u:World}{b c:Nat}{v0 v1 v2 v3 v4 v5:Value}{l:List Value}(h:CV u c l)(hne:c≠b):CV ((((((u.setCell ⟨b,0,none⟩ v0).setCell ⟨b,1,none⟩ v1).setCell ⟨b,2,none⟩ v2).setCell ⟨b,3,none⟩ v3).setCell ⟨b,4,none⟩ v4).setCell ⟨b,5,none⟩ v5) c l:=
 (((((h.oset ⟨b,0,none⟩ v0 hne).oset ⟨b,1,none⟩ v1 hne).oset ⟨b,2,none⟩ v2 hne).oset ⟨b,3,none⟩ v3 hne).oset ⟨b,4,none⟩ v4 hne).oset ⟨b,5,none⟩ v5 hne
theorem set6_B{m b:Nat}{w u:World}{v0 v1 v2 v3 v4 v5:Value}(h:Below m w u)(hb:m<=b):Below m w ((((((u.setCell ⟨b,0,none⟩ v0).setCell ⟨b,1,none⟩ v1).setCell ⟨b,2,none⟩ v2).setCell ⟨b,3,none⟩ v3).setCell ⟨b,4,none⟩ v4).setCell ⟨b,5,none⟩ v5):=
 (((((h.setCell hb v0).setCell hb v1).setCell hb v2).setCell hb v3).setCell hb v4).setCell hb v5
set_option maxHeartbeats 8000000 in
theorem combineOk(q t r:Int)(sl:Option Addr)(n cap:Nat)(xs vs:List Int)(w:World)
 (hP:Hid (∀u,Bw w u->CC 76 #[NV q,.int .i64 (n:Int)] u .nilIface))
 (hA:Hid (∀u,Bw w u->Calls Tryz.prog 78 #[.slice sl n cap] u fun e u'=> ∃y,e= .returned y/\PRw u.heap.size xs u' y/\Bw u u'))
 (hO:Hid (∀u bx,Bw w u->bx<u.heap.size->CV u bx (flN xs)->Calls Tryz.prog 77 #[NV q,.slice (some ⟨bx,0,none⟩) xs.length xs.length] u fun e u'=> ∃vd,e= .returned (.tuple #[BX q (.slice (some ⟨bx,0,none⟩) xs.length xs.length) vd,.nilIface])/\PRw u.heap.size vs u' vd/\Bw u u'))
 (hS:Hid (∀u bx bd,Bw w u->bx<u.heap.size->bd<u.heap.size->CV u bx (flN xs)->CV u bd (flN vs)->CC 79 #[BX q (.slice (some ⟨bx,0,none⟩) xs.length xs.length) (.slice (some ⟨bd,0,none⟩) vs.length vs.length),NV t,.slice sl n cap] u (NV r))):
 CC 55 #[NV q,NV t,.slice sl n cap] w (.tuple #[NV r,.int .i64 0]):=by
 go_enter Tryz.func55,Tryz.ntmps55
 go_upto_region 1 with fail
 generalize e2:((w.alloc (.cells (LN q:List Value).toArray 24)).alloc (.cells (LN t:List Value).toArray 24)).alloc (.cells (L0s:List Value).toArray 24)=w2 at *
 have hB2:Bw w w2:=by rw[<-e2];exact Z1 (Z1 (Z1 (Z9 w) _) _) _
 have hs2:w2.heap.size=w.heap.size+3:=by rw[<-e2];simp
 have KQ:CV w2 w.heap.size (LN q):=by rw[<-e2];exact((CV.new w (LN q) 24).below (Z1 (Z9 _) _) (by simp)).below (Z1 (Z9 _) _) (by first | omega | (simp<;>omega))
 have KT:CV w2 (w.heap.size+1) (LN t):=by rw[<-e2];exact(CV.newAt _ _ _ _ (by simp)).below (Z1 (Z9 _) _) (by simp)
 have KR:CV w2 (w.heap.size+2) L0s:=by rw[<-e2];exact CV.newAt _ _ _ _ (by simp)
 clear e2
 have a0:=(KQ 0 _ rfl).1
 have a1:=(KQ 1 _ rfl).1
 have a2:=(KQ 2 _ rfl).1
 have a3:=(KQ 3 _ rfl).1
 have KQ:Hid (CV w2 w.heap.size (LN q)):=KQ
 have KT:Hid (CV w2 (w.heap.size+1) (LN t)):=KT
 have KR:Hid (CV w2 (w.heap.size+2) L0s):=KR
 have hP:=hP.out w2 hB2
 go_upto_region 4 with(go_at_call 76;refine hP.mono ?_;clear hP a0 a1 a2 a3;rintro e ua ⟨rfl,hBa⟩;replace KQ:Hid (CV ua w.heap.size (LN q)):=CV.below KQ.out hBa (by omega);replace KT:Hid (CV ua (w.heap.size+1) (LN t)):=CV.below KT.out hBa (by omega);replace KR:Hid (CV ua (w.heap.size+2) L0s):=CV.below KR.out hBa (by omega);have hsa:=hBa.size;replace hBa:=Z6 hB2 hBa;have a0:=(KQ.out 0 _ rfl).1;have a1:=(KQ.out 1 _ rfl).1;have a2:=(KQ.out 2 _ rfl).1;have a3:=(KQ.out 3 _ rfl).1;have b0:=fun o=>(CV.below KQ.out (Z1 (Z9 ua) o) (by omega) 0 _ rfl).1;have b1:=fun o=>(CV.below KQ.out (Z1 (Z9 ua) o) (by omega) 1 _ rfl).1;have b2:=fun o=>(CV.below KQ.out (Z1 (Z9 ua) o) (by omega) 2 _ rfl).1;have b3:=fun o=>(CV.below KQ.out (Z1 (Z9 ua) o) (by omega) 3 _ rfl).1)
 go_cut [9,10] (fun s9 s10 wx=> ∃b bx bd,s9= .pointer (some ⟨b,0,none⟩)/\s10= .nilIface/\Bw w wx/\b<wx.heap.size/\w.heap.size+2<b/\bx<wx.heap.size/\bd<wx.heap.size/\CV wx b (BE q (.slice (some ⟨bx,0,none⟩) xs.length xs.length) (.slice (some ⟨bd,0,none⟩) vs.length vs.length))/\CV wx bx (flN xs)/\CV wx bd (flN vs)/\CV wx (w.heap.size+1) (LN t)/\CV wx (w.heap.size+2) L0s)
 case first=>
  go_region_with (first | (go_at_call 78;refine(hA.out ua.drew hBa.drew).mono ?_;go_must (clear a0 a1 a2 a3 b0 b1 b2 b3;rintro e ub ⟨y,rfl,⟨bx,rfl,x1,x2,x3⟩,hBb⟩;replace KQ:Hid (CV ub w.heap.size (LN q)):=CV.below (CV.drew KQ.out) hBb (by first | omega | (simp<;>omega));replace KT:Hid (CV ub (w.heap.size+1) (LN t)):=CV.below (CV.drew KT.out) hBb (by first | omega | (simp<;>omega));replace KR:Hid (CV ub (w.heap.size+2) L0s):=CV.below (CV.drew KR.out) hBb (by first | omega | (simp<;>omega));have hsb:ua.heap.size<=ub.heap.size:=(by have:=hBb.size;first | omega | (simp at this;omega));skip;replace hBb:=Z6 hBa.drew hBb;have x3:Hid (CV ub bx (flN xs)):=x3;have a0:=(KQ.out 0 _ rfl).1;have a1:=(KQ.out 1 _ rfl).1;have a2:=(KQ.out 2 _ rfl).1;have a3:=(KQ.out 3 _ rfl).1;have b0:=fun o=>(CV.below KQ.out (Z1 (Z9 ub) o) (by omega) 0 _ rfl).1;have b1:=fun o=>(CV.below KQ.out (Z1 (Z9 ub) o) (by omega) 1 _ rfl).1;have b2:=fun o=>(CV.below KQ.out (Z1 (Z9 ub) o) (by omega) 2 _ rfl).1;have b3:=fun o=>(CV.below KQ.out (Z1 (Z9 ub) o) (by omega) 3 _ rfl).1)) | (go_at_call 78;refine(hA.out (ua.alloc (.cells (L0b:List Value).toArray 105)).drew (Z1 hBa (.cells (L0b:List Value).toArray 105)).drew).mono ?_;go_must (clear a0 a1 a2 a3 b0 b1 b2 b3;rintro e ub ⟨y,rfl,⟨bx,rfl,x1,x2,x3⟩,hBb⟩;replace KQ:=CV.below KQ.out (Z1 (Z9 ua) (.cells (L0b:List Value).toArray 105)) (by omega);replace KT:=CV.below KT.out (Z1 (Z9 ua) (.cells (L0b:List Value).toArray 105)) (by omega);replace KR:=CV.below KR.out (Z1 (Z9 ua) (.cells (L0b:List Value).toArray 105)) (by omega);have KZ:CV ub ua.heap.size L0b:=CV.below (CV.drew (CV.new ua L0b 105)) hBb (by simp);replace KQ:Hid (CV ub w.heap.size (LN q)):=CV.below (CV.drew KQ) hBb (by first | omega | (simp<;>omega));replace KT:Hid (CV ub (w.heap.size+1) (LN t)):=CV.below (CV.drew KT) hBb (by first | omega | (simp<;>omega));replace KR:Hid (CV ub (w.heap.size+2) L0s):=CV.below (CV.drew KR) hBb (by first | omega | (simp<;>omega));have hsb:ua.heap.size<=ub.heap.size:=(by have:=hBb.size;first | omega | (simp at this;omega));have hx0:ua.heap.size<bx:=(by first | omega | (simp at x1;omega));have KZ:Hid (CV ub ua.heap.size L0b):=KZ;replace hBb:=Z6 (Z1 hBa (.cells (L0b:List Value).toArray 105)).drew hBb;have x3:Hid (CV ub bx (flN xs)):=x3;have a0:=(KQ.out 0 _ rfl).1;have a1:=(KQ.out 1 _ rfl).1;have a2:=(KQ.out 2 _ rfl).1;have a3:=(KQ.out 3 _ rfl).1;have b0:=fun o=>(CV.below KQ.out (Z1 (Z9 ub) o) (by omega) 0 _ rfl).1;have b1:=fun o=>(CV.below KQ.out (Z1 (Z9 ub) o) (by omega) 1 _ rfl).1;have b2:=fun o=>(CV.below KQ.out (Z1 (Z9 ub) o) (by omega) 2 _ rfl).1;have b3:=fun o=>(CV.below KQ.out (Z1 (Z9 ub) o) (by omega) 3 _ rfl).1)) | (go_at_call 77;have _:=KZ;refine(hO.out ub bx hBb (by first | omega | (simp<;>omega)) (x3.out)).mono ?_;go_must (clear a0 a1 a2 a3 b0 b1 b2 b3;rintro e uc ⟨vd,rfl,⟨bd,rfl,d1,d2,d3⟩,hBc⟩;replace KZ:Hid (CV uc ua.heap.size L0b):=CV.below KZ.out hBc (by omega);replace KQ:Hid (CV uc w.heap.size (LN q)):=CV.below KQ.out hBc (by omega);replace KT:Hid (CV uc (w.heap.size+1) (LN t)):=CV.below KT.out hBc (by omega);replace KR:Hid (CV uc (w.heap.size+2) L0s):=CV.below KR.out hBc (by omega);replace x3:Hid (CV uc bx (flN xs)):=CV.below x3.out hBc x2;have hsc:ub.heap.size<=uc.heap.size:=(by have:=hBc.size;first | omega | (simp at this;omega));replace hBc:=Z6 hBb hBc;have z0:=(KZ.out 0 _ rfl).1;have zf0:=(KZ.out 0 _ rfl).2;have z1:=(KZ.out 1 _ rfl).1;have zf1:=(KZ.out 1 _ rfl).2;have z2:=(KZ.out 2 _ rfl).1;have zf2:=(KZ.out 2 _ rfl).2;have z3:=(KZ.out 3 _ rfl).1;have zf3:=(KZ.out 3 _ rfl).2;have z4:=(KZ.out 4 _ rfl).1;have zf4:=(KZ.out 4 _ rfl).2;have z5:=(KZ.out 5 _ rfl).1;have zf5:=(KZ.out 5 _ rfl).2;have d3:Hid (CV uc bd (flN vs)):=d3)) | (go_at_call 77;refine(hO.out ub bx hBb (by first | omega | (simp<;>omega)) (x3.out)).mono ?_;go_must (clear a0 a1 a2 a3 b0 b1 b2 b3;rintro e uc ⟨vd,rfl,⟨bd,rfl,d1,d2,d3⟩,hBc⟩;replace KQ:Hid (CV uc w.heap.size (LN q)):=CV.below KQ.out hBc (by omega);replace KT:Hid (CV uc (w.heap.size+1) (LN t)):=CV.below KT.out hBc (by omega);replace KR:Hid (CV uc (w.heap.size+2) L0s):=CV.below KR.out hBc (by omega);replace x3:Hid (CV uc bx (flN xs)):=CV.below x3.out hBc x2;have hsc:ub.heap.size<=uc.heap.size:=(by have:=hBc.size;first | omega | (simp at this;omega));replace hBc:=Z6 hBb hBc;have d3:Hid (CV uc bd (flN vs)):=d3)) | (go_at_call 77;refine(hO.out (ub.alloc (.cells (L0b:List Value).toArray 105)) bx (Z1 hBb (.cells (L0b:List Value).toArray 105)) (by first | omega | (simp<;>omega)) (CV.below x3.out (Z1 (Z9 ub) (.cells (L0b:List Value).toArray 105)) x2)).mono ?_;go_must (clear a0 a1 a2 a3 b0 b1 b2 b3;rintro e uc ⟨vd,rfl,⟨bd,rfl,d1,d2,d3⟩,hBc⟩;have KZ:Hid (CV uc ub.heap.size L0b):=CV.below (CV.new ub L0b 105) hBc (by simp);replace x3:Hid (CV uc bx (flN xs)):=CV.below (CV.below x3.out (Z1 (Z9 ub) (.cells (L0b:List Value).toArray 105)) x2) hBc (by first | omega | (simp<;>omega));replace KT:Hid (CV uc (w.heap.size+1) (LN t)):=CV.below (CV.below KT.out (Z1 (Z9 ub) (.cells (L0b:List Value).toArray 105)) (by omega)) hBc (by first | omega | (simp<;>omega));replace KR:Hid (CV uc (w.heap.size+2) L0s):=CV.below (CV.below KR.out (Z1 (Z9 ub) (.cells (L0b:List Value).toArray 105)) (by omega)) hBc (by first | omega | (simp<;>omega));have hsc:ub.heap.size<=uc.heap.size:=(by have:=hBc.size;first | omega | (simp at this;omega));replace hBc:=Z6 (Z1 hBb (.cells (L0b:List Value).toArray 105)) hBc;have hd0:ub.heap.size<bd:=(by first | omega | (simp at d1;omega));have z0:=(KZ.out 0 _ rfl).1;have zf0:=(KZ.out 0 _ rfl).2;have z1:=(KZ.out 1 _ rfl).1;have zf1:=(KZ.out 1 _ rfl).2;have z2:=(KZ.out 2 _ rfl).1;have zf2:=(KZ.out 2 _ rfl).2;have z3:=(KZ.out 3 _ rfl).1;have zf3:=(KZ.out 3 _ rfl).2;have z4:=(KZ.out 4 _ rfl).1;have zf4:=(KZ.out 4 _ rfl).2;have z5:=(KZ.out 5 _ rfl).1;have zf5:=(KZ.out 5 _ rfl).2;have d3:Hid (CV uc bd (flN vs)):=d3)))
  all_goals (go_wp2_with fail;go_meet;first | (refine⟨uc.heap.size,bx,bd,rfl,rfl,?_⟩;exact⟨Z1 hBc _,by simp,by omega,(by first | omega | (simp<;>omega)),(by first | omega | (simp<;>omega)),CV.new uc _ _,CV.below x3.out (Z1 (Z9 uc) _) (by omega),CV.below d3.out (Z1 (Z9 uc) _) d2,CV.below KT.out (Z1 (Z9 uc) _) (by omega),CV.below KR.out (Z1 (Z9 uc) _) (by omega)⟩) | (refine⟨ua.heap.size,bx,bd,rfl,rfl,?_⟩;exact⟨set6_B hBc (by omega),(by first | omega | (simp<;>omega)),by omega,(by first | omega | (simp<;>omega)),(by first | omega | (simp<;>omega)),set6_K KZ.out,Tm x3.out (by omega),Tm d3.out (by omega),Tm KT.out (by omega),Tm KR.out (by omega)⟩) | (refine⟨ub.heap.size,bx,bd,rfl,rfl,?_⟩;exact⟨set6_B hBc (by omega),(by first | omega | (simp<;>omega)),by omega,(by first | omega | (simp<;>omega)),(by first | omega | (simp<;>omega)),set6_K KZ.out,Tm x3.out (by omega),Tm d3.out (by omega),Tm KT.out (by omega),Tm KR.out (by omega)⟩))
 case rest=>
  obtain⟨b,bx,bd,rfl,rfl,hBw,hb,hbw,hbx,hbd,KB,KX,KD,KT,KR⟩:=hcut
  have hS:=hS.out wc bx bd hBw hbx hbd KX KD
  have c0:=(KB 0 _ rfl).1
  have c1:=(KB 1 _ rfl).1
  have c2:=(KB 2 _ rfl).1
  have c3:=(KB 3 _ rfl).1
  have c4:=(KB 4 _ rfl).1
  have c5:=(KB 5 _ rfl).1
  have t0:=(KT 0 _ rfl).1
  have t1:=(KT 1 _ rfl).1
  have t2:=(KT 2 _ rfl).1
  have t3:=(KT 3 _ rfl).1
  have KR:Hid (CV wc (w.heap.size+2) L0s):=KR
  clear KB KX KD KT
  go_wp2_with (go_at_call 79;refine hS.mono ?_;go_must (clear hS c0 c1 c2 c3 c4 c5 t0 t1 t2 t3;rintro e ue ⟨rfl,hBe⟩;have KR:=CV.below KR.out hBe (by omega);have r0:=KR 0 _ rfl;have r1:=KR 1 _ rfl;have r2:=KR 2 _ rfl;have r3:=KR 3 _ rfl;obtain⟨r0,f0⟩:=r0;obtain⟨r1,f1⟩:=r1;obtain⟨r2,f2⟩:=r2;obtain⟨r3,f3⟩:=r3;replace hBe:=Z6 hBw hBe))
  exact bodyPost_ret (v:= .tuple #[NV r,.int .i64 0]) (by simp[results,Tryz.results55,go_sem,r0,r1,r2,r3]) rfl ⟨rfl,(((hBe.setCell (by simp;omega) _).setCell (by simp;omega) _).setCell (by simp;omega) _).setCell (by simp;omega) _⟩
def tab(n:Nat)(f:Nat->Int):List Int:=(List.range n).map f
theorem tab_len(n:Nat)(f:Nat->Int):(tab n f).length=n:=by simp[tab]
theorem W0{n:Nat}{f:Nat->Int}{i:Nat}(h:i<n):(tab n f).getD i 0=f i:=by simp[tab,List.getElem?_map,List.getElem?_range h]
def fa1(q t:Int)(ns vs:List Int):List Int:=tab ns.length fun i=>vs.getD i 0*ahN q t ns i%q
def fac(q t:Int)(ns vs:List Int):List Int:=tab ns.length fun i=>(vs.getD i 0*ahN q t ns i%q)*bhN q t ns (ns.length -1 -i)%q
theorem fac_len(q t:Int)(ns vs:List Int):(fac q t ns vs).length=ns.length:=tab_len _ _
theorem fac_get{q t:Int}{ns vs:List Int}{i:Nat}(h:i<ns.length):(fac q t ns vs).getD i 0=(vs.getD i 0*ahN q t ns i%q)*bhN q t ns (ns.length -1 -i)%q:=W0 h
theorem Y0{ns:List Int}(h: ∀z∈ns,In z): ∀k,k<ns.length->In (ns.getD k 0):=fun k hk=>h _ (by simp[List.getElem?_eq_getElem hk])
theorem NL.ix{u:World}{sl:Option Addr}{gb go cap:Nat}{ns:List Int}(h:ns=[]\/sl=some ⟨gb,go,none⟩): ∀j,j<ns.length-> ∀W,(Instr.indexAt 27 (.slice sl ns.length cap) (.int .i64 j)).run Tryz.prog W= .ok (.pointer (some ⟨gb,go+4*j,none⟩)) W:=fun j hj W=>by
 obtain rfl:=h.resolve_left (fun e=>by subst e;simp at hj)
 exact ixS gb go ns.length cap j hj W
theorem PtL.ix{sl:Option Addr}{gb go cap:Nat}{ps:List (Int×Int)}(h:ps=[]\/sl=some ⟨gb,go,none⟩): ∀j,j<ps.length-> ∀W,(Instr.indexAt 73 (.slice sl ps.length cap) (.int .i64 j)).run Tryz.prog W= .ok (.pointer (some ⟨gb,go+8*j,none⟩)) W:=fun j hj W=>by
 obtain rfl:=h.resolve_left (fun e=>by subst e;simp at hj)
 exact ixP gb go ps.length cap j hj W
theorem cPolyn{q:Int}{sl:Option Addr}{n cap:Nat}{w:World}(hG:GP w)(hq:In q)(hq2:2<=q)(hn:n<=256)(h1:1<=n): ∀u,Bw w u->CC 67 #[NV q,.slice sl n cap] u .nilIface:=fun u hB=>by
 refine(pPolynomial q sl n cap u (hG.below hB) hq hn).mono ?_
 rintro e u' ⟨y,rfl,hy,hB'⟩
 rw[decide_eq_false (show ¬q<2 by omega),decide_eq_false (show ¬n<1 by omega)] at hy
 obtain rfl:=hy.no
 exact⟨rfl,hB'⟩
theorem cPtsOf{q:Int}{n:Nat}{w:World}(hG:GP w)(hq:In q)(hq2:2<=q)(hn:n<=256)(h1:1<=n): ∀u,Bw w u->CC 76 #[NV q,.int .i64 (n:Int)] u .nilIface:=fun u hB=>by
 refine(pPointsOf q n u (hG.below hB) hq hn).mono ?_
 rintro e u' ⟨y,rfl,hy,hB'⟩
 rw[decide_eq_false (show ¬q<2 by omega),decide_eq_false (show ¬n<1 by omega)] at hy
 obtain rfl:=hy.no
 exact⟨rfl,hB'⟩
theorem pValue(q x:Int)(ns:List Int)(v:Value)(w:World)(hq:In q)(hq0:q≠0)(hx:In x)(hv:NL w v ns)(hns: ∀z∈ns,In z)(hl:ns.length<=1000):
 CC 69 #[NV q,v,NV x] w (NV (hoN q x ns ns.length)):=by
 obtain⟨sl,gb,go,cap,rfl,h2,h3,h4,h5,h6⟩:=hv
 exact pValue_core q x sl gb go cap ns w hq hq0 hx (NL.ix (u:=w) h4) h5 h6 (Y0 hns) hl
theorem cEval(q x:Int)(ns:List Int)(v:Value)(w:World)(hG:GP w)(hq:In q)(hq2:2<=q)(hx:In x)(hv:NL w v ns)(hns: ∀z∈ns,In z)(h1:1<=ns.length)(hl:ns.length<=256):
 CC 42 #[NV q,v,NV x] w (.tuple #[NV (hoN q x ns ns.length),.int .i64 0]):=by
 have hv':=hv
 obtain⟨sl,gb,go,cap,rfl,_⟩:=hv
 exact eval_ok q x _ sl _ cap w (cPolyn hG hq hq2 hl h1) (fun u hB=>pValue q x ns _ u hq (by omega) hx (hv'.up hB) hns (by omega))
theorem inv_In{q a v:Int}(hq:In q)(h:IsInv a q v):In v:=In_le hq h.1 (by have:=h.2.1;omega)
theorem cBaseOf(q:Int)(ns vs:List Int)(sl:Option Addr)(cap:Nat)(w:World)(hq:In q)(hq2:2<=q)(hv:NL w (.slice sl ns.length cap) ns)(hns: ∀z∈ns,In z)(hl:ns.length<=256)(hi:Invs q ns vs):
 Calls Tryz.prog 77 #[NV q,.slice sl ns.length cap] w fun e u=> ∃vd,e= .returned (.tuple #[BX q (.slice sl ns.length cap) vd,.nilIface])/\PRw w.heap.size vs u vd/\Bw w u:=by
 obtain⟨sl',gb,go,cap',e,h2,h3,h4,h5,h6⟩:=hv
 cases e
 exact baseOf_core q sl gb go cap ns vs w hq (by omega) hi.1 hi.2 (NL.ix (u:=w) h4) h5 h6 (Y0 hns) (by omega)
theorem cFactorsB(q t:Int)(ns vs:List Int)(sx:Option Addr)(cx bd:Nat)(w:World)(hq:In q)(hq2:2<=q)(ht:In t)(hv:NL w (.slice sx ns.length cx) ns)(hns: ∀z∈ns,In z)(hl:ns.length<=256)(hi:Invs q ns vs)(hb:bd<w.heap.size)(hK:CV w bd (flN vs)):
 Calls Tryz.prog 107 #[BX q (.slice sx ns.length cx) (.slice (some ⟨bd,0,none⟩) vs.length vs.length),NV t] w fun e u=> ∃y,e= .returned y/\PRw w.heap.size (fac q t ns vs) u y/\Bw w u:=by
 obtain⟨sl',gx,ox,cap',e,h2,h3,h4,h5,h6⟩:=hv
 cases e
 obtain⟨hil,hii⟩:=hi
 rw[hil]
 refine factors_core q t sx (some ⟨bd,0,none⟩) gx ox cx bd 0 ns.length ns vs (fa1 q t ns vs) (fac q t ns vs) w hq (by omega) ht (NL.ix (u:=w) h4) h5 h6 (Y0 hns) (by omega) (fun j hj W=>?_) (.inr hb) (fun j v hj=>by rw[Nat.zero_add];exact(hK j v hj).1) (fun k hk=>inv_In hq (hii k hk)) hil (tab_len _ _) (by rw[fac_len];exact(tab_len _ _).symm) (fun i hi=>W0 hi) (fun i hi=>?_)
 ·rw[Nat.zero_add];exact ixZ bd ns.length ns.length j hj W
 ·rw[fac_get hi,fa1,W0 hi]
theorem row_nl{u:World}{b:Nat}{ns:List Int}(h2:b<u.heap.size)(h3:CV u b (flN ns)):NL u (.slice (some ⟨b,0,none⟩) ns.length ns.length) ns:=
 ⟨_,b,0,_,rfl,Nat.le_refl _,(by simp),.inr rfl,.inr h2,fun j v hj=>by rw[Nat.zero_add];exact(h3 j v hj).1⟩
theorem fac_In{q t:Int}{ns vs:List Int}(hq:In q)(hq0:q≠0): ∀k,k<(fac q t ns vs).length->In ((fac q t ns vs).getD k 0):=fun k hk=>by
 rw[fac_len] at hk
 rw[fac_get hk];exact Ze hq hq0
theorem cSumB(q t:Int)(ns vs:List Int)(ps:List (Int×Int))(v:Value)(sx:Option Addr)(cx bd:Nat)(w:World)(hq:In q)(hq2:2<=q)(ht:In t)(hx:NL w (.slice sx ns.length cx) ns)(hns: ∀z∈ns,In z)(hl:ns.length<=256)(hi:Invs q ns vs)(hb:bd<w.heap.size)(hK:CV w bd (flN vs))(hv:PtL w v ps)(hps: ∀p∈ps,In p.2)(hpl:ns.length=ps.length):
 CC 79 #[BX q (.slice sx ns.length cx) (.slice (some ⟨bd,0,none⟩) vs.length vs.length),NV t,v] w (NV (smN q (fac q t ns vs) ps ps.length)):=by
 have hq0:q≠0:=by omega
 have hp1:ps.length<=1000:=by omega
 obtain⟨sl,gb,go,cap,rfl,h2,h3,h4,h5,h6⟩:=hv
 have hfl:(fac q t ns vs).length=ps.length:=by rw[fac_len,hpl]
 have hc:=fun u (hB:Bw w u)=>cFactorsB q t ns vs sx cx bd u hq hq2 ht (hx.up hB) hns hl hi (Nat.lt_of_lt_of_le hb hB.size) (hK.below hB hb)
 rw[hi.1] at hc⊢
 have hz:=sum_core q t sx (some ⟨bd,0,none⟩) sl cx ns.length gb go cap ns (fac q t ns vs) ps w hq hq0 (PtL.ix h4) h5 h6 hp1 hc hfl (fac_In hq hq0) (fun k hk=>hps _ (by simp[List.getElem?_eq_getElem hk]))
 rw[hfl] at hz
 exact hz
theorem cCombine(q t:Int)(vs:List Int)(ps:List (Int×Int))(v:Value)(w:World)(hG:GP w)(hq:In q)(hq2:2<=q)(ht:In t)(hv:PtL w v ps)(hps: ∀p∈ps,In p.1/\In p.2)(h1:1<=ps.length)(hl:ps.length<=256)(hi:Invs q (ps.map Prod.fst) vs):
 CC 55 #[NV q,NV t,v] w (.tuple #[NV (smN q (fac q t (ps.map Prod.fst) vs) ps ps.length),.int .i64 0]):=by
 have hv':=hv
 obtain⟨sl,gb,go,cap,rfl,_⟩:=hv
 have hxl:(ps.map Prod.fst).length=ps.length:=by simp
 have hxs: ∀z∈ps.map Prod.fst,In z:=fun z hz=>by
  obtain⟨p,hp,rfl⟩:=List.mem_map.1 hz
  exact(hps p hp).1
 refine combineOk q t _ sl _ cap (ps.map Prod.fst) vs w (cPtsOf hG hq hq2 hl h1) (fun u hB=>?_) (fun u bx hB hb hK=>?_) (fun u bx bd hB hb hd hKx hKd=>?_)
 ·obtain⟨sl',gb',go',cap',e,h2,h3,h4,h5,h6⟩:=hv'.up hB
  cases e
  exact allX_core sl gb' go' cap ps (ps.map Prod.fst) u hxl (fun k hk=>by simp[List.getElem?_map,List.getElem?_eq_getElem hk]) (PtL.ix h4) h5 h6 (by omega)
 ·exact cBaseOf q _ vs _ _ u hq hq2 (row_nl hb hK) hxs (by omega) hi
 ·exact cSumB q t _ vs ps _ _ _ bd u hq hq2 ht (row_nl hb hKx) hxs (by omega) hi hd hKd (hv'.up hB) (fun p hp=>(hps p hp).2) hxl
end
section
open Go.ChangeShapes Go.WideShapes Go.ChangeAt Go.RowKit
theorem Tryz.cells24:Tryz.prog.cellsOf 24=4:=by kernel_rfl
theorem Tryz.cells22:Tryz.prog.cellsOf 22=1:=by kernel_rfl
theorem Yu{x:Int}(h:(Lit.int .u64 x).wf=true):W64 x:=by
 simp[Lit.wf,IntKind.min,IntKind.max,IntKind.signed,IntKind.bits] at h
 exact⟨by omega,by omega⟩
abbrev N4{H:Type}(a b c d:Int):DataW H:= .agg [.lit (.int .u64 a),.lit (.int .u64 b),.lit (.int .u64 c),.lit (.int .u64 d)]
section
section
variable {H:Type} {enc:TypeId×Value->H} {P:Program} {w:World} {base:Nat} {spare:Nat->Bool} {held:Bool}
end
end
theorem own4:ownKnob Tryz.prog.godebug=none:=by kernel_rfl
theorem laid4:laidOutB Tryz.prog=true:=by kernel_rfl
abbrev lstP:List (String×DataW Unit):=[("math/bits.deBruijn32tab",Rows.laid_math_bits_deBruijn32tab),("math/bits.deBruijn64tab",Rows.laid_math_bits_deBruijn64tab),("internal/strconv.uint64pow10",Rows.laid_internal_strconv_uint64pow10),("errors.errorType",Rows.laid_errors_errorType)]
theorem gEt:Tryz.prog.globalNamed "errors.errorType" =some 0:=by kernel_rfl
theorem rtW:(Tryz.prog.cutTypes.find? (·.1== "internal/reflectlite.rtype")).map (·.2)=some 186:=by kernel_rfl
theorem szW:Tryz.prog.types.size=272:=by kernel_rfl
theorem oneW:((List.range 272).filter fun t=>Tryz.prog.rowNamed t [101,114,114,111,114])=[90]:=by kernel_rfl
theorem tPow:(Tryz.prog.globals[1]?).map (·.type)=some 226:=by kernel_rfl
theorem powIs:(Rows.laid_internal_strconv_uint64pow10:DataW Unit)=Lib.tabData .u64 Lib.pow10Tab:=by kernel_rfl
theorem of_laidP{W:World}(h:laidMetH Tryz.prog lstP W):GP W:=by
 have h':laidMet Tryz.prog [("math/bits.deBruijn32tab",Rows.laid_math_bits_deBruijn32tab),("math/bits.deBruijn64tab",Rows.laid_math_bits_deBruijn64tab),("internal/strconv.uint64pow10",Rows.laid_internal_strconv_uint64pow10)] W/\handlesMet Tryz.prog [("errors.errorType",Rows.laid_errors_errorType)] W:=h
 obtain⟨hd,hh⟩:=h'
 obtain⟨ps,⟨g0,t0,cs0,f0,p0,q0,hg0,ht0,hv0,hd0,⟨g1,t1,cs1,f1,p1,q1,hg1,ht1,hv1,hd1,⟨g2,t2,cs2,f2,p2,q2,hg2,ht2,hv2,hd2,_,_⟩,_⟩,_⟩,_,_⟩:=hd
 obtain rfl:=Option.some.inj (gPow.symm.trans hg2)
 obtain rfl:=Option.some.inj (tPow.symm.trans ht2)
 rw[powIs] at hd2
 have htab:Lib.TabIs Tryz.prog W "internal/strconv.uint64pow10" .u64 Lib.pow10Tab:=by
  unfold Lib.TabIs
  rw[hv2,<-Lib.cells_of_tab Tryz.underlying226 Tryz.underlying22 (by kernel_rfl) (by kernel_rfl) hd2]
 obtain⟨name,u,ty,e1,e2,e3,e4,e5⟩:=hh _ (List.mem_singleton.2 rfl)
 have en:name=[101,114,114,111,114]:=(Option.some.inj e1).symm
 subst en
 obtain rfl:=Option.some.inj (rtW.symm.trans e2)
 have hm:ty∈(List.range 272).filter fun t=>Tryz.prog.rowNamed t [101,114,114,111,114]:=List.mem_filter.2 ⟨List.mem_range.2 (by rw[<-szW];exact e3),e4⟩
 rw[oneW] at hm
 obtain rfl:=List.mem_singleton.1 hm
 have hth:typeHandle Tryz.prog 90= .pointer (some ⟨6,90,none⟩):=by kernel_rfl
 rw[hth] at e5
 have hc:W.cell? ⟨0,0,none⟩=some (.iface 186 (.agg #[.pointer (some ⟨6,90,none⟩)])):=by simpa using World.var?_cell gEt e5 0
 have hc2:=htab.cell gPow 0 (by rw[Lib.pow10Tab_length];omega)
 exact⟨World.block_lt_of_cell? W _ hc2,htab,hc⟩
theorem doorP(os:Go.Os)(args:Array Value):laidMetH Tryz.prog lstP ((World.doorLaid Tryz.prog 400 os).forCall (fun _ _=>0) ⟨#[],args,[]⟩).memory:=
 laidMetH_of_parts3 (fuel:=8) (laidMet_of_run' 8 (by kernel_rfl) (by kernel_rfl)) (by kernel_rfl) (by kernel_rfl)
theorem list_ofP{p:Nat->Int->Prop}: ∀n,(∀i,i<n-> ∃z,p i z)-> ∃ns:List Int,ns.length=n/\ ∀i,i<n->p i (ns.getD i 0)
 | 0,_=>⟨[],rfl,fun i hi=>by omega⟩
 | n+1,h=>by
  obtain⟨ns,hl,hp⟩:=list_ofP n (fun i hi=>h i (by omega))
  obtain⟨z,hz⟩:=h n (by omega)
  refine⟨ns++[z],by simp[hl],fun i hi=>?_⟩
  by_cases e:i=n
  ·subst e
   have:(ns++[z]).getD i 0=z:=by rw[<-hl];simp
   rw[this];exact hz
  ·have:(ns++[z]).getD i 0=ns.getD i 0:=by simp[List.getElem?_append_left (show i<ns.length by omega)]
   rw[this];exact hp i (by omega)
theorem flN_atg: ∀(ns:List Int) (j:Nat) (v:Value),(flN ns)[j]?=some v->j/4<ns.length/\(LN (ns.getD (j/4) 0))[j%4]?=some v
 | [],j,v,h=>by simp[flN] at h
 | n::r,j,v,h=>by
  rw[flN] at h
  by_cases hj:j<4
  ·rw[List.getElem?_append_left (by show j<4;exact hj)] at h
   rw[show j/4=0 by omega,show j%4=j by omega]
   exact⟨by simp,by simpa using h⟩
  ·rw[List.getElem?_append_right (by show 4<=j;omega)] at h
   have h:(flN r)[j -4]?=some v:=h
   have:=flN_atg r (j -4) v h
   rw[show j/4=(j -4)/4+1 by omega,show j%4=(j -4)%4 by omega]
   exact⟨by simpa using this.1,by simpa using this.2⟩
theorem SN.of{w:World}{g o:Nat}{ns:List Int}(h: ∀i,i<ns.length-> ∀c v,(LN (ns.getD i 0))[c]?=some v->w.cell? ⟨g,o+(i*4+c),none⟩=some v):SN w g o ns:=fun j v hj=>by
 obtain⟨h1,h2⟩:=flN_atg ns j v hj
 have:=h _ h1 _ v h2
 rwa [show j/4*4+j%4=j by omega] at this
theorem row_nat{H:Type}{enc:TypeId×Value->H}{W:World}{bs fuel base:Nat}{sp:Nat->Bool}{held:Bool}{a:Addr}{cs:List Value}{x:DataW H×List MemPlace}(h1:W.cells? base a 4=some cs)(h:DataW.trod enc Tryz.prog W bs sp held fuel 24 cs=some x):
 ∃z,In z/\ ∀c v,(LN z)[c]?=some v->W.cell? (a.add c)=some v:=by
 obtain⟨_,hl,hc⟩:=World.cells?_some h1
 match cs,hl,hc,h with
 | [c0,c1,c2,c3],hl,hc,h=>
  obtain⟨y0,y1,y2,y3,m,hx,hy0,hy1,hy2,hy3⟩:=trod_array4 Tryz.underlying24 Tryz.cells22 h
  obtain⟨x0,e0,rfl,w0⟩:=DataW.trod_int Tryz.underlying22 hy0
  obtain⟨x1,e1,rfl,w1⟩:=DataW.trod_int Tryz.underlying22 hy1
  obtain⟨x2,e2,rfl,w2⟩:=DataW.trod_int Tryz.underlying22 hy2
  obtain⟨x3,e3,rfl,w3⟩:=DataW.trod_int Tryz.underlying22 hy3
  simp at e0 e1 e2 e3
  subst e0 e1 e2 e3
  refine⟨V x0 x1 x2 x3,In_V (Yu w0) (Yu w1) (Yu w2) (Yu w3),fun c v hv=>?_⟩
  have hL:LN (V x0 x1 x2 x3)=[.int .u64 x0,.int .u64 x1,.int .u64 x2,.int .u64 x3]:=by
   have:=NV_V (Yu w0) (Yu w1) (Yu w2) (Yu w3)
   unfold NV A4 at this
   injection this with this
   have:=congrArg Array.toList this
   simpa using this
  rw[hL] at hv
  have hlt:c<4:=by have:=(List.getElem?_eq_some_iff.1 hv).1;simpa using this
  rw[hc c hlt];exact hv
theorem open_nats(L:Nat){H:Type}{enc:TypeId×Value->H}{W:World}{base:Nat}{v0:Value}{x:DataW H}{p:List MemPlace}(hv:Value.okWide Tryz.prog W .any base 27 v0)(h:DataW.Trod enc Tryz.prog W 0 (fun _=>true) true 27 v0 x p):
 ∃sl len cap gb go,∃ns:List Int,v0= .slice sl len cap/\(min len L)=ns.length/\len<=cap/\(sl=none->cap=0)/\(cap=0\/sl=some ⟨gb,go,none⟩)/\(ns.length=0\/gb<W.heap.size)/\SN W gb go ns/\ ∀z∈ns,In z:=by
 obtain⟨a0,len,cap,rfl⟩:=okWide_slice Tryz.underlying27 hv
 obtain⟨fuel,hf⟩:=h
 rcases Go.Deep.open_slice Tryz.underlying27 hf with⟨hcs,hx⟩ | ⟨ad,len',cap',m,n,D,Pl,hcs,hbs,hl,hm,hmm,hx,hall⟩
 ·simp[Value.cells] at hcs
  obtain⟨rfl,rfl,rfl⟩:=hcs
  exact⟨_,_,_,0,0,[],rfl,by simp,Nat.le_refl _,fun _=>rfl,.inl rfl,.inl rfl,SN.empty rfl,fun z hz=>(by cases hz)⟩
 ·simp[Value.cells] at hcs
  obtain⟨rfl,rfl,rfl⟩:=hcs
  simp only[if_true] at hmm
  by_cases h0:cap=0
  ·subst h0
   have e:len=0:=by omega
   subst e
   exact⟨_,_,_,0,0,[],rfl,by simp,Nat.le_refl _,fun _=>rfl,.inl rfl,.inl rfl,SN.empty rfl,fun z hz=>(by cases hz)⟩
  ·have hrow: ∀i,i<cap-> ∃z,In z/\ ∀c v,(LN z)[c]?=some v->W.cell? ((ad.add (i*4)).add c)=some v:=fun i hi=>by
    obtain⟨cs,k1,k2⟩:=hall i (by rw[hmm];exact hi)
    rw[Tryz.cells24] at k1
    exact row_nat k1 k2
   obtain⟨gb,go,spot⟩:=ad
   have hspot:spot=none:=by
    obtain⟨z,_,hz⟩:=hrow 0 (by omega)
    have:=hz 0 _ rfl
    simpa [Addr.add] using World.cell?_spot this
   subst hspot
   have hadd: ∀i c:Nat,((⟨gb,go,none⟩:Addr).add (i*4)).add c=⟨gb,go+(i*4+c),none⟩:=fun i c=>by unfold Addr.add;(repeat' split)<;>simp_all<;>omega
   obtain⟨ns,hnl,hnp⟩:=list_ofP (min len L) (fun i hi=>hrow i (by omega))
   have hblk:gb<W.heap.size:=by
    obtain⟨z,_,hz⟩:=hrow 0 (by omega)
    have:=hz 0 _ rfl
    rw[hadd] at this
    exact World.block_lt_of_cell? W _ this
   refine⟨_,_,_,gb,go,ns,rfl,hnl.symm,hl,fun e=>(by cases e),.inr rfl,.inr hblk,SN.of (fun i hi c v hv=>?_),fun z hz=>?_⟩
   ·have:=(hnp i (by omega)).2 c v hv
    rwa [hadd] at this
   ·obtain⟨j,hj,rfl⟩:=List.mem_iff_getElem.1 hz
    have:=(hnp j (by omega)).1
    simpa [List.getElem?_eq_getElem hj] using this
end
section
open Go.RowKit
theorem xaddG_lt(a b m0 m1 m2 m3 r0 r1 r2 r3 ec:Int)(w:World)(ha:In a)(hb:In b)(hR:Hid (∀u,CC 60 #[WV (a+b),A4 m0 m1 m2 m3] u (.tuple #[A4 r0 r1 r2 r3,.int .i64 ec])))(hl:a+b<0x10000000000000000000000000000000000000000000000000000000000000000):CC 30 #[NV a,NV b,A4 m0 m1 m2 m3] w (.tuple #[A4 r0 r1 r2 r3,.int .i64 ec]):=by
 have hi:In (a+b):=⟨by have:=ha.1;have:=hb.1;omega,hl⟩
 go_enter Tryz.func30,Tryz.ntmps30
 go_upto_region 1 with fail
 obtain⟨v0,hC,HB0,K0⟩:=bx4 w (LN a) 24 (LN b) 24 ([.int .u64 m0,.int .u64 m1,.int .u64 m2,.int .u64 m3]) 24 L0s 24
 rw[hC]
 clear hC
 apply Rp K0 HB0 [] [(6,8,L0s,some (7,LN (a+b)))] [(0,12,_),(1,13,_),(2,14,_),(3,11,_),(4,15,_),(5,16,_),(8,9,_)] [(7,6)] [] [false,false]
 ·exact oc (g_ld 0 uN iN)<|oc (g_ld 1 uN iN)<|oc (g_cl Z7 (fun uZ=>Wh a b uZ ha hb hl))<|oc g_mv<|oc g_ex<|oc g_ex<|oc (g_al 0 aN)<|oc (g_sn 0 iN)<|oc g_as on
 intro u1 b1_6 HB1 sz1 K1
 simp only[sQ] at K1⊢
 clear K0 HB0
 go_upto_region 2 with fail
 apply Rp K1 HB1 [] [(2,10,L0w,some (3,LW (a+b)))] [(0,17,_),(1,18,_)] [(3,2)] [] [true,true,false]
 ·exact oc (g_ld 2 uN iN)<|oc (g_cl Yb (fun uZ=>nrWiden (a+b) uZ hi))<|oc (g_al 0 aW)<|oc (g_sn 0 iW) on
 intro u2 b2_2 HB2 sz2 K2
 simp only[sQ] at K2⊢
 clear K1 HB1
 go_upto_region 5 with fail
 apply Rp K2 HB2 [.no,.all 5 ([.int .u64 r0,.int .u64 r1,.int .u64 r2,.int .u64 r3])] [] [(0,21,_),(1,22,_),(2,23,_),(3,24,_),(4,25,_),(6,7,_)] [] [] [false,true,false]
 ·exact oc (g_ld 2 uW iW)<|oc (g_ld 0 uN iN)<|oc (g_cl Zg hR.out)<|oc g_ex<|oc g_ex<|oc (g_st 1 iN)<|oc g_as on
 intro u3 HB3 sz3 K3
 simp only[sQ] at K3⊢
 clear K2 HB2
 have c6:=(K3.cv 0).n4
 go_wp2
 refine bodyPost_ret (v:= .tuple #[A4 r0 r1 r2 r3,.int .i64 ec]) (by simp[results,Tryz.results30,go_sem,c6]) rfl ⟨rfl,HB3⟩
theorem xaddG_ge(a b m0 m1 m2 m3 r0 r1 r2 r3 ec:Int)(w:World)(ha:In a)(hb:In b)(hR:Hid (∀u,CC 60 #[WV (a+b),A4 m0 m1 m2 m3] u (.tuple #[A4 r0 r1 r2 r3,.int .i64 ec])))(hl:0x10000000000000000000000000000000000000000000000000000000000000000<=a+b):CC 30 #[NV a,NV b,A4 m0 m1 m2 m3] w (.tuple #[A4 r0 r1 r2 r3,.int .i64 ec]):=by
 have ha2:=ha.2;have hb2:=hb.2
 obtain⟨s,hs⟩: ∃s,a+b -0x10000000000000000000000000000000000000000000000000000000000000000=s:=⟨_,rfl⟩
 have hA:WV (a+b)=A8 (D0 s) (D1 s) (D2 s) (D3 s) 1 0 0 0:=WV_of (a+b) (D0 s) (D1 s) (D2 s) (D3 s) 1 0 0 0 (W_D0 s) (W_D1 s) (W_D2 s) (W_D3 s) ⟨by omega,by omega⟩ W_0 W_0 W_0 (by rw[V_In ⟨by omega,by omega⟩];simp[V];omega)
 rw[hA] at hR
 have nA:Hid (∀u,CC 58 #[NV a,NV b] u (.tuple #[NV s,.bool true])):=fun u=>by rw[<-hs];exact nrAdd_ge a b u ha hb hl
 clear hs hA ha2 hb2
 go_enter Tryz.func30,Tryz.ntmps30
 go_upto_region 1 with fail
 obtain⟨v0,hC,HB0,K0⟩:=bx4 w (LN a) 24 (LN b) 24 ([.int .u64 m0,.int .u64 m1,.int .u64 m2,.int .u64 m3]) 24 L0s 24
 rw[hC]
 clear hC
 apply Rp K0 HB0 [] [(6,8,L0s,some (7,LN s))] [(0,12,_),(1,13,_),(2,14,_),(3,11,_),(4,15,_),(5,16,_),(8,9,_)] [(7,6)] [] [false,false]
 ·exact oc (g_ld 0 uN iN)<|oc (g_ld 1 uN iN)<|oc (g_cl Z7 nA.out)<|oc g_mv<|oc g_ex<|oc g_ex<|oc (g_al 0 aN)<|oc (g_sn 0 iN)<|oc g_as on
 intro u1 b1_6 HB1 sz1 K1
 simp only[sQ] at K1⊢
 clear K0 HB0
 go_upto_region 2 with fail
 apply Rp K1 HB1 [] [(2,10,L0w,some (3,[.int .u64 (D0 s),.int .u64 (D1 s),.int .u64 (D2 s),.int .u64 (D3 s),.int .u64 (0),.int .u64 (0),.int .u64 (0),.int .u64 (0)]))] [(0,17,_),(1,18,_)] [(3,2)] [] [true,true,false]
 ·exact oc (g_ld 2 uN iN)<|oc (g_cl Yb (fun uZ=>rWiden_any (D0 s) (D1 s) (D2 s) (D3 s) uZ (W_D0 s) (W_D1 s) (W_D2 s) (W_D3 s)))<|oc (g_al 0 aW)<|oc (g_sn 0 iW) on
 intro u2 b2_2 HB2 sz2 K2
 simp only[sQ] at K2⊢
 clear K1 HB1
 go_upto_region 4 with fail
 apply Rp K2 HB2 [.no,.no,.cs [(4,1,(Go.Value.int Go.IntKind.u64 1))]] [] [(0,20,_)] [] [] []
 ·exact oc (g_ix (jW 4))<|oc (g_sc 2 0 sU) on
 intro u3 HB3 sz3 K3
 simp only[fX,nK,nP,Wr.f,aK,pM,List.foldl,List.set_cons_zero,List.set_cons_succ] at K3
 simp only[setG,setN,List.set_cons_zero,List.set_cons_succ]
 clear K2 HB2
 go_upto_region 5 with fail
 apply Rp K3 HB3 [.no,.all 5 ([.int .u64 r0,.int .u64 r1,.int .u64 r2,.int .u64 r3])] [] [(0,21,_),(1,22,_),(2,23,_),(3,24,_),(4,25,_),(6,7,_)] [] [] [false,true,false]
 ·exact oc (g_ld 2 uW iW)<|oc (g_ld 0 uN iN)<|oc (g_cl Zg hR.out)<|oc g_ex<|oc g_ex<|oc (g_st 1 iN)<|oc g_as on
 intro u4 HB4 sz4 K4
 simp only[sQ] at K4⊢
 clear K3 HB3
 have c6:=(K4.cv 0).n4
 go_wp2
 refine bodyPost_ret (v:= .tuple #[A4 r0 r1 r2 r3,.int .i64 ec]) (by simp[results,Tryz.results30,go_sem,c6]) rfl ⟨rfl,HB4⟩
theorem xaddG(a b m0 m1 m2 m3 r0 r1 r2 r3 ec:Int)(w:World)(ha:In a)(hb:In b)(hR:Hid (∀u,CC 60 #[WV (a+b),A4 m0 m1 m2 m3] u (.tuple #[A4 r0 r1 r2 r3,.int .i64 ec]))):CC 30 #[NV a,NV b,A4 m0 m1 m2 m3] w (.tuple #[A4 r0 r1 r2 r3,.int .i64 ec]):=by
 by_cases hl:a+b<0x10000000000000000000000000000000000000000000000000000000000000000
 ·exact xaddG_lt a b m0 m1 m2 m3 r0 r1 r2 r3 ec w ha hb hR hl
 ·exact xaddG_ge a b m0 m1 m2 m3 r0 r1 r2 r3 ec w ha hb hR (by omega)
theorem xAdd(a b m:Int)(w:World)(ha:In a)(hb:In b)(hm:In m)(h:m≠0):CC 30 #[NV a,NV b,NV m] w (.tuple #[NV ((a+b)%m),.int .i64 0]):=
 xaddG a b _ _ _ _ _ _ _ _ 0 w ha hb (fun u=>Uu (a+b) m u ⟨by have:=ha.1;have:=hb.1;omega,by have:=ha.2;have:=hb.2;omega⟩ hm h)
def gat(op:Int->Int->Int)(x:Int)(ns:List Int):Nat->Int
 | 0=>x
 | k+1=>op (gat op x ns k) (ns.getD k 0)
theorem gat_In{op:Int->Int->Int}{x:Int}{ns:List Int}(hx:In x)(ho: ∀a b,In a->In b->In (op a b))(hn: ∀k,k<ns.length->In (ns.getD k 0)): ∀k,k<=ns.length->In (gat op x ns k)
 | 0,_=>hx
 | k+1,h=>ho _ _ (gat_In hx ho hn k (by omega)) (hn k (by omega))
theorem mgather(N:FuncId)(op:Int->Int->Int)(x m:Int)(sl:Option Addr)(gb go cap:Nat)(ns:List Int)(w:World)(hns:ns.length<=50)(hx:In x)(hm:In m)(h:m≠0)(hN: ∀(vs:Array Value) (w:World),(callFunc N vs).run Tryz.prog w= .ok (.enter N vs) w)(hT:Hid (∀a b,In a->In b-> ∀u,Calls Tryz.prog N #[NV a,NV b,NV m] u fun e u'=>e= .returned (.tuple #[NV (op a b),.int .i64 0])/\Bw u u'))(ho: ∀a b,In a->In b->In (op a b))(hn:Hid (∀k,k<ns.length->In (ns.getD k 0)))(hix:Hid (∀j,j<ns.length-> ∀W,(Instr.indexAt 27 (.slice sl ns.length cap) (.int .i64 j)).run Tryz.prog W= .ok (.pointer (some ⟨gb,go+4*j,none⟩)) W))(hg:ns.length=0\/gb<w.heap.size)(hS:Hid (SN w gb go ns)):
 CC 117 #[.func (.func N) #[] #[],NV x,NV m,.slice sl ns.length cap] w (.tuple #[NV (gat op (x%m) ns ns.length),.int .i64 0]):=by
 have hI:Hid (∀k,k<=ns.length->In (gat op (x%m) ns k)):=gat_In (Ze hm h) ho hn.out
 go_enter Tryz.func117,Tryz.ntmps117
 go_upto_region 1 with fail
 obtain⟨v0,hC,HB0,K0⟩:=bx3 w (LN x) 24 (LN m) 24 L0s 24
 rw[hC]
 clear hC
 apply Rd K0 HB0 [] [(7,10,L0s,some (8,LN (x%m)))] [(0,15,_),(1,16,_),(2,17,_),(3,18,_),(4,14,_),(5,19,_),(6,20,_),(9,11,_)] [(8,7)] [] [false]
 ·exact oc (g_ld 0 uN iN)<|oc (g_cl Z8 (fun uZ=>Xg x uZ hx))<|oc (g_ld 1 uN iN)<|oc (g_cl Zh (fun uZ=>Xd x m uZ hx.wide hm h))<|oc g_mv<|oc g_ex<|oc g_ex<|oc (g_al 0 aN)<|oc (g_sn 0 iN)<|oc g_as on
 intro u1 b1_7 HB1 sz1 K1
 simp only[sQ] at K1⊢
 clear K0 HB0
 go_upto_region 2 with fail
 apply Rn K1 HB1 [(0,21,_),(1,22,_)]
 ·exact oc g_mv<|oc (g_bn (fun uZ=>Zy _ _ _ 0 0 _ uZ rfl)) on
 intro u2 HB2 sz2 K2
 simp only[sQ] at K2⊢
 clear K1 HB1
 go_upto_region 4 with fail
 apply Rn K2 HB2 [(0,25,_),(1,26,_),(2,27,_)]
 ·exact oc g_mv<|oc (g_ln Tryz.underlying27)<|oc g_mv on
 intro u3 HB3 sz3 K3
 simp only[sQ] at K3⊢
 clear K2 HB2
 go_wp2_with fail
 go_loopw [27] (fun s27 wr=> ∃(k:Nat),k<=ns.length/\s27= .int .i64 (k:Int)/\Bw w wr/\CV wr (w.heap.size+1) (LN m)/\CV wr (w.heap.size+1+1) L0s/\CV wr b1_7 (LN (gat op (x%m) ns k))/\b1_7<wr.heap.size/\w.heap.size+1+1<wr.heap.size) (fun s27 _=>ns.length -(intOf s27).toNat)
 case atStart=>exact⟨0,by omega,rfl,HB3,(K3.cv 0),(K3.cv 1),(K3.cv 2),(K3.lt 2),(K3.lt 1)⟩
 case round=>
  obtain⟨k,hk,rfl,HBr,Km,Kr,Kg,lg,lr⟩:=hrel
  clear HB3
  have hnK:=K3.n
  simp at hnK
  have hoK2:=K3.lo 2
  by_cases hj:k<ns.length
  ·have hl:decide ((k:Int)<(ns.length:Int))=true:=by simp;omega
   have ik:=hI.out k hk
   have iy:=hn.out k hj
   have hC:=hT.out (gat op (x%m) ns k) (ns.getD k 0) ik iy
   have hC:Hid _:=hC
   have hX:=hix.out k hj
   have hX:Hid _:=hX
   have hR:=hS.out.at k hj
   have hR:Hid _:=hR
   have hlen:(k:Int)<1000:=by omega
   obtain⟨y,ey⟩: ∃y,ns.getD k 0=y:=⟨_,rfl⟩
   obtain⟨z,ez⟩: ∃z,gat op (x%m) ns k=z:=⟨_,rfl⟩
   rw[ey] at iy hR
   rw[ey,ez] at hC
   rw[ez] at ik Kg
   have EY:Hid _:=ey
   have EZ:Hid _:=ez
   clear ey ez
   have K3_1:Bk w.heap.size wr [(false,w.heap.size+1,LN m),(false,w.heap.size+1+1,L0s),(true,b1_7,LN z)]:=⟨.c (by omega) Km<| .c lr Kr<| .o lg (K3.lo 2) Kg<|trivial,by simp;omega⟩
   go_upto_region 5 with fail
   apply Rn K3_1 HBr [(0,28,_)]
   ·exact oc (g_bn (fun uZ=>Zk _ _ (k:Int) (ns.length:Int) _ uZ hl)) on
   intro u4 HB4 sz4 K4
   simp only[sQ] at K4⊢
   go_upto_region 6 with fail
   apply Rp K4 HB4 [] [(2,13,L0s,some (3,LN y))] [(0,29,_),(1,30,_)] [(3,2)] [] []
   ·exact oc (g_ix hX.out)<|oc (g_lf hR.out (hg.resolve_left (by omega)) uN iN)<|oc (g_al 0 aN)<|oc (g_sn 0 iN) on
   intro u5 b5_2 HB5 sz5 K5
   simp only[sQ] at K5⊢
   clear K4 HB4
   go_upto_region 7 with fail
   apply Rp K5 HB5 [.no,.no,.all 8 (LN (op z y))] [] [(0,32,_),(1,33,_),(2,34,_),(3,35,_),(4,36,_),(5,31,_),(6,37,_),(7,38,_)] [(8,1)] [] [true,true,true,false]
   ·exact oc g_mv<|oc (g_ld 2 uN iN)<|oc (g_ld 3 uN iN)<|oc (g_ld 0 uN iN)<|oc (g_cv (first:=[]) hN (fun fZ uZ kZ sZ=>hC.out uZ))<|oc g_mv<|oc g_ex<|oc g_ex<|oc (g_st 2 iN) on
   intro u6 HB6 sz6 K6
   simp only[sQ] at K6⊢
   clear K5 HB5
   go_upto_region 8 with fail
   apply Rp K6 HB6 [] [] [(0,39,_),(1,27,_)] [(1,0)] [(1,27)] []
   ·exact oc (g_bn (fun uZ=>Yj _ _ (k:Int) 1 ((k+1:Nat):Int) uZ (by omega) (by omega) (by omega)))<|oc g_mv on
   intro u7 HB7 sz7 K7
   simp only[sQ] at K7⊢
   clear K6 HB6
   go_wp2
   refine⟨⟨k+1,by omega,rfl,HB7,(K7.cv 0),(K7.cv 1),by rw[gat,EY.out,EZ.out];exact(K7.cv 2),(K7.lt 2),(K7.lt 1)⟩,?_⟩
   simp[intOf]<;>omega
  ·have hl:decide ((k:Int)<(ns.length:Int))=false:=by simp;omega
   have hkn:k=ns.length:=by omega
   have K3_1:Bk w.heap.size wr [(false,w.heap.size+1,LN m),(true,w.heap.size+1+1,L0s),(false,b1_7,LN (gat op (x%m) ns k))]:=⟨.c (by omega) Km<| .o lr (K3.lo 1) Kr<| .c lg Kg<|trivial,by simp;omega⟩
   go_upto_region 5 with fail
   apply Rp K3_1 HBr [] [] [(0,28,_)] [] [] [false]
   ·exact oc (g_bn (fun uZ=>Zk _ _ (k:Int) (ns.length:Int) _ uZ hl)) on
   intro u4 HB4 sz4 K4
   simp only[sQ] at K4⊢
   go_upto_region 9 with fail
   apply Rp K4 HB4 [.all 1 (LN (gat op (x%m) ns k))] [] [(0,40,_),(2,9,_)] [] [] [true,false]
   ·exact oc (g_ld 1 uN iN)<|oc (g_st 0 iN)<|oc g_as on
   intro u5 HB5 sz5 K5
   simp only[sQ] at K5⊢
   clear K4 HB4
   have c8:=(K5.cv 0).n4
   go_wp2
   refine bodyPost_ret (v:= .tuple #[NV (gat op (x%m) ns k),.int .i64 0]) (by simp[results,Tryz.results117,go_sem,c8]) rfl ⟨by rw[hkn],HB5⟩
theorem ent_mod_Mul'(vs:Array Value)(w:World):(callFunc 97 vs).run Tryz.prog w= .ok (.enter 97 vs) w:=by kernel_rfl
theorem mProduct(m:Int)(sl:Option Addr)(gb go cap:Nat)(ns:List Int)(w:World)(hns:ns.length<=50)(hm:In m)(h:m≠0)(hn:Hid (∀k,k<ns.length->In (ns.getD k 0)))(hix:Hid (∀j,j<ns.length-> ∀W,(Instr.indexAt 27 (.slice sl ns.length cap) (.int .i64 j)).run Tryz.prog W= .ok (.pointer (some ⟨gb,go+4*j,none⟩)) W))(hg:ns.length=0\/gb<w.heap.size)(hS:Hid (SN w gb go ns)):
 CC 89 #[NV m,.slice sl ns.length cap] w (.tuple #[NV (gat (fun a b=>(a*b)%m) (1%m) ns ns.length),.int .i64 0]):=by
 go_enter Tryz.func89,Tryz.ntmps89
 go_upto_region 1 with fail
 obtain⟨v0,hC,HB0,K0⟩:=bx2 w (LN m) 24 L0s 24
 rw[hC]
 clear hC
 apply Rd K0 HB0 [.no,.all 6 (LN (gat (fun a b=>(a*b)%m) (1%m) ns ns.length))] [] [(0,6,_),(1,7,_),(2,8,_),(3,9,_),(4,10,_),(5,11,_),(7,5,_)] [] [] [false]
 ·exact oc (g_cl Z5 (fun uZ=>nOf 1 uZ (by omega) (by omega)))<|oc (g_ld 0 uN iN)<|oc g_mv<|oc (g_cb ent_mod_gather (fun uZ bZ=>mgather 97 (fun a b=>(a*b)%m) 1 m sl gb go cap ns uZ hns In_1 hm h ent_mod_Mul' (fun a b ha hb u=>mMul a b m u ha hb hm h) (fun a b ha hb=>Ze hm h) hn hix (hg.imp id (fun h=>Nat.lt_of_lt_of_le h bZ.size)) (hS.out.below2 bZ hg)))<|oc g_ex<|oc g_ex<|oc (g_st 1 iN)<|oc g_as on
 intro u1 HB1 sz1 K1
 simp only[sQ] at K1⊢
 clear K0 HB0
 have c4:=(K1.cv 0).n4
 go_wp2
 refine bodyPost_ret (v:= .tuple #[NV (gat (fun a b=>(a*b)%m) (1%m) ns ns.length),.int .i64 0]) (by simp[results,Tryz.results89,go_sem,c4]) rfl ⟨rfl,HB1⟩
theorem bdw0'(w:World):(Instr.build 86 [].toArray).run Tryz.prog w= .ok (WV 0) w:=by
 have e:WV 0=A8 0 0 0 0 0 0 0 0:=WV_of 0 0 0 0 0 0 0 0 0 W_0 W_0 W_0 W_0 W_0 W_0 W_0 W_0 (by simp[V])
 rw[e];exact zW w
theorem xSum(m:Int)(sl:Option Addr)(gb go cap:Nat)(ns:List Int)(w:World)(hns:ns.length<=50)(hm:In m)(h:m≠0)(hn:Hid (∀k,k<ns.length->In (ns.getD k 0)))(hix:Hid (∀j,j<ns.length-> ∀W,(Instr.indexAt 27 (.slice sl ns.length cap) (.int .i64 j)).run Tryz.prog W= .ok (.pointer (some ⟨gb,go+4*j,none⟩)) W))(hg:ns.length=0\/gb<w.heap.size)(hS:Hid (SN w gb go ns)):
 CC 31 #[NV m,.slice sl ns.length cap] w (.tuple #[NV (gat (fun a b=>(a+b)%m) (0%m) ns ns.length),.int .i64 0]):=by
 have hI:Hid (∀k,k<=ns.length->In (gat (fun a b=>(a+b)%m) (0%m) ns k)):=gat_In (Ze hm h) (fun a b ha hb=>Ze hm h) hn.out
 go_enter Tryz.func31,Tryz.ntmps31
 go_upto_region 1 with fail
 obtain⟨v0,hC,HB0,K0⟩:=bx2 w (LN m) 24 L0s 24
 rw[hC]
 clear hC
 apply Rp K0 HB0 [] [(6,6,L0s,some (7,LN (0%m)))] [(0,10,_),(1,11,_),(2,12,_),(3,9,_),(4,13,_),(5,14,_),(8,7,_)] [(7,6)] [] []
 ·exact oc (g_bd bdw0')<|oc (g_ld 0 uN iN)<|oc (g_cl Zg (fun uZ=>Uu 0 m uZ In_0.wide hm h))<|oc g_mv<|oc g_ex<|oc g_ex<|oc (g_al 0 aN)<|oc (g_sn 0 iN)<|oc g_as on
 intro u1 b1_6 HB1 sz1 K1
 simp only[sQ] at K1⊢
 clear K0 HB0
 go_upto_region 2 with fail
 apply Rn K1 HB1 [(0,8,_)]
 ·exact oc g_as on
 intro u2 HB2 sz2 K2
 simp only[sQ] at K2⊢
 clear K1 HB1
 go_wp2_with fail
 go_loopw [7,8] (fun s7 s8 wr=> ∃(k:Nat),k<=ns.length/\s7= .int .i64 0/\s8= .int .i64 (k:Int)/\Bw w wr/\CV wr (w.heap.size) (LN m)/\CV wr (w.heap.size+1) L0s/\CV wr b1_6 (LN (gat (fun a b=>(a+b)%m) (0%m) ns k))/\b1_6<wr.heap.size/\w.heap.size+1<wr.heap.size) (fun _ s8 _=>ns.length -(intOf s8).toNat)
 case atStart=>exact⟨0,by omega,rfl,rfl,HB2,(K2.cv 0),(K2.cv 1),(K2.cv 2),(K2.lt 2),(K2.lt 1)⟩
 case round=>
  obtain⟨k,hk,rfl,rfl,HBr,Km,Kr,Kg,lg,lr⟩:=hrel
  clear HB2
  have hnK:=K2.n
  simp at hnK
  have hoK2:=K2.lo 2
  by_cases hj:k<ns.length
  ·have hl:decide ((k:Int)<(ns.length:Int))=true:=by simp;omega
   have ik:=hI.out k hk
   have iy:=hn.out k hj
   have hX:=hix.out k hj
   have hX:Hid _:=hX
   have hR:=hS.out.at k hj
   have hR:Hid _:=hR
   have hlen:(k:Int)<1000:=by omega
   obtain⟨y,ey⟩: ∃y,ns.getD k 0=y:=⟨_,rfl⟩
   obtain⟨z,ez⟩: ∃z,gat (fun a b=>(a+b)%m) (0%m) ns k=z:=⟨_,rfl⟩
   rw[ey] at iy hR
   rw[ez] at ik Kg
   have EY:Hid _:=ey
   have EZ:Hid _:=ez
   clear ey ez
   have K2_1:Bk w.heap.size wr [(false,w.heap.size,LN m),(false,w.heap.size+1,L0s),(true,b1_6,LN z)]:=⟨.c (by omega) Km<| .c lr Kr<| .o lg (K2.lo 2) Kg<|trivial,by simp;omega⟩
   go_upto_region 3 with fail
   apply Rn K2_1 HBr [(0,15,_),(1,16,_),(2,17,_),(3,18,_),(4,19,_),(5,20,_),(6,21,_),(7,22,_)]
   ·exact oc g_mv<|oc g_mv<|oc (g_ln Tryz.underlying27)<|oc (g_bn (fun uZ=>Zk _ _ (k:Int) (ns.length:Int) _ uZ hl))<|oc g_mv<|oc g_mv<|oc (g_bn (fun uZ=>Tw _ _ _ 0 0 _ uZ rfl))<|oc g_pk on
   intro u3 HB3 sz3 K3
   simp only[sQ] at K3⊢
   go_upto_region 5 with fail
   apply Rd K3 HB3 [.no,.no,.all 10 (LN ((z+y)%m))] [] [(0,26,_),(1,27,_),(2,28,_),(3,29,_),(4,30,_),(5,31,_),(6,32,_),(7,25,_),(8,33,_),(9,34,_),(11,7,_)] [(10,0)] [] []
   ·exact oc (g_ld 2 uN iN)<|oc g_mv<|oc g_mv<|oc (g_ix hX.out)<|oc (g_lf hR.out (hg.resolve_left (by omega)) uN iN)<|oc (g_ld 0 uN iN)<|oc (g_cl Ws (fun uZ=>xAdd z y m uZ ik iy hm h))<|oc g_mv<|oc g_ex<|oc g_ex<|oc (g_st 2 iN)<|oc g_as on
   intro u4 HB4 sz4 K4
   simp only[sQ] at K4⊢
   clear K3 HB3
   go_upto_region 4 with fail
   apply Rp K4 HB4 [] [] [(0,23,_),(1,24,_),(2,8,_)] [(2,0)] [(2,8)] []
   ·exact oc g_mv<|oc (g_bn (fun uZ=>Yj _ _ (k:Int) 1 ((k+1:Nat):Int) uZ (by omega) (by omega) (by omega)))<|oc g_as on
   intro u5 HB5 sz5 K5
   simp only[sQ] at K5⊢
   clear K4 HB4
   go_wp2
   refine⟨⟨k+1,by omega,rfl,rfl,HB5,(K5.cv 0),(K5.cv 1),by rw[gat,EY.out,EZ.out];exact(K5.cv 2),(K5.lt 2),(K5.lt 1)⟩,?_⟩
   simp[intOf]<;>omega
  ·have hl:decide ((k:Int)<(ns.length:Int))=false:=by simp;omega
   have hkn:k=ns.length:=by omega
   have K2_1:Bk w.heap.size wr [(false,w.heap.size,LN m),(true,w.heap.size+1,L0s),(false,b1_6,LN (gat (fun a b=>(a+b)%m) (0%m) ns k))]:=⟨.c (by omega) Km<| .o lr (K2.lo 1) Kr<| .c lg Kg<|trivial,by simp;omega⟩
   go_upto_region 3 with fail
   apply Rp K2_1 HBr [] [] [(0,15,_),(1,16,_),(2,17,_),(3,18,_),(4,19,_),(5,20,undef),(6,21,undef),(7,22,_)] [] [] [false]
   ·exact oc g_mv<|oc g_mv<|oc (g_ln Tryz.underlying27)<|oc (g_bn (fun uZ=>Zk _ _ (k:Int) (ns.length:Int) _ uZ hl))<|oc g_mv<|oc g_sk<|oc g_sk<|oc g_pk on
   intro u3 HB3 sz3 K3
   simp only[sQ] at K3⊢
   go_upto_region 6 with fail
   apply Rp K3 HB3 [.all 2 (LN (gat (fun a b=>(a+b)%m) (0%m) ns k))] [] [(0,35,_),(1,36,_),(3,5,_)] [] [] [true,false]
   ·exact oc (g_ld 1 uN iN)<|oc g_mv<|oc (g_st 0 iN)<|oc g_as on
   intro u4 HB4 sz4 K4
   simp only[sQ] at K4⊢
   clear K3 HB3
   have c4:=(K4.cv 0).n4
   go_wp2
   refine bodyPost_ret (v:= .tuple #[NV (gat (fun a b=>(a+b)%m) (0%m) ns k),.int .i64 0]) (by simp[results,Tryz.results31,go_sem,c4]) rfl ⟨by rw[hkn],HB4⟩
end
section
section
section ring
variable {R:Type} [Lean.Grind.CommRing R]
def cR(z:Int):R:= @Int.cast R Lean.Grind.Ring.intCast z
theorem cR_add(x y:Int):(cR (x+y):R)=cR x+cR y:=Lean.Grind.Ring.intCast_add x y
theorem Vz(x y:Int):(cR (x*y):R)=cR x*cR y:=Lean.Grind.Ring.intCast_mul x y
theorem cR_sub(x y:Int):(cR (x -y):R)=cR x -cR y:=Lean.Grind.Ring.intCast_sub x y
theorem cR_1:(cR 1:R)=1:=Lean.Grind.Ring.intCast_one
theorem cR_0:(cR 0:R)=0:=Lean.Grind.Ring.intCast_zero
def sfx(xs vs:List Int)(k:Nat):List (R×R):=((xs.zip vs).drop k).map fun p=>(cR p.1,cR p.2)
theorem sfx_at{xs vs:List Int}{k:Nat}(hl:vs.length=xs.length)(h:k<xs.length):(sfx xs vs k:List (R×R))=(cR (xs.getD k 0),cR (vs.getD k 0))::sfx xs vs (k+1):=by
 unfold sfx
 rw[List.drop_eq_getElem_cons (by simp;omega),List.map_cons,List.getElem_zip]
 simp[List.getElem?_eq_getElem h,List.getElem?_eq_getElem (show k<vs.length by omega)]
theorem sfx_end{xs vs:List Int}(hl:vs.length=xs.length):(sfx xs vs xs.length:List (R×R))=[]:=by
 unfold sfx
 rw[List.drop_eq_nil_of_le (by simp;omega),List.map_nil]
theorem sfx_len{xs vs:List Int}(hl:vs.length=xs.length):(sfx xs vs 0:List (R×R)).length=xs.length:=by simp[sfx,hl]
def preR(xs:List Int):Nat->R->R
 | 0=>fun _=>1
 | k+1=>fun z=>preR xs k z*(z -cR (xs.getD k 0))
def mdR(xs:List Int)(z:R)(a:Nat):Nat->R
 | 0=>1
 | m+1=>mdR xs z a m*(z -cR (xs.getD (a+m) 0))
theorem mdR_sfx{xs vs:List Int}(hl:vs.length=xs.length)(z:R)(a:Nat): ∀m,a+m<=xs.length->mdR xs z a m*pP z (sfx xs vs (a+m))=pP z (sfx xs vs a)
 | 0,h=>by rw[mdR,Nat.add_zero];grind
 | m+1,h=>by
  rw[<-mdR_sfx hl z a m (by omega),sfx_at hl (show a+m<xs.length by omega),mdR,pP]
  rw[<-Nat.add_assoc];grind
variable (p:Nat) [Lean.Grind.IsCharP R p]
theorem Xh(x:Int):(cR (x%(p:Int)):R)=cR x:=Lean.Grind.IsCharP.intCast_emod p x
theorem cR_ext{x y:Int}:(cR x:R)=cR y↔x%(p:Int)=y%(p:Int):=Lean.Grind.IsCharP.intCast_ext_iff p
theorem cR_ho(x:Int)(ns:List Int): ∀k,k<=ns.length->(cR (hoN p x ns k):R)=evPR ((ns.drop (ns.length -k)).map cR) (cR x)
 | 0,h=>by rw[hoN,Nat.sub_zero,List.drop_length,List.map_nil,evPR,cR_0]
 | k+1,h=>by
  have hi:ns.length -(k+1)<ns.length:=by omega
  rw[hoN,Xh,cR_add,Xh,Vz,cR_ho x ns k (by omega),List.drop_eq_getElem_cons hi,List.map_cons,evPR,show ns.length -(k+1)+1=ns.length -k by omega,show ns.length -1 -k=ns.length -(k+1) by omega]
  rw[show ns.getD (ns.length -(k+1)) 0=ns[ns.length -(k+1)] by simp[List.getElem?_eq_getElem hi]]
  grind
theorem cR_hoN(x:Int)(ns:List Int):(cR (hoN p x ns ns.length):R)=evPR (ns.map cR) (cR x):=by
 have:=cR_ho (R:=R) p x ns ns.length (Nat.le_refl _)
 rwa [Nat.sub_self,List.drop_zero] at this
theorem cR_ah(t:Int)(xs:List Int): ∀k,(cR (ahN p t xs k):R)=preR xs k (cR t)
 | 0=>by rw[ahN,preR,cR_1]
 | k+1=>by rw[ahN,preR,Xh,Vz,Xh,cR_sub,cR_ah t xs k]
theorem cR_bh{xs vs:List Int}(hl:vs.length=xs.length)(t:Int): ∀k,k<=xs.length->(cR (bhN p t xs k):R)=pP (cR t) (sfx xs vs (xs.length -k))
 | 0,_=>by rw[bhN,Nat.sub_zero,sfx_end hl,pP,cR_1]
 | k+1,h=>by
  rw[bhN,Xh,Vz,Xh,cR_sub,cR_bh hl t k (by omega),sfx_at hl (show xs.length -(k+1)<xs.length by omega),pP,show xs.length -(k+1)+1=xs.length -k by omega,show xs.length -1 -k=xs.length -(k+1) by omega]
  grind
theorem cR_ds{xs:List Int}{i:Nat}: ∀j,(cR (dsN p xs i j):R)=if j<=i then preR xs j (cR (xs.getD i 0)) else preR xs i (cR (xs.getD i 0))*mdR xs (cR (xs.getD i 0)) (i+1) (j -(i+1))
 | 0=>by rw[dsN,if_pos (Nat.zero_le _),preR,cR_1]
 | j+1=>by
  rw[dsN]
  by_cases e:j=i
  ·rw[if_pos e,cR_ds j,if_pos (by omega),if_neg (by omega),e,Nat.sub_self,mdR];grind
  ·rw[if_neg e,Xh,Vz,Xh,cR_sub,cR_ds j]
   by_cases h:j<=i
   ·rw[if_pos h,if_pos (by omega),preR]
   ·rw[if_neg h,if_neg (by omega),show j+1 -(i+1)=(j -(i+1))+1 by omega,mdR,show i+1+(j -(i+1))=j by omega];grind
theorem cR_dst{xs vs:List Int}(hl:vs.length=xs.length){i:Nat}(hi:i<xs.length):(cR (dsN p xs i xs.length):R)=preR xs i (cR (xs.getD i 0))*pP (cR (xs.getD i 0)) (sfx xs vs (i+1)):=by
 rw[cR_ds p,if_neg (by omega),<-mdR_sfx hl (cR (xs.getD i 0)) (i+1) (xs.length -(i+1)) (by omega),show i+1+(xs.length -(i+1))=xs.length by omega,sfx_end hl,pP];grind
theorem cR_inv{a x:Int}(h:IsInv (a%(p:Int)) p x):(cR x:R)*cR a=1:=by
 rw[<-Xh (R:=R) p a,<-Vz,<-cR_1,cR_ext p]
 obtain⟨c,hc⟩:=h.2.2
 rw[show x*(a%(p:Int))=1+(p:Int)*c by omega,Int.add_mul_emod_self_left]
theorem wt_sfx{xs vs:List Int}(h:Invs p xs vs): ∀d,d<=xs.length->wtP (preR xs (xs.length -d):R->R) (sfx xs vs (xs.length -d))
 | 0,_=>by rw[Nat.sub_zero,sfx_end h.1];trivial
 | d+1,hd=>by
  have hi:xs.length -(d+1)<xs.length:=by omega
  rw[sfx_at h.1 hi]
  refine⟨?_,?_⟩
  ·rw[<-cR_dst p h.1 hi];exact cR_inv p (h.2 _ hi)
  ·have:=wt_sfx h d (by omega)
   rw[show xs.length -(d+1)+1=xs.length -d by omega]
   rwa [show xs.length -d=(xs.length -(d+1))+1 by omega] at this⊢
theorem wt_all{xs vs:List Int}(h:Invs p xs vs):wtP (fun _=>(1:R)) (sfx xs vs 0):=by
 have:=wt_sfx (R:=R) p h xs.length (Nat.le_refl _)
 rwa [Nat.sub_self] at this
theorem cR_fac{xs vs:List Int}(hl:vs.length=xs.length)(t:Int){i:Nat}(hi:i<xs.length):(cR ((fac p t xs vs).getD i 0):R)=cR (vs.getD i 0)*(preR xs i (cR t)*pP (cR t) (sfx xs vs (i+1))):=by
 rw[fac_get hi,Xh,Vz,Xh,Vz,cR_ah,cR_bh p hl t _ (by omega),show xs.length -(xs.length -1 -i)=i+1 by omega];grind
theorem sm_go{xs vs:List Int}(hl:vs.length=xs.length)(t:Int)(ps:List (Int×Int))(f:R->R)(hf: ∀i,i<xs.length->(cR (ps.getD i (0,0)).2:R)=f (cR (xs.getD i 0))): ∀k,k<=xs.length->cR (smN p (fac p t xs vs) ps k)+smP f (preR xs k) (cR t) (sfx xs vs k)=smP f (fun _=>1) (cR t) (sfx xs vs 0)
 | 0,_=>by rw[smN,cR_0];show 0+smP f (fun _=>1) _ _=_;grind
 | k+1,h=>by
  rw[<-sm_go hl t ps f hf k (by omega),smN,Xh,cR_add,Xh,Vz,cR_fac p hl t (show k<xs.length by omega),hf k (by omega),sfx_at hl (show k<xs.length by omega),smP]
  show _+smP f (fun z=>preR xs k z*(z -cR (xs.getD k 0))) _ _=_
  grind
end ring
theorem smN_rng{q:Int}(hq:0<q){fs:List Int}{ps:List (Int×Int)}: ∀k,0<=smN q fs ps k/\smN q fs ps k<q
 | 0=>⟨Int.le_refl _,hq⟩
 | k+1=>⟨Int.emod_nonneg _ (by omega),Int.emod_lt_of_pos _ hq⟩
theorem hoN_rng{q:Int}(hq:0<q){x:Int}{ns:List Int}: ∀k,0<=hoN q x ns k/\hoN q x ns k<q
 | 0=>⟨Int.le_refl _,hq⟩
 | k+1=>⟨Int.emod_nonneg _ (by omega),Int.emod_lt_of_pos _ hq⟩
theorem lagN(p:Nat)[NeZero p]{xs vs:List Int}(h:Invs p xs vs)(ns:List Int)(hn:ns.length<=xs.length)(t:Int)(ps:List (Int×Int))(hp: ∀i,i<xs.length->(ps.getD i (0,0)).2=hoN p (xs.getD i 0) ns ns.length):smN p (fac p t xs vs) ps xs.length=hoN p t ns ns.length:=by
 have hp0:0<p:=Nat.pos_of_ne_zero (NeZero.ne p)
 have e1:=sm_go (R:=Fin p) p h.1 t ps (evPR (ns.map cR)) (fun i hi=>by rw[hp i hi,cR_hoN]) xs.length (Nat.le_refl _)
 rw[sfx_end h.1,smP,lagP xs.length (sfx xs vs 0) (ns.map cR) (cR t) (sfx_len h.1) (by simpa using hn) (wt_all p h),<-cR_hoN] at e1
 have e2:(cR (smN p (fac p t xs vs) ps xs.length):Fin p)=cR (hoN p t ns ns.length):=by rw[<-e1];grind
 rw[cR_ext p] at e2
 have r1:=smN_rng (q:=p) (by omega) (fs:=fac p t xs vs) (ps:=ps) xs.length
 have r2:=hoN_rng (q:=p) (by omega) (x:=t) (ns:=ns) ns.length
 rwa [Int.emod_eq_of_lt r1.1 r1.2,Int.emod_eq_of_lt r2.1 r2.2] at e2
end
end
section
open Go.RowKit
section
theorem bdNk(k:Int)(h0:0<=k)(h1:k<18446744073709551616)(w:World):(Instr.build 24 [(0,.int .u64 k)].toArray).run Tryz.prog w= .ok (NV k) w:=by
 rw[Vn h0 h1];kernel_rfl
theorem leq_p(p q:Operand)(x y:Int)(b:Bool)(w:World)(h:decide (x<=y)=b):(do eqGuard .leq 3 p q (.int .i64 x) (.int .i64 y);binOp .leq 3 (.int .i64 x) (.int .i64 y):Sem Value).run Tryz.prog w= .ok (.bool b) w:=by
 subst h;go_simp
def pwN(q x:Int):Nat->Int
 | 0=>1
 | k+1=>(pwN q x k*x)%q
def suN(q x:Int)(ns:List Int):Nat->Int
 | 0=>0
 | k+1=>(suN q x ns k+(ns.getD k 0*pwN q x k)%q)%q
section ring
variable {R:Type} [Lean.Grind.CommRing R] (p:Nat) [Lean.Grind.IsCharP R p]
theorem su_go(x:Int)(ns:List Int): ∀k,k<=ns.length->(cR (suN p x ns k):R)+cR (pwN p x k)*evPR ((ns.drop k).map cR) (cR x)=evPR (ns.map cR) (cR x)
 | 0,_=>by rw[suN,pwN,cR_0,cR_1,List.drop_zero];grind
 | k+1,h=>by
  have hk:k<ns.length:=by omega
  rw[<-su_go x ns k (by omega),suN,pwN,Xh,cR_add,Xh,Vz,Xh,Vz,List.drop_eq_getElem_cons hk,List.map_cons,evPR]
  rw[show ns.getD k 0=ns[k] by simp[List.getElem?_eq_getElem hk]]
  grind
end ring
theorem su_ho{q:Int}(hq:2<=q)(x:Int)(ns:List Int):suN q x ns ns.length=hoN q x ns ns.length:=by
 obtain⟨p,rfl⟩: ∃p:Nat,q=(p:Int):=⟨q.toNat,by omega⟩
 have:NeZero p:=⟨by omega⟩
 have e:=su_go (R:=Fin p) p x ns ns.length (Nat.le_refl _)
 rw[List.drop_length,List.map_nil,evPR,<-cR_hoN] at e
 have e2:(cR (suN p x ns ns.length):Fin p)=cR (hoN p x ns ns.length):=by rw[<-e];grind
 rw[cR_ext p] at e2
 have r1: ∀k,0<=suN p x ns k/\suN p x ns k<p:=fun k=>by
  cases k with
  | zero=>exact⟨Int.le_refl _,by show (0:Int)<p;omega⟩
  | succ k=>exact⟨Int.emod_nonneg _ (by omega),Int.emod_lt_of_pos _ (by omega)⟩
 have r2:=hoN_rng (q:=p) (by omega) (x:=x) (ns:=ns) ns.length
 rwa [Int.emod_eq_of_lt (r1 _).1 (r1 _).2,Int.emod_eq_of_lt r2.1 r2.2] at e2
theorem ent_cmpT:EnT 65:=fun _ _=>by kernel_rfl
end
def StR(n f a:Int):Prop:=n%2=1/\3<=n/\2<=f/\(n -1)%f=0/\(n -1)/f<f/\a^(n -1).toNat%n=1/\gI ((a^((n -1)/f).toNat%n -1)%n) n=1
open Classical in
noncomputable def stB (n f a:Int):Bool:=decide (StR n f a)
theorem stB_iff{n f a:Int}:stB n f a=true↔StR n f a:=by simp[stB]
theorem cmp_ge(n m:Int):decide (0<=cmpI n m)=decide (m<=n):=by
 unfold cmpI;rw[Bool.eq_iff_iff];simp;split
 ·simp;omega
 ·split<;>simp<;>omega
theorem StR.pr{n f a:Int}(h:StR n f a)(ha:0<=a)(hf:Pr f.toNat):Pr n.toNat:=by
 obtain⟨h1,h2,h3,h4,h5,h6,h7⟩:=h
 obtain⟨N,rfl⟩: ∃N:Nat,n=N:=⟨n.toNat,by omega⟩
 obtain⟨F,rfl⟩: ∃F:Nat,f=F:=⟨f.toNat,by omega⟩
 obtain⟨A,rfl⟩: ∃A:Nat,a=A:=⟨a.toNat,by omega⟩
 have e1:((N:Int) -1)=((N -1:Nat):Int):=by omega
 have eq:((N:Int) -1)/F=(((N -1)/F:Nat):Int):=by rw[e1,Int.natCast_ediv]
 rw[eq] at h5 h7
 rw[e1] at h4 h6
 simp only[Int.toNat_natCast] at h6 h7 hf⊢
 have k4:(N -1)%F=0:=by
  have:(((N -1)%F:Nat):Int)=0:=by rw[Int.natCast_emod];exact h4
  omega
 have k6:A^(N -1)%N=1:=by
  have:((A^(N -1)%N:Nat):Int)=1:=by rw[Int.natCast_emod,Int.natCast_pow];exact h6
  omega
 have k5:(N -1)/F<F:=by omega
 obtain⟨x,hx⟩: ∃x:Nat,(((A:Int)^((N -1)/F)%N -1)%N)=x:=⟨_,(Int.toNat_of_nonneg (Int.emod_nonneg _ (by omega))).symm⟩
 rw[hx] at h7
 have xl:x<N:=by
  have:=Int.emod_lt_of_pos ((A:Int)^((N -1)/F)%N -1) (show (0:Int)<N by omega)
  omega
 have k7:Nat.gcd x N=1:=by
  unfold gI at h7;simp only[Int.toNat_natCast] at h7;omega
 have kx:(x+1)%N=A^((N -1)/F)%N:=by
  have:(((x+1)%N:Nat):Int)=((A^((N -1)/F)%N:Nat):Int):=by
   rw[Int.natCast_emod,Int.natCast_emod,Int.natCast_pow,Int.natCast_add,<-hx]
   show ((((A:Int)^((N -1)/F)%N -1)%N)+1)%N=_
   rw[Int.emod_add_emod,Int.sub_add_cancel,Int.emod_emod]
  omega
 have hN:N=F*((N -1)/F)+1:=by
  have:=Nat.div_add_mod (N -1) F
  rw[k4] at this
  omega
 exact pock hf hN (by omega) k5 k6 (gcd_demand xl kx k7)
abbrev L0c:List Value:=[.int .u64 0,.int .u64 0,.int .u64 0,.int .u64 0,.int .u64 0,.int .u64 0,.int .u64 0,.int .u64 0,.int .u64 0,.int .u64 0,.int .u64 0,.int .u64 0]
theorem al_api_Cert(w:World):(Instr.alloc 116 true (.tuple #[])).run Tryz.prog w= .ok (.pointer (some ⟨w.heap.size,0,none⟩)) (w.alloc (.cells L0c.toArray 116)):=by kernel_rfl
def flC:List (Int×Int×Int)->List Value
 | []=>[]
 | c::r=>CE c.1 c.2.1 c.2.2++flC r
def SCt(w:World)(g o:Nat)(cs:List (Int×Int×Int)):Prop:= ∀j v,(flC cs)[j]?=some v->w.cell? ⟨g,o+j,none⟩=some v
theorem SCt.below{w w':World}{m g o:Nat}{cs:List (Int×Int×Int)}(h:SCt w g o cs)(hb:Below m w w')(hg:g<m):SCt w' g o cs:=fun j v hj=>(hb.cell (p:=⟨g,o+j,none⟩) hg).trans (h j v hj)
theorem SCt.empty{w:World}{g o:Nat}{cs:List (Int×Int×Int)}(h:cs.length=0):SCt w g o cs:=fun j v hj=>by
 have e:cs=[]:=List.eq_nil_of_length_eq_zero h
 subst e;simp[flC] at hj
theorem SCt.below2{w w':World}{m g o:Nat}{cs:List (Int×Int×Int)}(h:SCt w g o cs)(hb:Below m w w')(hg:cs.length=0\/g<m):SCt w' g o cs:=by
 rcases hg with e | hg
 ·exact SCt.empty e
 ·exact h.below hb hg
abbrev cat(cs:List (Int×Int×Int))(j:Nat):Int×Int×Int:=cs.getD j (0,0,0)
theorem flC_get: ∀(cs:List (Int×Int×Int)) (j c:Nat) (v:Value),j<cs.length->(CE (cat cs j).1 (cat cs j).2.1 (cat cs j).2.2)[c]?=some v->(flC cs)[12*j+c]?=some v
 | [],j,c,v,h,_=>by simp at h
 | n::r,0,c,v,h,e=>by
  rw[flC,List.getElem?_append_left]
  ·simpa [cat] using e
  ·have:=(List.getElem?_eq_some_iff.1 e).1
   simpa using this
 | n::r,j+1,c,v,h,e=>by
  rw[flC,List.getElem?_append_right (by simp;omega)]
  have:=flC_get r j c v (by simpa using h) (by simpa [cat] using e)
  simpa [show 12*(j+1)+c -12=12*j+c by omega] using this
theorem SCt.at{w:World}{g o:Nat}{cs:List (Int×Int×Int)}(h:SCt w g o cs)(j:Nat)(hj:j<cs.length):w.rangeAt g (o+12*j) (CE (cat cs j).1 (cat cs j).2.1 (cat cs j).2.2):=fun c v hc=>by
 have:=h (12*j+c) v (flC_get cs j c v hj hc)
 rwa [<-Nat.add_assoc] at this
theorem ixC(g o n cap j:Nat)(h:j<n)(w:World):(Instr.indexAt 112 (.slice (some ⟨g,o,none⟩) n cap) (.int .i64 j)).run Tryz.prog w= .ok (.pointer (some ⟨g,o+12*j,none⟩)) w:=by
 have h2:(j:Int)<n:=by omega
 go_simp
noncomputable def knB (cs:List (Int×Int×Int)):Nat->Bool
 | 0=>smB (cat cs 0).2.1
 | k+1=>decide ((cat cs (k+1)).2.1=(cat cs k).1)
noncomputable def crB (cs:List (Int×Int×Int)):Nat->Bool
 | 0=>true
 | k+1=>crB cs k&&(knB cs k&&stB (cat cs k).1 (cat cs k).2.1 (cat cs k).2.2)
noncomputable def cfB (cs:List (Int×Int×Int)):Bool:=crB cs cs.length&&decide (0<cs.length)
theorem bdC(n f a:Int)(w:World):(Instr.build 116 [(0,NV n),(1,NV f),(2,NV a)].toArray).run Tryz.prog w= .ok (CX n f a) w:=by kernel_rfl
theorem bsC1(n f a:Int)(w:World):(Instr.buildSlice 112 1 ([0].zip [CX n f a]).toArray).run Tryz.prog w= .ok (.slice (some ⟨w.heap.size,0,none⟩) 1 1) (w.alloc (.cells (CE n f a).toArray 116)):=by kernel_rfl
theorem infoC:(Tryz.prog.info? 116).map (fun i=>(i.zero,i.size,i.bytes))=some (some (CX 0 0 0),12,96):=by kernel_rfl
def stp(ns:List Int):Nat->List (Int×Int×Int)
 | 0=>[]
 | j+1=>stp ns j++[(ns.getD (j+1) 0,ns.getD j 0,2)]
theorem stp_len(ns:List Int): ∀j,(stp ns j).length=j
 | 0=>rfl
 | j+1=>by rw[stp,List.length_append,stp_len ns j];rfl
theorem flC_len: ∀cs:List (Int×Int×Int),(flC cs).length=cs.length*12
 | []=>rfl
 | c::r=>by rw[flC,List.length_append,flC_len r,List.length_cons];simp;omega
theorem flC_app: ∀a b:List (Int×Int×Int),flC (a++b)=flC a++flC b
 | [],_=>rfl
 | c::r,b=>by rw[List.cons_append,flC,flC,flC_app r b,List.append_assoc]
theorem flC_stp(ns:List Int)(j:Nat):flC (stp ns (j+1))=flC (stp ns j)++CE (ns.getD (j+1) 0) (ns.getD j 0) 2:=by
 rw[stp,flC_app];simp[flC]
theorem CE_one{n f a:Int}: ∀v∈CE n f a,v.oneCell'=true:=fun v hv=>by
 simp only[CE,List.mem_cons,List.not_mem_nil,or_false] at hv
 rcases hv with rfl | rfl | rfl | rfl | rfl | rfl | rfl | rfl | rfl | rfl | rfl | rfl<;>rfl
theorem add_drop{xs news zs:List Value}:xs++(zs.take 12)++(zs.drop 12)=xs++zs:=by rw[List.append_assoc,List.take_append_drop]
end
section
def pwm:Nat->Nat->Nat->Nat->Nat
 | 0,_,_,m=>1%m
 | k+1,a,e,m=>cond (Nat.beq (e%2) 1) (a*pwm k (a*a%m) (e/2) m%m) (pwm k (a*a%m) (e/2) m)
theorem pwm_eq: ∀(k a e m:Nat),e<2^k->pwm k a e m=a^e%m
 | 0,a,e,m,h=>by
  have:e=0:=by simpa using h
  rw[pwm,this,Nat.pow_zero]
 | k+1,a,e,m,h=>by
  have h2:e/2<2^k:=by rw[Nat.pow_succ] at h;omega
  have ih:=pwm_eq k (a*a%m) (e/2) m h2
  have e1:(a*a%m)^(e/2)%m=a^(2*(e/2))%m:=by
   rw[<-Nat.pow_mod,Nat.pow_mul,Nat.pow_two]
  rw[pwm,ih,e1]
  by_cases he:e%2=1
  ·rw[show Nat.beq (e%2) 1=true by rw[he];rfl,cond_true]
   rw[Nat.mul_mod,Nat.mod_mod,<-Nat.mul_mod]
   have:a*a^(2*(e/2))=a^e:=by
    rw[Nat.mul_comm,<-Nat.pow_succ];congr 1;omega
   rw[this]
  ·have h0:e%2=0:=by omega
   rw[show Nat.beq (e%2) 1=false by rw[h0];rfl,cond_false]
   congr 2;omega
theorem pow_of_pwm{a e m r:Nat}(k:Nat)(he:e<2^k)(h:pwm k a e m=r):a^e%m=r:=by rw[<-pwm_eq k a e m he,h]
theorem StR.of(N F A q k x:Nat)(h1:N%2=1)(h2:3<=N)(h3:2<=F)(h4:F*q+1=N)(h5:q<F)(hk:N<2^k)(h6:pwm k A (N -1) N=1)(h7:pwm k A q N=x)(hx:1<=x)(h8:Nat.gcd (x -1) N=1):StR N F A:=by
 have hq:q<2^k:=by
  have:1*q<=F*q:=Nat.mul_le_mul_right q (by omega)
  omega
 have k6:=pow_of_pwm k (by omega) h6
 have k7:=pow_of_pwm k hq h7
 have xl:x<N:=by rw[<-k7];exact Nat.mod_lt _ (by omega)
 have e1:((N:Int) -1)=((N -1:Nat):Int):=by omega
 have e2:N -1=F*q:=by omega
 have e3:((N:Int) -1)/F=((q:Nat):Int):=by
  rw[e1,<-Int.natCast_ediv,e2,Nat.mul_div_cancel_left q (by omega)]
 refine⟨by omega,by omega,by omega,?_,by rw[e3];omega,?_,?_⟩
 ·rw[e1,<-Int.natCast_emod,e2,Nat.mul_mod_right];rfl
 ·rw[e1,Int.toNat_natCast,<-Int.natCast_pow,<-Int.natCast_emod,k6];rfl
 ·rw[e3,Int.toNat_natCast,<-Int.natCast_pow,<-Int.natCast_emod,k7]
  have e4:((x:Int) -1)%(N:Int)=((x -1:Nat):Int):=by
   have:((x:Int) -1)=((x -1:Nat):Int):=by omega
   rw[this,<-Int.natCast_emod,Nat.mod_eq_of_lt (by omega)]
  rw[e4]
  unfold gI
  rw[Int.toNat_natCast,Int.toNat_natCast,h8];rfl
theorem Sm.of(n b:Nat)(h2:2<=n)(hl:n<1048576)(hb:n<b*b)(h:(List.range b).all (fun d=>Nat.blt d 2 || !(Nat.beq (n%d) 0))=true):Sm n:=by
 refine⟨by omega,by omega,fun d hd hq he=>?_⟩
 obtain⟨e,rfl⟩: ∃e:Nat,d=e:=⟨d.toNat,by omega⟩
 have hq':e*e<=n:=by
  have:((e*e:Nat):Int)<=n:=by rw[Int.natCast_mul];exact hq
  omega
 have he':n%e=0:=by
  have:((n%e:Nat):Int)=0:=by rw[Int.natCast_emod];exact he
  omega
 have hlt:e<b:=Nat.lt_of_not_le fun hn=>by
  have:=Nat.mul_le_mul hn hn
  omega
 have:=List.all_eq_true.1 h e (List.mem_range.2 hlt)
 rw[he'] at this
 simp[Nat.blt] at this
 omega
theorem Tl:smB 131101=true:=smB_t (Sm.of 131101 363 (by omega) (by omega) (by omega) (by decide+kernel))
theorem chain0_1:stB 581039633 131101 2=true:=stB_iff.2 (StR.of 581039633 131101 2 4432 30 554694791 (by decide+kernel) (by decide+kernel) (by decide+kernel) (by decide+kernel) (by decide+kernel) (by decide+kernel) (by decide+kernel) (by decide+kernel) (by decide+kernel) (by decide+kernel))
theorem chain0_2:stB 1162079267 581039633 2=true:=stB_iff.2 (StR.of 1162079267 581039633 2 2 31 4 (by decide+kernel) (by decide+kernel) (by decide+kernel) (by decide+kernel) (by decide+kernel) (by decide+kernel) (by decide+kernel) (by decide+kernel) (by decide+kernel) (by decide+kernel))
end
section
open Go.RowKit
def chain0:List (Int×Int×Int):=[(581039633,131101,2),(1162079267,581039633,2)]
theorem chain0_ok:cfB chain0=true:=by simp[cfB,crB,knB,cat,chain0,Tl,chain0_1,chain0_2]
theorem chain0_in: ∀j,j<chain0.length->In (cat chain0 j).1/\In (cat chain0 j).2.1/\In (cat chain0 j).2.2:=fun j hj=>by
 have:j=0\/j=1:=by have:chain0.length=2:=rfl;omega
 rcases this with rfl | rfl<;>exact⟨⟨by decide,by decide⟩,⟨by decide,by decide⟩,⟨by decide,by decide⟩⟩
theorem Xn(n:Int)(w:World)(h0:0<=n)(h1:n<9223372036854775808):CC 33 #[.int .i64 n] w (NV n):=by
 rw[Vn h0 (by omega)]
 have hw:IntKind.u64.wrap n=n:=by simp[IntKind.wrap,IntKind.signed,IntKind.bits];omega
 go_enter Tryz.func33,Tryz.ntmps33
 go_wp2
 go_returns
 exact⟨by simp,by go_grown⟩
theorem smB_iff{x:Int}:smB x=true↔Sm x:=by simp[smB]
theorem crB_pr{cs:List (Int×Int×Int)}(hin: ∀j,j<cs.length->In (cat cs j).1/\In (cat cs j).2.1/\In (cat cs j).2.2): ∀k,k<cs.length->crB cs (k+1)=true->Pr (cat cs k).1.toNat
 | 0,hk,h=>by
  rw[crB,Bool.and_eq_true,Bool.and_eq_true] at h
  have hs:smB (cat cs 0).2.1=true:=h.2.1
  exact(stB_iff.1 h.2.2).pr (hin 0 hk).2.2.1 (smB_iff.1 hs).pr
 | k+1,hk,h=>by
  rw[crB,Bool.and_eq_true,Bool.and_eq_true] at h
  have ih:=crB_pr hin k (by omega) h.1
  have e:(cat cs (k+1)).2.1=(cat cs k).1:=by have:=h.2.1;rw[knB] at this;simpa using this
  exact(stB_iff.1 h.2.2).pr (hin (k+1) hk).2.2.1 (by rw[e];exact ih)
theorem cfB_pr{cs:List (Int×Int×Int)}(hin: ∀j,j<cs.length->In (cat cs j).1/\In (cat cs j).2.1/\In (cat cs j).2.2)(h:cfB cs=true):0<cs.length/\Pr (cat cs (cs.length -1)).1.toNat:=by
 rw[cfB,Bool.and_eq_true] at h
 have h0:0<cs.length:=by simpa using h.2
 refine⟨h0,crB_pr hin _ (by omega) ?_⟩
 rw[show cs.length -1+1=cs.length by omega];exact h.1
end
end Go.Proofs.YtbbohmgjphpfeaaGreatDoor
