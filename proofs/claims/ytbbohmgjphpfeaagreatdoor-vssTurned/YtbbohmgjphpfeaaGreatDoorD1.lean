import Derived.Test.YtbbohmgjphpfeaaGreatDoorV3
import Derived.Test.YtbbohmgjphpfeaaGreatDoorS1e
import Derived.Test.YtbbohmgjphpfeaaGreatDoorS2
import Derived.Test.YtbbohmgjphpfeaaGreatDoorD2
namespace Go.Proofs.YtbbohmgjphpfeaaGreatDoor
set_option linter.unusedVariables false
set_option linter.unusedSimpArgs false
set_option maxRecDepth 100000
set_option maxHeartbeats 4000000
open Go.RowKit
set_option maxHeartbeats 8000000 in
theorem Divide_1 (a b c d e f g h m0 m1 m2 m3:Int) (w:World) (ha:W64 a) (hb:W64 b) (hc:W64 c) (hd:W64 d) (he:W64 e) (hf:W64 f) (hg:W64 g) (hh:W64 h) (hm0:W64 m0) (hm1:W64 m1) (hm2:W64 m2) (hm3:W64 m3) (hM:(V m0 m1 m2 m3)≠0):
 CC 101 #[A8 a b c d e f g h,A4 m0 m1 m2 m3] w (.tuple #[WV ((V a b c d+V e f g h*0x10000000000000000000000000000000000000000000000000000000000000000)/(V m0 m1 m2 m3)),NV ((V a b c d+V e f g h*0x10000000000000000000000000000000000000000000000000000000000000000)%(V m0 m1 m2 m3)),.int .i64 0]):=by
 have he0:eq4 m0 m1 m2 m3 0 0 0 0=false:=by
  rw[Bool.eq_false_iff];intro hq
  rw[eq4_iff] at hq
  obtain⟨rfl,rfl,rfl,rfl⟩:=hq
  exact hM rfl
 have hlt:=lift_top m0 m1 m2 m3 hm0 hm1 hm2 hm3 hM
 obtain⟨up,eup⟩: ∃up,256 -blen m0 m1 m2 m3=up:=⟨_,rfl⟩
 rw[eup] at hlt
 obtain⟨u1,u2,u3,u4⟩:=hlt
 have hz0:W64 0:=W_0
 go_enter Tryz.func101,Tryz.ntmps101
 go_wp2_with fail
 refine(Up m0 m1 m2 m3 _ hm0 hm1 hm2 hm3).mono ?_
 rintro en w1 ⟨rfl,hB⟩
 have sz:=hB.size
 simp only[World.size_alloc] at sz
 have hX1:CL w1 w.heap.size [a,b,c,d,e,f,g,h]:=(((CL.new w [a,b,c,d,e,f,g,h] 86).alloc (by simp) _).alloc (by simp<;>omega) _).alloc (by simp<;>omega) _|>.below hB (by simp<;>omega)
 have hM1:CL w1 (w.heap.size+1) [m0,m1,m2,m3]:=((CL.newAt (w.alloc _) [m0,m1,m2,m3] 24 _ (by simp)).alloc (by simp) _).alloc (by simp<;>omega) _|>.below hB (by simp<;>omega)
 have hQ1:CL w1 (w.heap.size+1+1) [0,0,0,0,0,0,0,0]:=(CL.newAt ((w.alloc _).alloc _) [0,0,0,0,0,0,0,0] 86 _ (by simp)).alloc (by simp) _|>.below hB (by simp<;>omega)
 have hR1:CL w1 (w.heap.size+1+1+1) [0,0,0,0]:=(CL.newAt (((w.alloc _).alloc _).alloc _) [0,0,0,0] 24 _ (by simp)).below hB (by simp<;>omega)
 have q1:Bw w w1:=Z7 (Z3 (Z3 (Z3 (Z3 (Zp w) _) _) _) _) hB
 clear hB
 have z3:w.heap.size+1+1+1<w1.heap.size:=by omega
 obtain⟨x0,x1,x2,x3,x4,x5,x6,x7,x8,x9,x10,x11,d0,d1,d2,d3,e4,e5,e6,e7,e8,e9,e10,e11,lwx,lwd,hws,ed,hd3,ex,hr0⟩:=div_words a b c d e f g h m0 m1 m2 m3 up ha hb hc hd he hf hg hh hm0 hm1 hm2 hm3 hM u3 u4
 obtain⟨cx,hcx⟩: ∃cx:List Int,cx=[x0,x1,x2,x3,x4,x5,x6,x7,x8,x9,x10,x11]:=⟨_,rfl⟩
 obtain⟨cd,hcd⟩: ∃cd:List Int,cd=[d0,d1,d2,d3,e4,e5,e6,e7,e8,e9,e10,e11]:=⟨_,rfl⟩
 have lx:cx.length=12:=by rw[hcx];rfl
 have ld:cd.length=12:=by rw[hcd];rfl
 have callX: ∀u,CC 131 #[A8 a b c d e f g h,.int .i64 up] u (.agg (cx.map (Value.int .u64)).toArray):=fun u=>by
  rw[hcx,<-lwx];exact lift_any a b c d e f g h up u ha hb hc hd he hf hg hh u1 u2
 have callD: ∀u,CC 131 #[A8 m0 m1 m2 m3 0 0 0 0,.int .i64 up] u (.agg (cd.map (Value.int .u64)).toArray):=fun u=>by
  rw[hcd,<-lwd];exact lift_any m0 m1 m2 m3 0 0 0 0 up u hm0 hm1 hm2 hm3 hz0 hz0 hz0 hz0 u1 u2
 have info:(Tryz.prog.info? 173).map (·.size)=some 12:=by rfl
 go_upto_region 4 with fail
 go_cut [8,9] (fun t8 t9 wx=> ∃b8 b9,t8= .pointer (some ⟨b8,0,none⟩)/\t9= .pointer (some ⟨b9,0,none⟩)/\Bw w wx/\w.heap.size+1+1+1<b8/\w.heap.size+1+1+1<b9/\b8≠b9/\b8<wx.heap.size/\b9<wx.heap.size/\CL wx b8 cx/\CL wx b9 cd/\CL wx (w.heap.size+1+1) [0,0,0,0,0,0,0,0]/\CL wx (w.heap.size+1+1+1) [0,0,0,0])
 case first=>
  refine Xm (fun fd a' u=> ∃t8 t9 t23 t24 t25 t26 t27 t28 t29,a'=⟨((A8 a b c d e f g h)::(A4 m0 m1 m2 m3)::(.pointer (some ⟨w.heap.size,0,none⟩))::(.pointer (some ⟨w.heap.size+1,0,none⟩))::(.pointer (some ⟨w.heap.size+1+1,0,none⟩))::(.pointer (some ⟨w.heap.size+1+1+1,0,none⟩))::(.int .i64 0)::(.int .i64 up)::t8::t9::undef::undef::undef::undef::undef::(A4 m0 m1 m2 m3)::(A4 0 0 0 0)::(.bool false)::undef::undef::(A4 m0 m1 m2 m3)::(.int .i64 (blen m0 m1 m2 m3))::(.int .i64 up)::t23::t24::t25::t26::t27::t28::t29::undef::undef::undef::undef::undef::undef::undef::undef::undef::undef::undef::undef::undef::undef::undef::undef::undef::undef::undef::undef::undef::undef::undef::undef::undef::undef::undef::[]).toArray,[]⟩/\F4 (w.heap.size) (w.heap.size+1) (w.heap.size+1+1) (w.heap.size+1+1+1) w [a,b,c,d,e,f,g,h] [m0,m1,m2,m3] cx [m0,m1,m2,m3,0,0,0,0] cd up (fd 0) (fd 1) (fd 2) (fd 3) (fd 4) (fd 5) (fd 6) (fd 7) (fd 8) (fd 9) (fd 10) t8 t9 t23 t24 t25 t26 t27 t28 t29 u) (by kernel_rfl) (by kernel_rfl) ?_ ?_ ?_
  ·refine⟨undef,undef,undef,undef,undef,undef,undef,undef,undef,rfl,?_⟩
   exact{bel:=q1.drew,kx:=hX1,km:=hM1,kq:=hQ1,kr:=hR1,sz:=z3,c0:=fun e=>(by cases e),c1:=fun e=>(by cases e),c2:=fun e=>(by cases e),c3:=fun e=>(by cases e),c4:=fun e=>(by cases e),c5:=fun e=>(by cases e),c6:=fun e=>(by cases e),a8:=fun e=>(by cases e),a9:=fun e=>(by cases e),ne:=fun e=>(by cases e),o9:=fun e=>e,o10:=fun e=>e}
  ·rintro fd a' u i o ⟨t8,t9,t23,t24,t25,t26,t27,t28,t29,rfl,hF⟩ ho hfi hdep
   have il:i<11:=(Array.getElem?_eq_some_iff.1 ho).1
   have ix:i=0\/i=1\/i=2\/i=3\/i=4\/i=5\/i=6\/i=7\/i=8\/i=9\/i=10:=by omega
   rcases ix with rfl | rfl | rfl | rfl | rfl | rfl | rfl | rfl | rfl | rfl | rfl
   ·cases ho
    refine wpOp_step rfl (fun K hK=>?_)
    have k:=hF.kx
    have k0:=(k 0 _ rfl).1;have k1:=(k 1 _ rfl).1;have k2:=(k 2 _ rfl).1;have k3:=(k 3 _ rfl).1;have k4:=(k 4 _ rfl).1;have k5:=(k 5 _ rfl).1;have k6:=(k 6 _ rfl).1;have k7:=(k 7 _ rfl).1
    clear hX1 hM1 hQ1 hR1 k callX callD
    go_simp
    exact hK _ _ ⟨_,_,_,_,_,_,_,_,_,rfl,{hF with c0:=fun _=>rfl}⟩
   ·cases ho
    refine wpOp_step rfl (fun K hK=>?_)
    go_simp
    exact hK _ _ ⟨_,_,_,_,_,_,_,_,_,rfl,{hF with c1:=fun _=>rfl}⟩
   ·cases ho
    refine wpOp_step rfl (fun K hK=>?_)
    have y0:fd 0=true:=hdep ⟨0,.data⟩ (by simp) rfl
    have y1:fd 1=true:=hdep ⟨1,.data⟩ (by simp) rfl
    obtain rfl:=hF.c0 y0
    obtain rfl:=hF.c1 y1
    go_simp
    refine(callX u).mono ?_
    rintro en v ⟨rfl,hB⟩
    have hF':=hF.call (by omega) (by omega) (by omega) hB
    clear hB
    try simp only[Act.put,List.setIfInBounds_toArray,List.set_cons_zero,List.set_cons_succ]
    exact hK _ _ ⟨_,_,_,_,_,_,_,_,_,rfl,{hF' with c2:=fun _=>rfl}⟩
   ·cases ho
    refine wpOp_step rfl (fun K hK=>?_)
    have k:=hF.km
    have k0:=(k 0 _ rfl).1;have k1:=(k 1 _ rfl).1;have k2:=(k 2 _ rfl).1;have k3:=(k 3 _ rfl).1
    clear hX1 hM1 hQ1 hR1 k callX callD
    go_simp
    exact hK _ _ ⟨_,_,_,_,_,_,_,_,_,rfl,{hF with c3:=fun _=>rfl}⟩
   ·cases ho
    refine wpOp_step rfl (fun K hK=>?_)
    have y3:fd 3=true:=hdep ⟨3,.data⟩ (by simp) rfl
    obtain rfl:=hF.c3 y3
    go_simp
    refine(Widen_any m0 m1 m2 m3 u).mono ?_
    rintro en v ⟨rfl,hB⟩
    have hF':=hF.call (by omega) (by omega) (by omega) hB
    clear hB
    try simp only[Act.put,List.setIfInBounds_toArray,List.set_cons_zero,List.set_cons_succ]
    exact hK _ _ ⟨_,_,_,_,_,_,_,_,_,rfl,{hF' with c4:=fun _=>rfl}⟩
   ·cases ho
    refine wpOp_step rfl (fun K hK=>?_)
    go_simp
    exact hK _ _ ⟨_,_,_,_,_,_,_,_,_,rfl,{hF with c5:=fun _=>rfl}⟩
   ·cases ho
    refine wpOp_step rfl (fun K hK=>?_)
    have y4:fd 4=true:=hdep ⟨4,.data⟩ (by simp) rfl
    have y5:fd 5=true:=hdep ⟨5,.data⟩ (by simp) rfl
    obtain rfl:=hF.c4 y4
    obtain rfl:=hF.c5 y5
    go_simp
    refine(callD u).mono ?_
    rintro en v ⟨rfl,hB⟩
    have hF':=hF.call (by omega) (by omega) (by omega) hB
    clear hB
    try simp only[Act.put,List.setIfInBounds_toArray,List.set_cons_zero,List.set_cons_succ]
    exact hK _ _ ⟨_,_,_,_,_,_,_,_,_,rfl,{hF' with c6:=fun _=>rfl}⟩
   ·cases ho
    refine wpOp_step rfl (fun K hK=>?_)
    go_simp
    exact hK _ _ ⟨_,_,_,_,_,_,_,_,_,rfl,hF.new8 hfi (by omega) (by omega) (by omega) _ rfl _⟩
   ·cases ho
    refine wpOp_step rfl (fun K hK=>?_)
    go_simp
    exact hK _ _ ⟨_,_,_,_,_,_,_,_,_,rfl,hF.new9 hfi (by omega) (by omega) (by omega) _ rfl _⟩
   ·cases ho
    refine wpOp_step rfl (fun K hK=>?_)
    have y7:fd 7=true:=hdep ⟨7,.data⟩ (by simp) rfl
    have y2:fd 2=true:=hdep ⟨2,.data⟩ (by simp) rfl
    have y8:fd 8=true:=hdep ⟨8,.phase⟩ (by simp) rfl
    have hF':=hF
    rw[y7,y8] at hF'
    obtain rfl:=hF.c2 y2
    obtain⟨bb,rfl,b1,b2,b3,b4⟩:=hF.a8 y7
    rw[if_pos (by rfl)]
    refine wp_store_mid 173 _ _ rfl bb 0 (cx.map (Value.int .u64)).toArray rfl rfl (by simpa [lx] using b3) (by simpa [lx] using info) (all_oneCell_toArray (Vd _)) ?_
    simp only[Act.put,List.setIfInBounds_toArray,List.set_cons_zero,List.set_cons_succ]
    exact hK _ _ ⟨_,_,_,_,_,_,_,_,_,rfl,by simpa [y7,y8] using hF'.put8 (by omega) (by omega) (by omega) lx (by omega) rfl⟩
   ·cases ho
    refine wpOp_step rfl (fun K hK=>?_)
    have y8:fd 8=true:=hdep ⟨8,.data⟩ (by simp) rfl
    have y6:fd 6=true:=hdep ⟨6,.data⟩ (by simp) rfl
    have y7:fd 7=true:=hdep ⟨7,.phase⟩ (by simp) rfl
    have hF':=hF
    rw[y8,y7] at hF'
    obtain rfl:=hF.c6 y6
    obtain⟨bb,rfl,b1,b2,b3,b4⟩:=hF.a9 y8
    rw[if_pos (by rfl)]
    refine wp_store_mid 173 _ _ rfl bb 0 (cd.map (Value.int .u64)).toArray rfl rfl (by simpa [ld] using b3) (by simpa [ld] using info) (all_oneCell_toArray (Vd _)) ?_
    simp only[Act.put,List.setIfInBounds_toArray,List.set_cons_zero,List.set_cons_succ]
    exact hK _ _ ⟨_,_,_,_,_,_,_,_,_,rfl,by simpa [y7,y8] using hF'.put9 (by omega) (by omega) (by omega) ld (by omega) rfl⟩
  ·rintro fd a' u ⟨t8,t9,t23,t24,t25,t26,t27,t28,t29,rfl,hF⟩ hall
   obtain⟨b8,rfl,p1,p2,p3,p4⟩:=hF.a8 (hall 7 (by decide))
   obtain⟨b9,rfl,g1,g2,g3,g4⟩:=hF.a9 (hall 8 (by decide))
   have hne:b8≠b9:=fun e'=>hF.ne (hall 7 (by decide)) (hall 8 (by decide)) (by rw[e'])
   have hR:=And.intro hF.bel (And.intro (p4 (hall 9 (by decide))) (And.intro (g4 (hall 10 (by decide))) (And.intro hF.kq hF.kr)))
   clear hF hX1 hM1 hQ1 hR1 callX callD
   go_wp2
   go_meet
   exact⟨b8,b9,rfl,rfl,hR.1,p1,g1,hne,p2,g2,hR.2.1,hR.2.2.1,hR.2.2.2.1,hR.2.2.2.2⟩
 case rest=>
  obtain⟨b8,b9,rfl,rfl,q2,p1,g1,hne,p2,g2,hX2,hD2,hQ2,hR2⟩:=hcut
  clear hX1 hM1 hQ1 hR1 callX callD q1 sz z3 info
  go_wp2_with fail
  have s8:b8<wc.heap.size:=p2
  have X3:CL ((wc.alloc (.cells #[.int .u64 0,.int .u64 0,.int .u64 0,.int .u64 0] 24)).alloc (.cells #[.int .u64 0,.int .u64 0,.int .u64 0,.int .u64 0] 24)) b8 cx:=(hX2.alloc p2 _).alloc (by simp;omega) _
  have Y3:CL ((wc.alloc (.cells #[.int .u64 0,.int .u64 0,.int .u64 0,.int .u64 0] 24)).alloc (.cells #[.int .u64 0,.int .u64 0,.int .u64 0,.int .u64 0] 24)) b9 cd:=(hD2.alloc g2 _).alloc (by simp;omega) _
  have Q3:CL ((wc.alloc (.cells #[.int .u64 0,.int .u64 0,.int .u64 0,.int .u64 0] 24)).alloc (.cells #[.int .u64 0,.int .u64 0,.int .u64 0,.int .u64 0] 24)) (w.heap.size+1+1) [0,0,0,0,0,0,0,0]:=(hQ2.alloc (by omega) _).alloc (by simp;omega) _
  have R3:CL ((wc.alloc (.cells #[.int .u64 0,.int .u64 0,.int .u64 0,.int .u64 0] 24)).alloc (.cells #[.int .u64 0,.int .u64 0,.int .u64 0,.int .u64 0] 24)) (w.heap.size+1+1+1) [0,0,0,0]:=(hR2.alloc (by omega) _).alloc (by simp;omega) _
  have V3:CL ((wc.alloc (.cells #[.int .u64 0,.int .u64 0,.int .u64 0,.int .u64 0] 24)).alloc (.cells #[.int .u64 0,.int .u64 0,.int .u64 0,.int .u64 0] 24)) wc.heap.size [0,0,0,0]:=(CL.new wc [0,0,0,0] 24).alloc (by simp) _
  have T3:CL ((wc.alloc (.cells #[.int .u64 0,.int .u64 0,.int .u64 0,.int .u64 0] 24)).alloc (.cells #[.int .u64 0,.int .u64 0,.int .u64 0,.int .u64 0] 24)) (wc.heap.size+1) [0,0,0,0]:=CL.newAt (wc.alloc _) [0,0,0,0] 24 _ (by simp)
  have q3:Bw w ((wc.alloc (.cells #[.int .u64 0,.int .u64 0,.int .u64 0,.int .u64 0] 24)).alloc (.cells #[.int .u64 0,.int .u64 0,.int .u64 0,.int .u64 0] 24)):=Z3 (Z3 q2 _) _
  have z3:wc.heap.size+1<((wc.alloc (.cells #[.int .u64 0,.int .u64 0,.int .u64 0,.int .u64 0] 24)).alloc (.cells #[.int .u64 0,.int .u64 0,.int .u64 0,.int .u64 0] 24)).heap.size:=by simp
  clear hX2 hD2 hQ2 hR2 q2 s8
  generalize ((wc.alloc (.cells #[.int .u64 0,.int .u64 0,.int .u64 0,.int .u64 0] 24)).alloc (.cells #[.int .u64 0,.int .u64 0,.int .u64 0,.int .u64 0] 24))=w3 at *
  generalize wc.heap.size=n5 at *
  have hcp:=copy_words (P:=Tryz.prog) w3.drew 120 22 b9 0 12 n5 4 4 cd [0,0,0,0] [d0,d1,d2,d3] Y3.drew V3.drew rfl rfl (fun j hj=>by rw[hcd];match j,hj with | 0,_=>rfl | 1,_=>rfl | 2,_=>rfl | 3,_=>rfl) Tryz.underlying120 (by kernel_rfl)
  go_region
  clear hcp
  go_upto_region 7 with fail
  have X4:CL (w3.drew.setCells n5 0 [.int .u64 d0,.int .u64 d1,.int .u64 d2,.int .u64 d3]) b8 cx:=CL.cells X3.drew (by omega) _ _
  have Q4:CL (w3.drew.setCells n5 0 [.int .u64 d0,.int .u64 d1,.int .u64 d2,.int .u64 d3]) (w.heap.size+1+1) [0,0,0,0,0,0,0,0]:=CL.cells Q3.drew (by omega) _ _
  have R4:CL (w3.drew.setCells n5 0 [.int .u64 d0,.int .u64 d1,.int .u64 d2,.int .u64 d3]) (w.heap.size+1+1+1) [0,0,0,0]:=CL.cells R3.drew (by omega) _ _
  have V4:CL (w3.drew.setCells n5 0 [.int .u64 d0,.int .u64 d1,.int .u64 d2,.int .u64 d3]) n5 [d0,d1,d2,d3]:=CL.cells_same V3.drew.there rfl
  have T4:CL (w3.drew.setCells n5 0 [.int .u64 d0,.int .u64 d1,.int .u64 d2,.int .u64 d3]) (n5+1) [0,0,0,0]:=CL.cells T3.drew (by omega) _ _
  have q4:Bw w (w3.drew.setCells n5 0 [.int .u64 d0,.int .u64 d1,.int .u64 d2,.int .u64 d3]):=Zb (by omega) _ _ _ q3.drew
  have z4:n5+1<(w3.drew.setCells n5 0 [.int .u64 d0,.int .u64 d1,.int .u64 d2,.int .u64 d3]).heap.size:=by rw[Z5];exact z3
  clear X3 Q3 R3 V3 T3 q3 z3 Y3
  generalize (w3.drew.setCells n5 0 [.int .u64 d0,.int .u64 d1,.int .u64 d2,.int .u64 d3])=w4 at *
  have hcp:=copy_words (P:=Tryz.prog) w4.drew 120 22 b8 8 4 (n5+1) 4 4 cx [0,0,0,0] [x8,x9,x10,x11] X4.drew T4.drew rfl rfl (fun j hj=>by rw[hcx];match j,hj with | 0,_=>rfl | 1,_=>rfl | 2,_=>rfl | 3,_=>rfl) Tryz.underlying120 (by kernel_rfl)
  go_region
  clear hcp
  have X5:CL (w4.drew.setCells (n5+1) 0 [.int .u64 x8,.int .u64 x9,.int .u64 x10,.int .u64 x11]) b8 cx:=CL.cells X4.drew (by omega) _ _
  have Q5:CL (w4.drew.setCells (n5+1) 0 [.int .u64 x8,.int .u64 x9,.int .u64 x10,.int .u64 x11]) (w.heap.size+1+1) [0,0,0,0,0,0,0,0]:=CL.cells Q4.drew (by omega) _ _
  have R5:CL (w4.drew.setCells (n5+1) 0 [.int .u64 x8,.int .u64 x9,.int .u64 x10,.int .u64 x11]) (w.heap.size+1+1+1) [0,0,0,0]:=CL.cells R4.drew (by omega) _ _
  have V5:CL (w4.drew.setCells (n5+1) 0 [.int .u64 x8,.int .u64 x9,.int .u64 x10,.int .u64 x11]) n5 [d0,d1,d2,d3]:=CL.cells V4.drew (by omega) _ _
  have T5:CL (w4.drew.setCells (n5+1) 0 [.int .u64 x8,.int .u64 x9,.int .u64 x10,.int .u64 x11]) (n5+1) [x8,x9,x10,x11]:=CL.cells_same T4.drew.there rfl
  have q5:Bw w (w4.drew.setCells (n5+1) 0 [.int .u64 x8,.int .u64 x9,.int .u64 x10,.int .u64 x11]):=Zb (by omega) _ _ _ q4.drew
  have z5:n5+1<(w4.drew.setCells (n5+1) 0 [.int .u64 x8,.int .u64 x9,.int .u64 x10,.int .u64 x11]).heap.size:=by rw[Z5];exact z4
  clear X4 Q4 R4 V4 T4 q4 z4
  generalize (w4.drew.setCells (n5+1) 0 [.int .u64 x8,.int .u64 x9,.int .u64 x10,.int .u64 x11])=w5 at *
  go_wp2_with fail
  have X6:CL (w5.alloc (.cells #[.int .u64 0,.int .u64 0,.int .u64 0,.int .u64 0,.int .u64 0,.int .u64 0,.int .u64 0,.int .u64 0] 86)) b8 cx:=X5.alloc (by omega) _
  have Q6:CL (w5.alloc (.cells #[.int .u64 0,.int .u64 0,.int .u64 0,.int .u64 0,.int .u64 0,.int .u64 0,.int .u64 0,.int .u64 0] 86)) (w.heap.size+1+1) [0,0,0,0,0,0,0,0]:=Q5.alloc (by omega) _
  have R6:CL (w5.alloc (.cells #[.int .u64 0,.int .u64 0,.int .u64 0,.int .u64 0,.int .u64 0,.int .u64 0,.int .u64 0,.int .u64 0] 86)) (w.heap.size+1+1+1) [0,0,0,0]:=R5.alloc (by omega) _
  have V6:CL (w5.alloc (.cells #[.int .u64 0,.int .u64 0,.int .u64 0,.int .u64 0,.int .u64 0,.int .u64 0,.int .u64 0,.int .u64 0] 86)) n5 [d0,d1,d2,d3]:=V5.alloc (by omega) _
  have T6:CL (w5.alloc (.cells #[.int .u64 0,.int .u64 0,.int .u64 0,.int .u64 0,.int .u64 0,.int .u64 0,.int .u64 0,.int .u64 0] 86)) (n5+1) [x8,x9,x10,x11]:=T5.alloc (by omega) _
  have O6:CL (w5.alloc (.cells #[.int .u64 0,.int .u64 0,.int .u64 0,.int .u64 0,.int .u64 0,.int .u64 0,.int .u64 0,.int .u64 0] 86)) w5.heap.size [0,0,0,0,0,0,0,0]:=CL.new w5 [0,0,0,0,0,0,0,0] 86
  have q6:Bw w (w5.alloc (.cells #[.int .u64 0,.int .u64 0,.int .u64 0,.int .u64 0,.int .u64 0,.int .u64 0,.int .u64 0,.int .u64 0] 86)):=Z3 q5 _
  have z6:w5.heap.size<(w5.alloc (.cells #[.int .u64 0,.int .u64 0,.int .u64 0,.int .u64 0,.int .u64 0,.int .u64 0,.int .u64 0,.int .u64 0] 86)).heap.size:=by simp
  clear X5 Q5 R5 V5 T5 q5
  generalize (w5.alloc (.cells #[.int .u64 0,.int .u64 0,.int .u64 0,.int .u64 0,.int .u64 0,.int .u64 0,.int .u64 0,.int .u64 0] 86))=w6 at *
  generalize w5.heap.size=nq at *
  obtain⟨kx0,kx1,kx2,kx3,kx4,kx5,kx6,kx7,kx8,kx9,kx10,kx11,kd0,kd1,kd2,kd3⟩:=hws
  have allW: ∀x∈cx,W64 x:=by
   rw[hcx];intro x hx
   simp only[List.mem_cons,List.not_mem_nil,or_false] at hx
   rcases hx with rfl | rfl | rfl | rfl | rfl | rfl | rfl | rfl | rfl | rfl | rfl | rfl<;>assumption
  go_loopw [36] (fun i wr=> ∃(k:Nat) (r0 r1 r2 r3:Int) (ql:List Int),i= .int .i64 k/\DR w wr nq n5 b8 (w.heap.size+1+1) (w.heap.size+1+1+1) cx d0 d1 d2 d3 (V x8 x9 x10 x11) k r0 r1 r2 r3 ql) (fun i _=>8 -(intOf i).toNat)
  case atStart=>
   refine⟨0,x8,x9,x10,x11,[0,0,0,0,0,0,0,0],rfl,?_⟩
   exact{hk:=by omega,bel:=q6,sz:=z6,kx:=X6,kd:=V6,kr:=T6,kq:=O6,k2:=Q6,k3:=R6,w0:=kx8,w1:=kx9,w2:=kx10,w3:=kx11,lt:=hr0,ll:=rfl,lw:=by simp[W_0],eq:=by rw[hcx];simp[HR]}
  case round=>
   obtain⟨k,r0,r1,r2,r3,ql,rfl,hD⟩:=hrel
   have hk:=hD.hk
   clear X6 Q6 R6 V6 T6 O6 q6 z6
   by_cases h8:k=8
   ·subst h8
    go_wp2_with fail
    obtain⟨q0,q1,q2,q3,q4,q5,q6,q7,rfl⟩:=list8L ql hD.ll
    obtain⟨sr,esr⟩: ∃sr,V r0 r1 r2 r3/2^up.toNat=sr:=⟨_,rfl⟩
    have call: ∀u,CC 133 #[A4 r0 r1 r2 r3,.int .i64 up] u (NV sr):=fun u=>by
     rw[<-esr];exact lower_any r0 r1 r2 r3 up u hD.w0 hD.w1 hD.w2 hD.w3 u1 u2
    have i24:(Tryz.prog.info? 24).map (·.size)=some 4:=by rfl
    have i29:(Tryz.prog.info? 86).map (·.size)=some 8:=by rfl
    refine Xm (fun fd a' u=> ∃t53 t54 t55 t56,a'=⟨((A8 a b c d e f g h)::(A4 m0 m1 m2 m3)::(.pointer (some ⟨w.heap.size,0,none⟩))::(.pointer (some ⟨w.heap.size+1,0,none⟩))::(.pointer (some ⟨w.heap.size+1+1,0,none⟩))::(.pointer (some ⟨w.heap.size+1+1+1,0,none⟩))::(.int .i64 0)::(.int .i64 up)::(.pointer (some ⟨b8,0,none⟩))::(.pointer (some ⟨b9,0,none⟩))::(.pointer (some ⟨n5,0,none⟩))::(.pointer (some ⟨n5+1,0,none⟩))::(.pointer (some ⟨nq,0,none⟩))::u13::u14::u15::u16::u17::u18::u19::u20::u21::u22::u23::u24::u25::u26::u27::u28::u29::(.slice (some ⟨n5,0,none⟩) 4 4)::(.slice (some ⟨b9,0,none⟩) 4 12)::(.int .i64 4)::(.slice (some ⟨n5+1,0,none⟩) 4 4)::(.slice (some ⟨b8,8,none⟩) 4 4)::(.int .i64 4)::(.int .i64 ((8:Nat):Int))::(.bool false)::u38::u39::u40::u41::u42::u43::u44::u45::u46::u47::u48::u49::u50::u51::u52::t53::t54::t55::t56::[]).toArray,[]⟩/\F15 w nq n5 (w.heap.size+1+1) (w.heap.size+1+1+1) q0 q1 q2 q3 q4 q5 q6 q7 r0 r1 r2 r3 up (D0 sr) (D1 sr) (D2 sr) (D3 sr) (fd 0) (fd 1) (fd 2) (fd 3) (fd 4) (fd 5) (fd 6) t53 t54 t55 t56 u) (by kernel_rfl) (by kernel_rfl) ?_ ?_ ?_
    ·refine⟨u53,u54,u55,u56,rfl,?_⟩
     exact{bel:=hD.bel.drew,sz:=hD.sz,kr:=hD.kr,kq:=hD.kq,k2:=hD.k2,k3:=hD.k3,c0:=fun e=>(by cases e),c1:=fun e=>(by cases e),c2:=fun e=>(by cases e),c3:=fun e=>(by cases e)}
    ·rintro fd a' u i o ⟨t53,t54,t55,t56,rfl,hF⟩ ho hfi hdep
     have il:i<7:=(Array.getElem?_eq_some_iff.1 ho).1
     have ix:i=0\/i=1\/i=2\/i=3\/i=4\/i=5\/i=6:=by omega
     clear hD
     rcases ix with rfl | rfl | rfl | rfl | rfl | rfl | rfl
     ·cases ho
      refine wpOp_step rfl (fun K hK=>?_)
      have kk:=hF.kq
      have k0:=(kk 0 _ rfl).1;have k1:=(kk 1 _ rfl).1;have k2:=(kk 2 _ rfl).1;have k3:=(kk 3 _ rfl).1;have k4:=(kk 4 _ rfl).1;have k5:=(kk 5 _ rfl).1;have k6:=(kk 6 _ rfl).1;have k7:=(kk 7 _ rfl).1
      clear kk call
      go_simp
      exact hK _ _ ⟨_,_,_,_,rfl,{hF with c0:=fun _=>rfl}⟩
     ·cases ho
      refine wpOp_step rfl (fun K hK=>?_)
      have kk:=hF.kr
      have k0:=(kk 0 _ rfl).1;have k1:=(kk 1 _ rfl).1;have k2:=(kk 2 _ rfl).1;have k3:=(kk 3 _ rfl).1
      clear kk call
      go_simp
      exact hK _ _ ⟨_,_,_,_,rfl,{hF with c1:=fun _=>rfl}⟩
     ·cases ho
      refine wpOp_step rfl (fun K hK=>?_)
      go_simp
      exact hK _ _ ⟨_,_,_,_,rfl,{hF with c2:=fun _=>rfl}⟩
     ·cases ho
      refine wpOp_step rfl (fun K hK=>?_)
      have y1:fd 1=true:=hdep ⟨1,.data⟩ (by simp) rfl
      have y2:fd 2=true:=hdep ⟨2,.data⟩ (by simp) rfl
      obtain rfl:=hF.c1 y1
      obtain rfl:=hF.c2 y2
      go_simp
      refine(call u).mono ?_
      rintro en v ⟨rfl,hB⟩
      have hF':=hF.call (by omega) (by omega) (by omega) hB
      clear hB
      try simp only[Act.put,List.setIfInBounds_toArray,List.set_cons_zero,List.set_cons_succ]
      exact hK _ _ ⟨_,_,_,_,rfl,{hF' with c3:=fun _=>rfl}⟩
     ·cases ho
      refine wpOp_step rfl (fun K hK=>?_)
      have y0:fd 0=true:=hdep ⟨0,.data⟩ (by simp) rfl
      obtain rfl:=hF.c0 y0
      have th:u.there (w.heap.size+1+1) 0 8:=by
       have:=hF.k2.there
       cases hg:fd 4<;>simpa [hg] using this
      refine wp_store_mid 86 _ _ rfl (w.heap.size+1+1) 0 #[.int .u64 q0,.int .u64 q1,.int .u64 q2,.int .u64 q3,.int .u64 q4,.int .u64 q5,.int .u64 q6,.int .u64 q7] rfl rfl th i29 (all_oneCell_toArray (Vd [q0,q1,q2,q3,q4,q5,q6,q7])) ?_
      simp only[Act.put,List.setIfInBounds_toArray,List.set_cons_zero,List.set_cons_succ]
      exact hK _ _ ⟨_,_,_,_,rfl,by simpa using hF.put2 (by omega) (by omega) (by omega) (by omega)⟩
     ·cases ho
      refine wpOp_step rfl (fun K hK=>?_)
      have y3:fd 3=true:=hdep ⟨3,.data⟩ (by simp) rfl
      obtain rfl:=hF.c3 y3
      have th:u.there (w.heap.size+1+1+1) 0 4:=by
       have:=hF.k3.there
       cases hg:fd 5<;>simpa [hg] using this
      refine wp_store_mid 24 _ _ rfl (w.heap.size+1+1+1) 0 #[.int .u64 (D0 sr),.int .u64 (D1 sr),.int .u64 (D2 sr),.int .u64 (D3 sr)] rfl rfl th i24 (all_oneCell_toArray (Vd [D0 sr,D1 sr,D2 sr,D3 sr])) ?_
      simp only[Act.put,List.setIfInBounds_toArray,List.set_cons_zero,List.set_cons_succ]
      exact hK _ _ ⟨_,_,_,_,rfl,by simpa using hF.put3 (by omega) (by omega) (by omega) (by omega)⟩
     ·cases ho
      refine wpOp_step rfl (fun K hK=>?_)
      go_simp
      exact hK _ _ ⟨_,_,_,_,rfl,{hF with}⟩
    ·rintro fd a' u ⟨t53,t54,t55,t56,rfl,hF⟩ hall
     have k2:=hF.k2
     have k3:=hF.k3
     have hbel:=hF.bel
     rw[hall 4 (by decide)] at k2
     rw[hall 5 (by decide)] at k3
     have a0:=(k2 0 _ rfl).1;have a1:=(k2 1 _ rfl).1;have a2:=(k2 2 _ rfl).1;have a3:=(k2 3 _ rfl).1;have a4:=(k2 4 _ rfl).1;have a5:=(k2 5 _ rfl).1;have a6:=(k2 6 _ rfl).1;have a7:=(k2 7 _ rfl).1
     have b0:=(k3 0 _ rfl).1;have b1:=(k3 1 _ rfl).1;have b2:=(k3 2 _ rfl).1;have b3:=(k3 3 _ rfl).1
     clear hF hall k2 k3 call i24 i29
     have eq:=hD.eq
     have fin:WV ((V a b c d+V e f g h*0x10000000000000000000000000000000000000000000000000000000000000000)/(V m0 m1 m2 m3))=A8 q0 q1 q2 q3 q4 q5 q6 q7/\NV ((V a b c d+V e f g h*0x10000000000000000000000000000000000000000000000000000000000000000)%(V m0 m1 m2 m3))=NV sr:=by
      rw[hcx] at eq
      have hbd:=V_bd r0 r1 r2 r3 hD.w0 hD.w1 hD.w2 hD.w3
      have hbm:=V_bd m0 m1 m2 m3 hm0 hm1 hm2 hm3
      have l:=hD.lw
      obtain⟨f1,f2⟩:=div_fin (V a b c d+V e f g h*0x10000000000000000000000000000000000000000000000000000000000000000) (V m0 m1 m2 m3) (2^up.toNat) (V d0 d1 d2 d3) (V r0 r1 r2 r3) _ q0 q1 q2 q3 q4 q5 q6 q7 (l _ (by simp)) (l _ (by simp)) (l _ (by simp)) (l _ (by simp)) (l _ (by simp)) (l _ (by simp)) (l _ (by simp)) (l _ (by simp)) (Int.pow_pos (by omega)) (by omega) ex ed eq hbd.1 hD.lt
      exact⟨f1,by rw[<-f2,esr]⟩
     clear eq hD
     have F:Hid _:=fin
     clear fin
     go_wp2
     refine bodyPost_ret (v:= .tuple #[A8 q0 q1 q2 q3 q4 q5 q6 q7,NV sr,.int .i64 0]) (by simp[results,Tryz.results101,go_sem, *]) rfl ⟨?_,hbel⟩
     have fin:=F
     unfold Hid at fin
     rw[fin.1,fin.2]
   ·have hk7:k<=7:=by omega
    go_upto_region 13 with fail
    obtain⟨p,hp⟩: ∃p:Nat,p=7 -k:=⟨_,rfl⟩
    have hpk:(7 -(k:Int))=(p:Int):=by omega
    have hk8:decide ((k:Int)<8)=true:=by simp;omega
    rw[hpk,hk8]
    have hp7:p<=7:=by omega
    have hp12:(p:Int)<12:=by omega
    have hp8:(p:Int)<8:=by omega
    have hpl:p<cx.length:=by omega
    obtain⟨xn,hxn⟩: ∃xn,cx[p]?=some xn:=⟨_,List.getElem?_eq_getElem hpl⟩
    have wx:W64 xn:=allW xn (List.mem_of_getElem? hxn)
    obtain⟨q,eqq⟩: ∃q,(V r0 r1 r2 r3*18446744073709551616+xn)/V d0 d1 d2 d3=q:=⟨_,rfl⟩
    obtain⟨sr,esr⟩: ∃sr,(V r0 r1 r2 r3*18446744073709551616+xn)%V d0 d1 d2 d3=sr:=⟨_,rfl⟩
    have call: ∀u,CC 132 #[A4 r0 r1 r2 r3,.int .u64 xn,A4 d0 d1 d2 d3] u (.tuple #[.int .u64 q,NV sr]):=fun u=>by
     rw[<-eqq,<-esr];exact step_any r0 r1 r2 r3 xn d0 d1 d2 d3 u hD.w0 hD.w1 hD.w2 hD.w3 kd0 kd1 kd2 kd3 wx hd3 hD.lt
    have hbd:=V_bd r0 r1 r2 r3 hD.w0 hD.w1 hD.w2 hD.w3
    have hbe:=V_bd d0 d1 d2 d3 kd0 kd1 kd2 kd3
    obtain⟨g1',g2',g3',g4'⟩:=div_q _ xn (V d0 d1 d2 d3) q sr hbd.1 hD.lt wx eqq esr
    have i24:(Tryz.prog.info? 24).map (·.size)=some 4:=by rfl
    have HP:Hid (p=7 -k):=hp
    clear hp hpk hk8
    refine Xm (fun fd a' u=> ∃t41 t42 t43 t44 t45 t46 t47 t48 t49 t50 t51,a'=⟨((A8 a b c d e f g h)::(A4 m0 m1 m2 m3)::(.pointer (some ⟨w.heap.size,0,none⟩))::(.pointer (some ⟨w.heap.size+1,0,none⟩))::(.pointer (some ⟨w.heap.size+1+1,0,none⟩))::(.pointer (some ⟨w.heap.size+1+1+1,0,none⟩))::(.int .i64 0)::(.int .i64 up)::(.pointer (some ⟨b8,0,none⟩))::(.pointer (some ⟨b9,0,none⟩))::(.pointer (some ⟨n5,0,none⟩))::(.pointer (some ⟨n5+1,0,none⟩))::(.pointer (some ⟨nq,0,none⟩))::(.int .i64 (k:Int))::(.int .i64 (p:Int))::u15::u16::u17::u18::u19::u20::u21::u22::u23::u24::u25::u26::u27::u28::u29::(.slice (some ⟨n5,0,none⟩) 4 4)::(.slice (some ⟨b9,0,none⟩) 4 12)::(.int .i64 4)::(.slice (some ⟨n5+1,0,none⟩) 4 4)::(.slice (some ⟨b8,8,none⟩) 4 4)::(.int .i64 4)::(.int .i64 (k:Int))::(.bool true)::(.int .i64 (k:Int))::(.int .i64 (k:Int))::(.int .i64 (p:Int))::t41::t42::t43::t44::t45::t46::t47::t48::t49::t50::t51::u52::u53::u54::u55::u56::[]).toArray,[]⟩/\F13 w nq n5 b8 (w.heap.size+1+1) (w.heap.size+1+1+1) p cx ql d0 d1 d2 d3 r0 r1 r2 r3 xn q (D0 sr) (D1 sr) (D2 sr) (D3 sr) (fd 0) (fd 1) (fd 2) (fd 3) (fd 4) (fd 5) (fd 6) (fd 7) (fd 8) (fd 9) (fd 10) (fd 11) (fd 12) t41 t42 t43 t44 t45 t46 t47 t48 t49 t50 t51 u) (by kernel_rfl) (by kernel_rfl) ?_ ?_ ?_
    ·refine⟨u41,u42,u43,u44,u45,u46,u47,u48,u49,u50,u51,rfl,?_⟩
     exact{bel:=hD.bel.drew,sz:=hD.sz,kx:=hD.kx,kd:=hD.kd,kr:=hD.kr,kq:=hD.kq,k2:=hD.k2,k3:=hD.k3,o12:=fun e=>e,c0:=fun e=>(by cases e),c1:=fun e=>(by cases e),c2:=fun e=>(by cases e),c3:=fun e=>(by cases e),c4:=fun e=>(by cases e),c5:=fun e=>(by cases e),c6:=fun e=>(by cases e),c7:=fun e=>(by cases e),c8:=fun e=>(by cases e),c9:=fun e=>(by cases e),c10:=fun e=>(by cases e)}
    ·rintro fd a' u i o ⟨t41,t42,t43,t44,t45,t46,t47,t48,t49,t50,t51,rfl,hF⟩ ho hfi hdep
     have il:i<13:=(Array.getElem?_eq_some_iff.1 ho).1
     have ix:i=0\/i=1\/i=2\/i=3\/i=4\/i=5\/i=6\/i=7\/i=8\/i=9\/i=10\/i=11\/i=12:=by omega
     have hll:=hD.ll
     clear hD
     rcases ix with rfl | rfl | rfl | rfl | rfl | rfl | rfl | rfl | rfl | rfl | rfl | rfl | rfl
     ·cases ho
      refine wpOp_step rfl (fun K hK=>?_)
      go_simp
      exact hK _ _ ⟨_,_,_,_,_,_,_,_,_,_,_,rfl,{hF with c0:=fun _=>rfl}⟩
     ·cases ho
      refine wpOp_step rfl (fun K hK=>?_)
      have y12:fd 12=false:=by
       cases hg:fd 12
       ·rfl
       ·have:=hF.o12 hg;rw[hfi] at this;cases this
      have kk:=hF.kr
      rw[y12] at kk
      have k0:=(kk 0 _ rfl).1;have k1:=(kk 1 _ rfl).1;have k2:=(kk 2 _ rfl).1;have k3:=(kk 3 _ rfl).1
      clear kk call
      go_simp
      exact hK _ _ ⟨_,_,_,_,_,_,_,_,_,_,_,rfl,{hF with c1:=fun _=>rfl,o12:=fun _=>rfl}⟩
     ·cases ho
      refine wpOp_step rfl (fun K hK=>?_)
      go_simp
      exact hK _ _ ⟨_,_,_,_,_,_,_,_,_,_,_,rfl,{hF with c2:=fun _=>rfl}⟩
     ·cases ho
      refine wpOp_step rfl (fun K hK=>?_)
      have y2:fd 2=true:=hdep ⟨2,.data⟩ (by simp) rfl
      obtain rfl:=hF.c2 y2
      clear call
      go_simp
      exact hK _ _ ⟨_,_,_,_,_,_,_,_,_,_,_,rfl,{hF with c3:=fun _=>rfl}⟩
     ·cases ho
      refine wpOp_step rfl (fun K hK=>?_)
      have y3:fd 3=true:=hdep ⟨3,.data⟩ (by simp) rfl
      obtain rfl:=hF.c3 y3
      have k0:=(hF.kx p _ hxn).1
      clear call
      go_simp
      exact hK _ _ ⟨_,_,_,_,_,_,_,_,_,_,_,rfl,{hF with c4:=fun _=>rfl}⟩
     ·cases ho
      refine wpOp_step rfl (fun K hK=>?_)
      have kk:=hF.kd
      have k0:=(kk 0 _ rfl).1;have k1:=(kk 1 _ rfl).1;have k2:=(kk 2 _ rfl).1;have k3:=(kk 3 _ rfl).1
      clear kk call
      go_simp
      exact hK _ _ ⟨_,_,_,_,_,_,_,_,_,_,_,rfl,{hF with c5:=fun _=>rfl}⟩
     ·cases ho
      refine wpOp_step rfl (fun K hK=>?_)
      have y1:fd 1=true:=hdep ⟨1,.data⟩ (by simp) rfl
      have y4:fd 4=true:=hdep ⟨4,.data⟩ (by simp) rfl
      have y5:fd 5=true:=hdep ⟨5,.data⟩ (by simp) rfl
      obtain rfl:=hF.c1 y1
      obtain rfl:=hF.c4 y4
      obtain rfl:=hF.c5 y5
      go_simp
      refine(call u).mono ?_
      rintro en v ⟨rfl,hB⟩
      have hF':=hF.call (by omega) (by omega) (by omega) (by omega) hB
      clear hB
      try simp only[Act.put,List.setIfInBounds_toArray,List.set_cons_zero,List.set_cons_succ]
      exact hK _ _ ⟨_,_,_,_,_,_,_,_,_,_,_,rfl,{hF' with c6:=fun _=>rfl}⟩
     ·cases ho
      refine wpOp_step rfl (fun K hK=>?_)
      have y6:fd 6=true:=hdep ⟨6,.data⟩ (by simp) rfl
      obtain rfl:=hF.c6 y6
      clear call
      go_simp
      exact hK _ _ ⟨_,_,_,_,_,_,_,_,_,_,_,rfl,{hF with c7:=fun _=>rfl}⟩
     ·cases ho
      refine wpOp_step rfl (fun K hK=>?_)
      have y7:fd 7=true:=hdep ⟨7,.data⟩ (by simp) rfl
      obtain rfl:=hF.c7 y7
      clear call
      go_simp
      exact hK _ _ ⟨_,_,_,_,_,_,_,_,_,_,_,rfl,{hF with c8:=fun _=>rfl}⟩
     ·cases ho
      refine wpOp_step rfl (fun K hK=>?_)
      have y7:fd 7=true:=hdep ⟨7,.data⟩ (by simp) rfl
      obtain rfl:=hF.c7 y7
      clear call
      go_simp
      exact hK _ _ ⟨_,_,_,_,_,_,_,_,_,_,_,rfl,{hF with c9:=fun _=>rfl}⟩
     ·cases ho
      refine wpOp_step rfl (fun K hK=>?_)
      have y0:fd 0=true:=hdep ⟨0,.data⟩ (by simp) rfl
      obtain rfl:=hF.c0 y0
      clear call
      go_simp
      exact hK _ _ ⟨_,_,_,_,_,_,_,_,_,_,_,rfl,{hF with c10:=fun _=>rfl}⟩
     ·cases ho
      refine wpOp_step rfl (fun K hK=>?_)
      have y10:fd 10=true:=hdep ⟨10,.data⟩ (by simp) rfl
      have y8:fd 8=true:=hdep ⟨8,.data⟩ (by simp) rfl
      obtain rfl:=hF.c10 y10
      obtain rfl:=hF.c8 y8
      have kk:=hF.kq
      rw[hfi] at kk
      have kc:=kk p _ (List.getElem?_eq_getElem (by simpa [hll] using (by omega:p<8)))
      have kc1:=kc.1
      have kc2:=kc.2
      clear kk call kc
      go_simp
      exact hK _ _ ⟨_,_,_,_,_,_,_,_,_,_,_,rfl,by simpa using hF.putq hfi (by omega) (by omega) (by omega) (by omega) (by omega) (by omega)⟩
     ·cases ho
      refine wpOp_step rfl (fun K hK=>?_)
      have y9:fd 9=true:=hdep ⟨9,.data⟩ (by simp) rfl
      have y1:fd 1=true:=hdep ⟨1,.phase⟩ (by simp) rfl
      obtain rfl:=hF.c9 y9
      have th:u.there (n5+1) 0 4:=by
       have:=hF.kr.there
       cases hg:fd 12<;>simpa [hg] using this
      refine wp_store_mid 24 _ _ rfl (n5+1) 0 #[.int .u64 (D0 sr),.int .u64 (D1 sr),.int .u64 (D2 sr),.int .u64 (D3 sr)] rfl rfl th i24 (all_oneCell_toArray (Vd [D0 sr,D1 sr,D2 sr,D3 sr])) ?_
      simp only[Act.put,List.setIfInBounds_toArray,List.set_cons_zero,List.set_cons_succ]
      exact hK _ _ ⟨_,_,_,_,_,_,_,_,_,_,_,rfl,by simpa using hF.putr (by omega) (by omega) (by omega) (by omega) (by omega) y1⟩
    ·rintro fd a' u ⟨t41,t42,t43,t44,t45,t46,t47,t48,t49,t50,t51,rfl,hF⟩ hall
     have kr:=hF.kr
     have kq:=hF.kq
     rw[hall 11 (by decide)] at kq
     rw[hall 12 (by decide)] at kr
     have hp:p=7 -k:=HP
     have nD:DR w u nq n5 b8 (w.heap.size+1+1) (w.heap.size+1+1+1) cx d0 d1 d2 d3 (V x8 x9 x10 x11) (k+1) (D0 sr) (D1 sr) (D2 sr) (D3 sr) (ql.set p q):=
      {hk:=by omega,bel:=hF.bel,sz:=hF.sz,kx:=hF.kx,kd:=hF.kd,kr:=kr,kq:=kq,k2:=hF.k2,k3:=hF.k3,w0:=W_D0 _,w1:=W_D1 _,w2:=W_D2 _,w3:=W_D3 _,lt:=by rw[V_D];omega,ll:=by rw[List.length_set];exact hD.ll,lw:=fun x hx=>(List.mem_or_eq_of_mem_set hx).elim (hD.lw x) (fun e=>by rw[e];exact g2'),eq:=HR_step cx ql _ xn q _ _ _ k p hk7 hp hxn hD.ll hD.eq (by rw[V_D];omega)}
     clear hF hD kr kq hall call i24
     go_wp2
     refine⟨⟨k+1,_,_,_,_,_,by simp,nD⟩,?_⟩
     simp[intOf];omega
end Go.Proofs.YtbbohmgjphpfeaaGreatDoor
