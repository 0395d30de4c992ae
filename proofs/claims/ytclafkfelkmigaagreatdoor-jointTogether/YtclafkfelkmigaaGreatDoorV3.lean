import Derived.Test.YtclafkfelkmigaaGreatDoorBB
namespace Go.Proofs.YtclafkfelkmigaaGreatDoor
set_option linter.unusedVariables false
set_option linter.unusedSimpArgs false
set_option maxRecDepth 100000
set_option maxHeartbeats 4000000
open Go.RowKit
theorem guess_any(r0 r1 r2 r3 d0 d1 d2 d3:Int)(w:World)(hr0:W64 r0)(hr1:W64 r1)(hr2:W64 r2)(hr3:W64 r3)(hd0:W64 d0)(hd1:W64 d1)(hd2:W64 d2)(hd3:W64 d3)(ht:9223372036854775808<=d3):
 CC 146 #[A4 r0 r1 r2 r3,A4 d0 d1 d2 d3] w (iU (gs r2 r3 d3)):=by
 unfold gs
 by_cases hc:d3<=r3
 ·rw[if_pos hc]
  go_enter Tryz.func146,Tryz.ntmps146
  go_wp2
  go_ret
  exact⟨rfl,by go_grown⟩
 ·rw[if_neg hc]
  have hlt:r3<d3:=by omega
  go_enter Tryz.func146,Tryz.ntmps146
  go_wp2_with fail
  refine(div64_any r3 r2 d3 _ hr3 hr2 hd3 ht hlt).mono ?_
  rintro e w1 ⟨⟨r,rfl⟩,hB⟩
  have hB':Bw w w1:=Z2 (Z1 (Z1 (Z5 w) _) _) hB
  clear hB
  go_wp2
  go_ret
  exact⟨rfl,hB'⟩
theorem nn_eq(r0 r1 r2 r3 n:Int):V r0 r1 r2 r3*18446744073709551616+n=V n r0 r1 r2+r3*0x10000000000000000000000000000000000000000000000000000000000000000:=by unfold V;omega
theorem step_any(r0 r1 r2 r3 n d0 d1 d2 d3:Int)(w:World)(hr0:W64 r0)(hr1:W64 r1)(hr2:W64 r2)(hr3:W64 r3)(hd0:W64 d0)(hd1:W64 d1)(hd2:W64 d2)(hd3:W64 d3)(hn:W64 n)(ht:9223372036854775808<=d3)(hlt:V r0 r1 r2 r3<(V d0 d1 d2 d3)):
 CC 123 #[A4 r0 r1 r2 r3,iU n,A4 d0 d1 d2 d3] w (.tuple #[iU ((V r0 r1 r2 r3*18446744073709551616+n)/(V d0 d1 d2 d3)),NV ((V r0 r1 r2 r3*18446744073709551616+n)%(V d0 d1 d2 d3))]):=by
 have gb:=gs_bd r2 r3 d3 hr2 hr3 hd3 ht
 have gg:=gs_ge n r0 r1 r2 r3 d0 d1 d2 d3 hn hr0 hr1 hr2 hr3 hd0 hd1 hd2 hd3 ht hlt
 have hR:=V_bd r0 r1 r2 r3 hr0 hr1 hr2 hr3
 have hD:=V_bd d0 d1 d2 d3 hd0 hd1 hd2 hd3
 have hL:=V_bd n r0 r1 r2 hn hr0 hr1 hr2
 have hne:=nn_eq r0 r1 r2 r3 n
 have hG: ∃g,gs r2 r3 d3=g:=⟨_,rfl⟩
 obtain⟨g,hg⟩:=hG
 have hgu:=guess_any r0 r1 r2 r3 d0 d1 d2 d3
 rw[hg] at gb gg
 simp only[hg] at hgu
 have HGU:Hid _:=hgu
 clear hgu hg
 have hn1:=hn.1
 have hn2:=hn.2
 have hr31:=hr3.1
 have hr32:=hr3.2
 go_enter Tryz.func123,Tryz.ntmps123
 go_wp2
 go_region
 go_wp2_with fail
 refine(HGU.out _ hr0 hr1 hr2 hr3 hd0 hd1 hd2 hd3 ht).mono ?_
 rintro e w1 ⟨rfl,hB⟩
 have sz:=hB.size
 simp only[World.size_alloc,World.size_drew] at sz
 have hDv:C4 w1 (w.heap.size+1) d0 d1 d2 d3:=C4.below (by unfold C4;simp[go_sem]) hB (by simp<;>omega)
 have hRs:C4 w1 (w.heap.size+1+1) 0 0 0 0:=C4.below (by unfold C4;simp[go_sem]) hB (by simp<;>omega)
 have hLf:C4 w1 (w.heap.size+1+1+1) n r0 r1 r2:=C4.below (by unfold C4;simp[go_sem]) hB (by simp<;>omega)
 have hB1:Bw w w1:=by
  refine Below.trans ?_ (hB.mono ?_)
  ·iterate 6 all_goals (go_grown<;>try with_reducible refine below_drewN ?_ _)
  ·simp<;>omega
 clear hB
 have z1:w.heap.size+1<w1.heap.size:=by omega
 have z2:w.heap.size+1+1<w1.heap.size:=by omega
 have z3:w.heap.size+1+1+1<w1.heap.size:=by omega
 have hDpos:0<(V d0 d1 d2 d3):=by omega
 have HNE:Hid _:=hne
 clear hne
 rcases Bool.eq_false_or_eq_true (g==0) with hgz | hgz
 ·have HF:Hid (Ending.returned (.tuple #[iU 0,A4 n r0 r1 r2])=Ending.returned (.tuple #[iU ((V r0 r1 r2 r3*18446744073709551616+n)/(V d0 d1 d2 d3)),NV ((V r0 r1 r2 r3*18446744073709551616+n)%(V d0 d1 d2 d3))])):=by
   have g0:g=0:=by simpa using hgz
   rw[g0] at gg
   have hq0:0<=(V r0 r1 r2 r3*18446744073709551616+n)/(V d0 d1 d2 d3):=Int.ediv_nonneg (by omega) (by omega)
   have hq:(V r0 r1 r2 r3*18446744073709551616+n)/(V d0 d1 d2 d3)=0:=by omega
   have hlt2:(V r0 r1 r2 r3*18446744073709551616+n)<(V d0 d1 d2 d3):=by
    have:=Int.lt_mul_ediv_self_add (x:=(V r0 r1 r2 r3*18446744073709551616+n)) hDpos
    rw[hq] at this;omega
   have hm:(V r0 r1 r2 r3*18446744073709551616+n)%(V d0 d1 d2 d3)=V n r0 r1 r2:=by
    rw[Int.emod_eq_of_lt (by omega) hlt2,HNE.out]
    have:=HNE.out
    have:r3=0:=by omega
    rw[this];omega
   obtain⟨e0,e1,e2,e3,_⟩:=D_of (V n r0 r1 r2) n r0 r1 r2 0 hn hr0 hr1 hr2 (by omega)
   show _=_
   rw[hq,hm,NV,e0,e1,e2,e3]
  clear gg gb
  obtain⟨⟨lc0,lc1,lc2,lc3⟩,_⟩:=hLf
  obtain⟨⟨rc0,rc1,rc2,rc3⟩,rf0,rf1,rf2,rf3⟩:=hRs
  clear hDv
  go_wp2
  go_region
  go_wp2
  refine bodyPost_ret (v:= .tuple #[iU 0,A4 n r0 r1 r2]) (by simp[results,Tryz.results123,go_sem, *]) rfl ⟨HF.out,?_⟩
  iterate 6 all_goals (go_grown<;>try with_reducible refine below_drewN ?_ _)
 ·have hDv':=hDv;have hLf':=hLf
  obtain⟨⟨dc0,dc1,dc2,dc3⟩,df0,df1,df2,df3⟩:=hDv'
  obtain⟨⟨lc0,lc1,lc2,lc3⟩,lf0,lf1,lf2,lf3⟩:=hLf'
  have hgw:W64 g:=⟨by omega,by omega⟩
  go_wp2_with fail
  refine(scale_any d0 d1 d2 d3 g _ hd0 hd1 hd2 hd3 hgw).mono ?_
  rintro e w2 ⟨rfl,hB2⟩
  have sz2:=hB2.size
  have hDv2:=hDv.below hB2 z1
  have hRs2:=hRs.below hB2 z2
  have hLf2:=hLf.below hB2 z3
  have hq2:Bw w w2:=Z2 hB1 hB2
  clear hDv hRs hLf hB1 hB2 dc0 dc1 dc2 dc3 df0 df1 df2 df3 lc0 lc1 lc2 lc3 lf0 lf1 lf2 lf3
  have z1:w.heap.size+1<w2.heap.size:=by omega
  have z2:w.heap.size+1+1<w2.heap.size:=by omega
  have z3:w.heap.size+1+1+1<w2.heap.size:=by omega
  have hLf2':=hLf2
  obtain⟨⟨lc0,lc1,lc2,lc3⟩,lf0,lf1,lf2,lf3⟩:=hLf2'
  go_wp2_with fail
  refine(sub_any n r0 r1 r2 _ _ _ _ _ hn hr0 hr1 hr2 (W_D0 _) (W_D1 _) (W_D2 _) (W_D3 _)).mono ?_
  rintro e w3 ⟨rfl,hB3⟩
  have sz3:=hB3.size
  simp only[World.size_alloc] at sz3
  have hDv3:=(hDv2.alloc z1 _).below hB3 (by simp;omega)
  have hRs3:=(hRs2.alloc z2 _).below hB3 (by simp;omega)
  have hLf3:=(hLf2.alloc z3 _).below hB3 (by simp;omega)
  have hq3:Bw w w3:=Z2 (Z1 hq2 _) hB3
  clear hDv2 hRs2 hLf2 hq2 hB3 lc0 lc1 lc2 lc3 lf0 lf1 lf2 lf3 z1 z2 z3
  have z1:w.heap.size+1<w3.heap.size:=by omega
  have z2:w.heap.size+1+1<w3.heap.size:=by omega
  have z3:w.heap.size+1+1+1<w3.heap.size:=by omega
  have hLf3':=hLf3
  obtain⟨⟨lc0,lc1,lc2,lc3⟩,lf0,lf1,lf2,lf3⟩:=hLf3'
  go_wp2
  obtain⟨e0,e1,e2,e3,e4⟩:=st_sub (V n r0 r1 r2) r3 ((V d0 d1 d2 d3)*g)
  rw[<-HNE.out] at e0 e1 e2 e3 e4
  go_loopw [9,10] (fun t9 t10 wr=> ∃g' tp:Int,t9=iU tp/\t10=iU g'/\Hid (tp=D4 ((V r0 r1 r2 r3*18446744073709551616+n) -(V d0 d1 d2 d3)*g')%18446744073709551616)/\(V r0 r1 r2 r3*18446744073709551616+n)/(V d0 d1 d2 d3)<=g'/\0<=g'/\g'<=18446744073709551615/\Bw w wr/\w.heap.size+1+1+1<wr.heap.size/\
   C4 wr (w.heap.size+1) d0 d1 d2 d3/\C4 wr (w.heap.size+1+1) 0 0 0 0/\C4 wr (w.heap.size+1+1+1) (D0 ((V r0 r1 r2 r3*18446744073709551616+n) -(V d0 d1 d2 d3)*g')) (D1 ((V r0 r1 r2 r3*18446744073709551616+n) -(V d0 d1 d2 d3)*g')) (D2 ((V r0 r1 r2 r3*18446744073709551616+n) -(V d0 d1 d2 d3)*g')) (D3 ((V r0 r1 r2 r3*18446744073709551616+n) -(V d0 d1 d2 d3)*g'))) (fun _ t10 _=>(intOf t10 -(V r0 r1 r2 r3*18446744073709551616+n)/(V d0 d1 d2 d3)).toNat)
  case atStart=>
   refine⟨g,_,rfl,rfl,?_,gg,gb.1,gb.2,?_,by simp;omega,?_,?_,?_⟩
   ·show _=_
    rw[<-e4];simp only[IntKind.wrap_u64];omega
   ·exact(((hq3.setCell (by show _<=_;dsimp only;omega) _).setCell (by show _<=_;dsimp only;omega) _).setCell (by show _<=_;dsimp only;omega) _).setCell (by show _<=_;dsimp only;omega) _
   ·exact(((hDv3.other _ (by dsimp only;omega) _).other _ (by dsimp only;omega) _).other _ (by dsimp only;omega) _).other _ (by dsimp only;omega) _
   ·exact(((hRs3.other _ (by dsimp only;omega) _).other _ (by dsimp only;omega) _).other _ (by dsimp only;omega) _).other _ (by dsimp only;omega) _
   ·rw[<-e0,<-e1,<-e2,<-e3]
    exact(((hLf3.set0 _).set1 _).set2 _).set3 _
  case round=>
   clear e0 e1 e2 e3 e4 hDv3 hRs3 hLf3 hq3 lc0 lc1 lc2 lc3 lf0 lf1 lf2 lf3 z1 z2 z3 sz sz2 sz3
   obtain⟨g',tp,rfl,rfl,HT,k1,k2,k3,hq,hs,hDv,hRs,hLf⟩:=hrel
   have tpt:=st_top (V r0 r1 r2 r3*18446744073709551616+n) (V d0 d1 d2 d3) g' (by omega) ⟨hDpos,hD.2⟩ ⟨k1,k2,k3⟩
   rw[<-HT.out] at tpt
   have hq0:0<=(V r0 r1 r2 r3*18446744073709551616+n)/(V d0 d1 d2 d3):=Int.ediv_nonneg (by omega) (by omega)
   have z1:w.heap.size+1<wr.heap.size:=by omega
   have z2:w.heap.size+1+1<wr.heap.size:=by omega
   rcases Bool.eq_false_or_eq_true (tp !=0) with ht0 | ht0
   ·have hg1:(V r0 r1 r2 r3*18446744073709551616+n)/(V d0 d1 d2 d3)<=g' -1:=tpt.2 (by simpa using ht0)
    have hg2:1<=g':=by omega
    clear tpt
    have hDv':=hDv;have hLf':=hLf
    obtain⟨⟨dc0,dc1,dc2,dc3⟩,df0,df1,df2,df3⟩:=hDv'
    obtain⟨⟨lc0,lc1,lc2,lc3⟩,lf0,lf1,lf2,lf3⟩:=hLf'
    clear df0 df1 df2 df3 lf0 lf1 lf2 lf3
    have htp:0<=tp/\tp<18446744073709551616:=by rw[HT.out];omega
    have htp1:=htp.1
    clear htp
    go_wp2_with fail
    refine(add_any _ _ _ _ d0 d1 d2 d3 _ (W_D0 _) (W_D1 _) (W_D2 _) (W_D3 _) hd0 hd1 hd2 hd3).mono ?_
    rintro e w4 ⟨rfl,hB4⟩
    have _:=hB4.size
    have hDv4:=hDv.below hB4 z1
    have hRs4:=hRs.below hB4 z2
    have hLf4:=hLf.below hB4 hs
    have hq4:Bw w w4:=Z2 hq hB4
    clear hDv hRs hLf hq hB4 dc0 dc1 dc2 dc3 lc0 lc1 lc2 lc3
    have z3:w.heap.size+1+1+1<w4.heap.size:=by omega
    have hLf4':=hLf4
    obtain⟨⟨lc0,lc1,lc2,lc3⟩,lf0,lf1,lf2,lf3⟩:=hLf4'
    go_wp2
    obtain⟨e0,e1,e2,e3,e4⟩:=st_add ((V r0 r1 r2 r3*18446744073709551616+n) -(V d0 d1 d2 d3)*g') (V d0 d1 d2 d3)
    rw[st_dec] at e0 e1 e2 e3 e4
    refine⟨⟨g' -1,_,rfl,rfl,?_,hg1,by omega,by omega,?_,by simp;omega,?_,?_,?_⟩,by simp[intOf];omega⟩
    ·show _=_
     have hh:=HT.out
     rw[<-e4];simp only[IntKind.wrap_u64];omega
    ·exact(((hq4.setCell (by show _<=_;dsimp only;omega) _).setCell (by show _<=_;dsimp only;omega) _).setCell (by show _<=_;dsimp only;omega) _).setCell (by show _<=_;dsimp only;omega) _
    ·exact(((hDv4.other _ (by dsimp only;omega) _).other _ (by dsimp only;omega) _).other _ (by dsimp only;omega) _).other _ (by dsimp only;omega) _
    ·exact(((hRs4.other _ (by dsimp only;omega) _).other _ (by dsimp only;omega) _).other _ (by dsimp only;omega) _).other _ (by dsimp only;omega) _
    ·rw[<-e0,<-e1,<-e2,<-e3]
     exact(((hLf4.set0 _).set1 _).set2 _).set3 _
   ·have he:=tpt.1 (by simpa using ht0)
    have HF:Hid (Ending.returned (.tuple #[iU g',A4 (D0 ((V r0 r1 r2 r3*18446744073709551616+n) -(V d0 d1 d2 d3)*g')) (D1 ((V r0 r1 r2 r3*18446744073709551616+n) -(V d0 d1 d2 d3)*g')) (D2 ((V r0 r1 r2 r3*18446744073709551616+n) -(V d0 d1 d2 d3)*g')) (D3 ((V r0 r1 r2 r3*18446744073709551616+n) -(V d0 d1 d2 d3)*g'))])=Ending.returned (.tuple #[iU ((V r0 r1 r2 r3*18446744073709551616+n)/(V d0 d1 d2 d3)),NV ((V r0 r1 r2 r3*18446744073709551616+n)%(V d0 d1 d2 d3))])):=by
     show _=_
     rw[he.2,he.1]
    clear he tpt
    obtain⟨⟨lc0,lc1,lc2,lc3⟩,_⟩:=hLf
    obtain⟨⟨rc0,rc1,rc2,rc3⟩,rf0,rf1,rf2,rf3⟩:=hRs
    clear hDv
    go_wp2
    go_region
    go_wp2
    refine bodyPost_ret (v:= .tuple #[iU g',A4 (D0 ((V r0 r1 r2 r3*18446744073709551616+n) -(V d0 d1 d2 d3)*g')) (D1 ((V r0 r1 r2 r3*18446744073709551616+n) -(V d0 d1 d2 d3)*g')) (D2 ((V r0 r1 r2 r3*18446744073709551616+n) -(V d0 d1 d2 d3)*g')) (D3 ((V r0 r1 r2 r3*18446744073709551616+n) -(V d0 d1 d2 d3)*g'))]) (by simp[results,Tryz.results123,go_sem, *]) rfl ⟨HF.out,?_⟩
    iterate 6 all_goals (go_grown<;>try with_reducible refine below_drewN ?_ _)
end Go.Proofs.YtclafkfelkmigaaGreatDoor
