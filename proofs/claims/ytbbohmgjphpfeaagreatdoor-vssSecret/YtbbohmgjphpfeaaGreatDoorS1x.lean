import Derived.Test.YtbbohmgjphpfeaaGreatDoorS1
namespace Go.Proofs.YtbbohmgjphpfeaaGreatDoor
set_option linter.unusedVariables false
set_option linter.unusedSimpArgs false
set_option maxRecDepth 100000
set_option maxHeartbeats 4000000
open Go.RowKit
abbrev oA(a r:Int):Int:=bits .or .u64 0 (IntKind.u64.wrap (a*2^r.toNat))
abbrev oC(a r:Int):Int:=bits .or .u64 0 (a/2^(64 -r).toNat)
abbrev oB(a b r:Int):Int:=bits .or .u64 (bits .or .u64 0 (a/2^(64 -r).toNat)) (IntKind.u64.wrap (b*2^r.toNat))
theorem lift_0(a b c d e f g h n r:Int)(w:World)(h1:0<=n)(h2:n<=255)(hk:n/64=0)(hr:n%64=r)(r1:0<=r)(r2:r<=63):
 CC 131 #[A8 a b c d e f g h,.int .i64 n] w (.agg #[.int .u64 (oA a r),.int .u64 (oB a b r),.int .u64 (oB b c r),.int .u64 (oB c d r),.int .u64 (oB d e r),.int .u64 (oB e f r),.int .u64 (oB f g r),.int .u64 (oB g h r),.int .u64 (oC h r),.int .u64 0,.int .u64 0,.int .u64 0]):=by
 go_enter Tryz.func131,Tryz.ntmps131
 go_wp2
 go_loopw [13] (fun i wr=>Bw w wr/\w.heap.size+1+1<wr.heap.size/\CL wr w.heap.size [a,b,c,d,e,f,g,h]/\CL wr (w.heap.size+1) [0,0,0,0,0,0,0,0,0,0,0,0]/\((i= .int .i64 0/\CL wr (w.heap.size+1+1) [0,0,0,0,0,0,0,0,0,0,0,0])\/(i= .int .i64 1/\CL wr (w.heap.size+1+1) [(oA a r),(oC a r),0,0,0,0,0,0,0,0,0,0])\/(i= .int .i64 2/\CL wr (w.heap.size+1+1) [(oA a r),(oB a b r),(oC b r),0,0,0,0,0,0,0,0,0])\/(i= .int .i64 3/\CL wr (w.heap.size+1+1) [(oA a r),(oB a b r),(oB b c r),(oC c r),0,0,0,0,0,0,0,0])\/(i= .int .i64 4/\CL wr (w.heap.size+1+1) [(oA a r),(oB a b r),(oB b c r),(oB c d r),(oC d r),0,0,0,0,0,0,0])\/(i= .int .i64 5/\CL wr (w.heap.size+1+1) [(oA a r),(oB a b r),(oB b c r),(oB c d r),(oB d e r),(oC e r),0,0,0,0,0,0])\/(i= .int .i64 6/\CL wr (w.heap.size+1+1) [(oA a r),(oB a b r),(oB b c r),(oB c d r),(oB d e r),(oB e f r),(oC f r),0,0,0,0,0])\/(i= .int .i64 7/\CL wr (w.heap.size+1+1) [(oA a r),(oB a b r),(oB b c r),(oB c d r),(oB d e r),(oB e f r),(oB f g r),(oC g r),0,0,0,0])\/(i= .int .i64 8/\CL wr (w.heap.size+1+1) [(oA a r),(oB a b r),(oB b c r),(oB c d r),(oB d e r),(oB e f r),(oB f g r),(oB g h r),(oC h r),0,0,0]))) (fun i _=>8 -(intOf i).toNat)
 case atStart=>
  refine⟨?_,by simp,?_,?_,.inl ⟨rfl,?_⟩⟩
  ·iterate 6 all_goals (go_grown<;>try with_reducible refine below_drewN ?_ _)
  ·exact((CL.new w [a,b,c,d,e,f,g,h] 86).alloc (by simp) _).alloc (by simp<;>omega) _
  ·exact(CL.newAt (w.alloc _) [0,0,0,0,0,0,0,0,0,0,0,0] 173 _ (by simp)).alloc (by simp) _
  ·exact CL.newAt ((w.alloc _).alloc _) [0,0,0,0,0,0,0,0,0,0,0,0] 173 _ (by simp)
 case round=>
  obtain⟨hB,hs,hX,hR,hr'⟩:=hrel
  have z0:w.heap.size<wr.heap.size:=by omega
  have z1:w.heap.size+1<wr.heap.size:=by omega
  have HR:Hid _:=hr
  rcases hr' with⟨rfl,hL⟩ | ⟨rfl,hL⟩ | ⟨rfl,hL⟩ | ⟨rfl,hL⟩ | ⟨rfl,hL⟩ | ⟨rfl,hL⟩ | ⟨rfl,hL⟩ | ⟨rfl,hL⟩ | ⟨rfl,hL⟩
  ·obtain⟨xc,xf⟩:=hX 0 _ rfl
   obtain⟨lc,lf⟩:=hL 0 _ rfl
   obtain⟨mc,mf⟩:=hL 1 _ rfl
   clear xf
   go_wp2
   go_region
   go_wp2
   go_region
   go_wp2
   refine⟨⟨?_,by simpa using hs,?_,?_,.inr (.inl ⟨rfl,?_⟩)⟩,by simp[intOf]⟩
   ·iterate 6 all_goals (go_grown<;>try with_reducible refine below_drewN ?_ _)
    all_goals omega
   ·exact((hX.other _ (by dsimp only;omega) _).other _ (by dsimp only;omega) _)
   ·exact((hR.other _ (by dsimp only;omega) _).other _ (by dsimp only;omega) _)
   ·exact((hL.set 0 (by simp) _).set 1 (by simp) _)
  ·obtain⟨xc,xf⟩:=hX 1 _ rfl
   obtain⟨lc,lf⟩:=hL 1 _ rfl
   obtain⟨mc,mf⟩:=hL 2 _ rfl
   clear xf
   go_wp2
   go_region
   go_wp2
   go_region
   go_wp2
   refine⟨⟨?_,by simpa using hs,?_,?_,.inr (.inr (.inl ⟨rfl,?_⟩))⟩,by simp[intOf]⟩
   ·iterate 6 all_goals (go_grown<;>try with_reducible refine below_drewN ?_ _)
    all_goals omega
   ·exact((hX.other _ (by dsimp only;omega) _).other _ (by dsimp only;omega) _)
   ·exact((hR.other _ (by dsimp only;omega) _).other _ (by dsimp only;omega) _)
   ·exact((hL.set 1 (by simp) _).set 2 (by simp) _)
  ·obtain⟨xc,xf⟩:=hX 2 _ rfl
   obtain⟨lc,lf⟩:=hL 2 _ rfl
   obtain⟨mc,mf⟩:=hL 3 _ rfl
   clear xf
   go_wp2
   go_region
   go_wp2
   go_region
   go_wp2
   refine⟨⟨?_,by simpa using hs,?_,?_,.inr (.inr (.inr (.inl ⟨rfl,?_⟩)))⟩,by simp[intOf]⟩
   ·iterate 6 all_goals (go_grown<;>try with_reducible refine below_drewN ?_ _)
    all_goals omega
   ·exact((hX.other _ (by dsimp only;omega) _).other _ (by dsimp only;omega) _)
   ·exact((hR.other _ (by dsimp only;omega) _).other _ (by dsimp only;omega) _)
   ·exact((hL.set 2 (by simp) _).set 3 (by simp) _)
  ·obtain⟨xc,xf⟩:=hX 3 _ rfl
   obtain⟨lc,lf⟩:=hL 3 _ rfl
   obtain⟨mc,mf⟩:=hL 4 _ rfl
   clear xf
   go_wp2
   go_region
   go_wp2
   go_region
   go_wp2
   refine⟨⟨?_,by simpa using hs,?_,?_,.inr (.inr (.inr (.inr (.inl ⟨rfl,?_⟩))))⟩,by simp[intOf]⟩
   ·iterate 6 all_goals (go_grown<;>try with_reducible refine below_drewN ?_ _)
    all_goals omega
   ·exact((hX.other _ (by dsimp only;omega) _).other _ (by dsimp only;omega) _)
   ·exact((hR.other _ (by dsimp only;omega) _).other _ (by dsimp only;omega) _)
   ·exact((hL.set 3 (by simp) _).set 4 (by simp) _)
  ·obtain⟨xc,xf⟩:=hX 4 _ rfl
   obtain⟨lc,lf⟩:=hL 4 _ rfl
   obtain⟨mc,mf⟩:=hL 5 _ rfl
   clear xf
   go_wp2
   go_region
   go_wp2
   go_region
   go_wp2
   refine⟨⟨?_,by simpa using hs,?_,?_,.inr (.inr (.inr (.inr (.inr (.inl ⟨rfl,?_⟩)))))⟩,by simp[intOf]⟩
   ·iterate 6 all_goals (go_grown<;>try with_reducible refine below_drewN ?_ _)
    all_goals omega
   ·exact((hX.other _ (by dsimp only;omega) _).other _ (by dsimp only;omega) _)
   ·exact((hR.other _ (by dsimp only;omega) _).other _ (by dsimp only;omega) _)
   ·exact((hL.set 4 (by simp) _).set 5 (by simp) _)
  ·obtain⟨xc,xf⟩:=hX 5 _ rfl
   obtain⟨lc,lf⟩:=hL 5 _ rfl
   obtain⟨mc,mf⟩:=hL 6 _ rfl
   clear xf
   go_wp2
   go_region
   go_wp2
   go_region
   go_wp2
   refine⟨⟨?_,by simpa using hs,?_,?_,.inr (.inr (.inr (.inr (.inr (.inr (.inl ⟨rfl,?_⟩))))))⟩,by simp[intOf]⟩
   ·iterate 6 all_goals (go_grown<;>try with_reducible refine below_drewN ?_ _)
    all_goals omega
   ·exact((hX.other _ (by dsimp only;omega) _).other _ (by dsimp only;omega) _)
   ·exact((hR.other _ (by dsimp only;omega) _).other _ (by dsimp only;omega) _)
   ·exact((hL.set 5 (by simp) _).set 6 (by simp) _)
  ·obtain⟨xc,xf⟩:=hX 6 _ rfl
   obtain⟨lc,lf⟩:=hL 6 _ rfl
   obtain⟨mc,mf⟩:=hL 7 _ rfl
   clear xf
   go_wp2
   go_region
   go_wp2
   go_region
   go_wp2
   refine⟨⟨?_,by simpa using hs,?_,?_,.inr (.inr (.inr (.inr (.inr (.inr (.inr (.inl ⟨rfl,?_⟩)))))))⟩,by simp[intOf]⟩
   ·iterate 6 all_goals (go_grown<;>try with_reducible refine below_drewN ?_ _)
    all_goals omega
   ·exact((hX.other _ (by dsimp only;omega) _).other _ (by dsimp only;omega) _)
   ·exact((hR.other _ (by dsimp only;omega) _).other _ (by dsimp only;omega) _)
   ·exact((hL.set 6 (by simp) _).set 7 (by simp) _)
  ·obtain⟨xc,xf⟩:=hX 7 _ rfl
   obtain⟨lc,lf⟩:=hL 7 _ rfl
   obtain⟨mc,mf⟩:=hL 8 _ rfl
   clear xf
   go_wp2
   go_region
   go_wp2
   go_region
   go_wp2
   refine⟨⟨?_,by simpa using hs,?_,?_,.inr (.inr (.inr (.inr (.inr (.inr (.inr (.inr (⟨rfl,?_⟩))))))))⟩,by simp[intOf]⟩
   ·iterate 6 all_goals (go_grown<;>try with_reducible refine below_drewN ?_ _)
    all_goals omega
   ·exact((hX.other _ (by dsimp only;omega) _).other _ (by dsimp only;omega) _)
   ·exact((hR.other _ (by dsimp only;omega) _).other _ (by dsimp only;omega) _)
   ·exact((hL.set 7 (by simp) _).set 8 (by simp) _)
  ·clear hX
   have lc0:=(hL 0 _ rfl).1
   have rc0:=hR 0 _ rfl
   obtain⟨rc0,rf0⟩:=rc0
   have lc1:=(hL 1 _ rfl).1
   have rc1:=hR 1 _ rfl
   obtain⟨rc1,rf1⟩:=rc1
   have lc2:=(hL 2 _ rfl).1
   have rc2:=hR 2 _ rfl
   obtain⟨rc2,rf2⟩:=rc2
   have lc3:=(hL 3 _ rfl).1
   have rc3:=hR 3 _ rfl
   obtain⟨rc3,rf3⟩:=rc3
   have lc4:=(hL 4 _ rfl).1
   have rc4:=hR 4 _ rfl
   obtain⟨rc4,rf4⟩:=rc4
   have lc5:=(hL 5 _ rfl).1
   have rc5:=hR 5 _ rfl
   obtain⟨rc5,rf5⟩:=rc5
   have lc6:=(hL 6 _ rfl).1
   have rc6:=hR 6 _ rfl
   obtain⟨rc6,rf6⟩:=rc6
   have lc7:=(hL 7 _ rfl).1
   have rc7:=hR 7 _ rfl
   obtain⟨rc7,rf7⟩:=rc7
   have lc8:=(hL 8 _ rfl).1
   have rc8:=hR 8 _ rfl
   obtain⟨rc8,rf8⟩:=rc8
   have lc9:=(hL 9 _ rfl).1
   have rc9:=hR 9 _ rfl
   obtain⟨rc9,rf9⟩:=rc9
   have lc10:=(hL 10 _ rfl).1
   have rc10:=hR 10 _ rfl
   obtain⟨rc10,rf10⟩:=rc10
   have lc11:=(hL 11 _ rfl).1
   have rc11:=hR 11 _ rfl
   obtain⟨rc11,rf11⟩:=rc11
   clear hL hR
   go_wp2
   refine bodyPost_ret (v:= .agg #[.int .u64 (oA a r),.int .u64 (oB a b r),.int .u64 (oB b c r),.int .u64 (oB c d r),.int .u64 (oB d e r),.int .u64 (oB e f r),.int .u64 (oB f g r),.int .u64 (oB g h r),.int .u64 (oC h r),.int .u64 0,.int .u64 0,.int .u64 0]) (by simp[results,Tryz.results131,go_sem, *]) rfl ⟨rfl,?_⟩
   iterate 6 all_goals (go_grown<;>try with_reducible refine below_drewN ?_ _)
theorem lift_1(a b c d e f g h n r:Int)(w:World)(h1:0<=n)(h2:n<=255)(hk:n/64=1)(hr:n%64=r)(r1:0<=r)(r2:r<=63):
 CC 131 #[A8 a b c d e f g h,.int .i64 n] w (.agg #[.int .u64 0,.int .u64 (oA a r),.int .u64 (oB a b r),.int .u64 (oB b c r),.int .u64 (oB c d r),.int .u64 (oB d e r),.int .u64 (oB e f r),.int .u64 (oB f g r),.int .u64 (oB g h r),.int .u64 (oC h r),.int .u64 0,.int .u64 0]):=by
 go_enter Tryz.func131,Tryz.ntmps131
 go_wp2
 go_loopw [13] (fun i wr=>Bw w wr/\w.heap.size+1+1<wr.heap.size/\CL wr w.heap.size [a,b,c,d,e,f,g,h]/\CL wr (w.heap.size+1) [0,0,0,0,0,0,0,0,0,0,0,0]/\((i= .int .i64 0/\CL wr (w.heap.size+1+1) [0,0,0,0,0,0,0,0,0,0,0,0])\/(i= .int .i64 1/\CL wr (w.heap.size+1+1) [0,(oA a r),(oC a r),0,0,0,0,0,0,0,0,0])\/(i= .int .i64 2/\CL wr (w.heap.size+1+1) [0,(oA a r),(oB a b r),(oC b r),0,0,0,0,0,0,0,0])\/(i= .int .i64 3/\CL wr (w.heap.size+1+1) [0,(oA a r),(oB a b r),(oB b c r),(oC c r),0,0,0,0,0,0,0])\/(i= .int .i64 4/\CL wr (w.heap.size+1+1) [0,(oA a r),(oB a b r),(oB b c r),(oB c d r),(oC d r),0,0,0,0,0,0])\/(i= .int .i64 5/\CL wr (w.heap.size+1+1) [0,(oA a r),(oB a b r),(oB b c r),(oB c d r),(oB d e r),(oC e r),0,0,0,0,0])\/(i= .int .i64 6/\CL wr (w.heap.size+1+1) [0,(oA a r),(oB a b r),(oB b c r),(oB c d r),(oB d e r),(oB e f r),(oC f r),0,0,0,0])\/(i= .int .i64 7/\CL wr (w.heap.size+1+1) [0,(oA a r),(oB a b r),(oB b c r),(oB c d r),(oB d e r),(oB e f r),(oB f g r),(oC g r),0,0,0])\/(i= .int .i64 8/\CL wr (w.heap.size+1+1) [0,(oA a r),(oB a b r),(oB b c r),(oB c d r),(oB d e r),(oB e f r),(oB f g r),(oB g h r),(oC h r),0,0]))) (fun i _=>8 -(intOf i).toNat)
 case atStart=>
  refine⟨?_,by simp,?_,?_,.inl ⟨rfl,?_⟩⟩
  ·iterate 6 all_goals (go_grown<;>try with_reducible refine below_drewN ?_ _)
  ·exact((CL.new w [a,b,c,d,e,f,g,h] 86).alloc (by simp) _).alloc (by simp<;>omega) _
  ·exact(CL.newAt (w.alloc _) [0,0,0,0,0,0,0,0,0,0,0,0] 173 _ (by simp)).alloc (by simp) _
  ·exact CL.newAt ((w.alloc _).alloc _) [0,0,0,0,0,0,0,0,0,0,0,0] 173 _ (by simp)
 case round=>
  obtain⟨hB,hs,hX,hR,hr'⟩:=hrel
  have z0:w.heap.size<wr.heap.size:=by omega
  have z1:w.heap.size+1<wr.heap.size:=by omega
  have HR:Hid _:=hr
  rcases hr' with⟨rfl,hL⟩ | ⟨rfl,hL⟩ | ⟨rfl,hL⟩ | ⟨rfl,hL⟩ | ⟨rfl,hL⟩ | ⟨rfl,hL⟩ | ⟨rfl,hL⟩ | ⟨rfl,hL⟩ | ⟨rfl,hL⟩
  ·obtain⟨xc,xf⟩:=hX 0 _ rfl
   obtain⟨lc,lf⟩:=hL 1 _ rfl
   obtain⟨mc,mf⟩:=hL 2 _ rfl
   clear xf
   go_wp2
   go_region
   go_wp2
   go_region
   go_wp2
   refine⟨⟨?_,by simpa using hs,?_,?_,.inr (.inl ⟨rfl,?_⟩)⟩,by simp[intOf]⟩
   ·iterate 6 all_goals (go_grown<;>try with_reducible refine below_drewN ?_ _)
    all_goals omega
   ·exact((hX.other _ (by dsimp only;omega) _).other _ (by dsimp only;omega) _)
   ·exact((hR.other _ (by dsimp only;omega) _).other _ (by dsimp only;omega) _)
   ·exact((hL.set 1 (by simp) _).set 2 (by simp) _)
  ·obtain⟨xc,xf⟩:=hX 1 _ rfl
   obtain⟨lc,lf⟩:=hL 2 _ rfl
   obtain⟨mc,mf⟩:=hL 3 _ rfl
   clear xf
   go_wp2
   go_region
   go_wp2
   go_region
   go_wp2
   refine⟨⟨?_,by simpa using hs,?_,?_,.inr (.inr (.inl ⟨rfl,?_⟩))⟩,by simp[intOf]⟩
   ·iterate 6 all_goals (go_grown<;>try with_reducible refine below_drewN ?_ _)
    all_goals omega
   ·exact((hX.other _ (by dsimp only;omega) _).other _ (by dsimp only;omega) _)
   ·exact((hR.other _ (by dsimp only;omega) _).other _ (by dsimp only;omega) _)
   ·exact((hL.set 2 (by simp) _).set 3 (by simp) _)
  ·obtain⟨xc,xf⟩:=hX 2 _ rfl
   obtain⟨lc,lf⟩:=hL 3 _ rfl
   obtain⟨mc,mf⟩:=hL 4 _ rfl
   clear xf
   go_wp2
   go_region
   go_wp2
   go_region
   go_wp2
   refine⟨⟨?_,by simpa using hs,?_,?_,.inr (.inr (.inr (.inl ⟨rfl,?_⟩)))⟩,by simp[intOf]⟩
   ·iterate 6 all_goals (go_grown<;>try with_reducible refine below_drewN ?_ _)
    all_goals omega
   ·exact((hX.other _ (by dsimp only;omega) _).other _ (by dsimp only;omega) _)
   ·exact((hR.other _ (by dsimp only;omega) _).other _ (by dsimp only;omega) _)
   ·exact((hL.set 3 (by simp) _).set 4 (by simp) _)
  ·obtain⟨xc,xf⟩:=hX 3 _ rfl
   obtain⟨lc,lf⟩:=hL 4 _ rfl
   obtain⟨mc,mf⟩:=hL 5 _ rfl
   clear xf
   go_wp2
   go_region
   go_wp2
   go_region
   go_wp2
   refine⟨⟨?_,by simpa using hs,?_,?_,.inr (.inr (.inr (.inr (.inl ⟨rfl,?_⟩))))⟩,by simp[intOf]⟩
   ·iterate 6 all_goals (go_grown<;>try with_reducible refine below_drewN ?_ _)
    all_goals omega
   ·exact((hX.other _ (by dsimp only;omega) _).other _ (by dsimp only;omega) _)
   ·exact((hR.other _ (by dsimp only;omega) _).other _ (by dsimp only;omega) _)
   ·exact((hL.set 4 (by simp) _).set 5 (by simp) _)
  ·obtain⟨xc,xf⟩:=hX 4 _ rfl
   obtain⟨lc,lf⟩:=hL 5 _ rfl
   obtain⟨mc,mf⟩:=hL 6 _ rfl
   clear xf
   go_wp2
   go_region
   go_wp2
   go_region
   go_wp2
   refine⟨⟨?_,by simpa using hs,?_,?_,.inr (.inr (.inr (.inr (.inr (.inl ⟨rfl,?_⟩)))))⟩,by simp[intOf]⟩
   ·iterate 6 all_goals (go_grown<;>try with_reducible refine below_drewN ?_ _)
    all_goals omega
   ·exact((hX.other _ (by dsimp only;omega) _).other _ (by dsimp only;omega) _)
   ·exact((hR.other _ (by dsimp only;omega) _).other _ (by dsimp only;omega) _)
   ·exact((hL.set 5 (by simp) _).set 6 (by simp) _)
  ·obtain⟨xc,xf⟩:=hX 5 _ rfl
   obtain⟨lc,lf⟩:=hL 6 _ rfl
   obtain⟨mc,mf⟩:=hL 7 _ rfl
   clear xf
   go_wp2
   go_region
   go_wp2
   go_region
   go_wp2
   refine⟨⟨?_,by simpa using hs,?_,?_,.inr (.inr (.inr (.inr (.inr (.inr (.inl ⟨rfl,?_⟩))))))⟩,by simp[intOf]⟩
   ·iterate 6 all_goals (go_grown<;>try with_reducible refine below_drewN ?_ _)
    all_goals omega
   ·exact((hX.other _ (by dsimp only;omega) _).other _ (by dsimp only;omega) _)
   ·exact((hR.other _ (by dsimp only;omega) _).other _ (by dsimp only;omega) _)
   ·exact((hL.set 6 (by simp) _).set 7 (by simp) _)
  ·obtain⟨xc,xf⟩:=hX 6 _ rfl
   obtain⟨lc,lf⟩:=hL 7 _ rfl
   obtain⟨mc,mf⟩:=hL 8 _ rfl
   clear xf
   go_wp2
   go_region
   go_wp2
   go_region
   go_wp2
   refine⟨⟨?_,by simpa using hs,?_,?_,.inr (.inr (.inr (.inr (.inr (.inr (.inr (.inl ⟨rfl,?_⟩)))))))⟩,by simp[intOf]⟩
   ·iterate 6 all_goals (go_grown<;>try with_reducible refine below_drewN ?_ _)
    all_goals omega
   ·exact((hX.other _ (by dsimp only;omega) _).other _ (by dsimp only;omega) _)
   ·exact((hR.other _ (by dsimp only;omega) _).other _ (by dsimp only;omega) _)
   ·exact((hL.set 7 (by simp) _).set 8 (by simp) _)
  ·obtain⟨xc,xf⟩:=hX 7 _ rfl
   obtain⟨lc,lf⟩:=hL 8 _ rfl
   obtain⟨mc,mf⟩:=hL 9 _ rfl
   clear xf
   go_wp2
   go_region
   go_wp2
   go_region
   go_wp2
   refine⟨⟨?_,by simpa using hs,?_,?_,.inr (.inr (.inr (.inr (.inr (.inr (.inr (.inr (⟨rfl,?_⟩))))))))⟩,by simp[intOf]⟩
   ·iterate 6 all_goals (go_grown<;>try with_reducible refine below_drewN ?_ _)
    all_goals omega
   ·exact((hX.other _ (by dsimp only;omega) _).other _ (by dsimp only;omega) _)
   ·exact((hR.other _ (by dsimp only;omega) _).other _ (by dsimp only;omega) _)
   ·exact((hL.set 8 (by simp) _).set 9 (by simp) _)
  ·clear hX
   have lc0:=(hL 0 _ rfl).1
   have rc0:=hR 0 _ rfl
   obtain⟨rc0,rf0⟩:=rc0
   have lc1:=(hL 1 _ rfl).1
   have rc1:=hR 1 _ rfl
   obtain⟨rc1,rf1⟩:=rc1
   have lc2:=(hL 2 _ rfl).1
   have rc2:=hR 2 _ rfl
   obtain⟨rc2,rf2⟩:=rc2
   have lc3:=(hL 3 _ rfl).1
   have rc3:=hR 3 _ rfl
   obtain⟨rc3,rf3⟩:=rc3
   have lc4:=(hL 4 _ rfl).1
   have rc4:=hR 4 _ rfl
   obtain⟨rc4,rf4⟩:=rc4
   have lc5:=(hL 5 _ rfl).1
   have rc5:=hR 5 _ rfl
   obtain⟨rc5,rf5⟩:=rc5
   have lc6:=(hL 6 _ rfl).1
   have rc6:=hR 6 _ rfl
   obtain⟨rc6,rf6⟩:=rc6
   have lc7:=(hL 7 _ rfl).1
   have rc7:=hR 7 _ rfl
   obtain⟨rc7,rf7⟩:=rc7
   have lc8:=(hL 8 _ rfl).1
   have rc8:=hR 8 _ rfl
   obtain⟨rc8,rf8⟩:=rc8
   have lc9:=(hL 9 _ rfl).1
   have rc9:=hR 9 _ rfl
   obtain⟨rc9,rf9⟩:=rc9
   have lc10:=(hL 10 _ rfl).1
   have rc10:=hR 10 _ rfl
   obtain⟨rc10,rf10⟩:=rc10
   have lc11:=(hL 11 _ rfl).1
   have rc11:=hR 11 _ rfl
   obtain⟨rc11,rf11⟩:=rc11
   clear hL hR
   go_wp2
   refine bodyPost_ret (v:= .agg #[.int .u64 0,.int .u64 (oA a r),.int .u64 (oB a b r),.int .u64 (oB b c r),.int .u64 (oB c d r),.int .u64 (oB d e r),.int .u64 (oB e f r),.int .u64 (oB f g r),.int .u64 (oB g h r),.int .u64 (oC h r),.int .u64 0,.int .u64 0]) (by simp[results,Tryz.results131,go_sem, *]) rfl ⟨rfl,?_⟩
   iterate 6 all_goals (go_grown<;>try with_reducible refine below_drewN ?_ _)
theorem lift_2(a b c d e f g h n r:Int)(w:World)(h1:0<=n)(h2:n<=255)(hk:n/64=2)(hr:n%64=r)(r1:0<=r)(r2:r<=63):
 CC 131 #[A8 a b c d e f g h,.int .i64 n] w (.agg #[.int .u64 0,.int .u64 0,.int .u64 (oA a r),.int .u64 (oB a b r),.int .u64 (oB b c r),.int .u64 (oB c d r),.int .u64 (oB d e r),.int .u64 (oB e f r),.int .u64 (oB f g r),.int .u64 (oB g h r),.int .u64 (oC h r),.int .u64 0]):=by
 go_enter Tryz.func131,Tryz.ntmps131
 go_wp2
 go_loopw [13] (fun i wr=>Bw w wr/\w.heap.size+1+1<wr.heap.size/\CL wr w.heap.size [a,b,c,d,e,f,g,h]/\CL wr (w.heap.size+1) [0,0,0,0,0,0,0,0,0,0,0,0]/\((i= .int .i64 0/\CL wr (w.heap.size+1+1) [0,0,0,0,0,0,0,0,0,0,0,0])\/(i= .int .i64 1/\CL wr (w.heap.size+1+1) [0,0,(oA a r),(oC a r),0,0,0,0,0,0,0,0])\/(i= .int .i64 2/\CL wr (w.heap.size+1+1) [0,0,(oA a r),(oB a b r),(oC b r),0,0,0,0,0,0,0])\/(i= .int .i64 3/\CL wr (w.heap.size+1+1) [0,0,(oA a r),(oB a b r),(oB b c r),(oC c r),0,0,0,0,0,0])\/(i= .int .i64 4/\CL wr (w.heap.size+1+1) [0,0,(oA a r),(oB a b r),(oB b c r),(oB c d r),(oC d r),0,0,0,0,0])\/(i= .int .i64 5/\CL wr (w.heap.size+1+1) [0,0,(oA a r),(oB a b r),(oB b c r),(oB c d r),(oB d e r),(oC e r),0,0,0,0])\/(i= .int .i64 6/\CL wr (w.heap.size+1+1) [0,0,(oA a r),(oB a b r),(oB b c r),(oB c d r),(oB d e r),(oB e f r),(oC f r),0,0,0])\/(i= .int .i64 7/\CL wr (w.heap.size+1+1) [0,0,(oA a r),(oB a b r),(oB b c r),(oB c d r),(oB d e r),(oB e f r),(oB f g r),(oC g r),0,0])\/(i= .int .i64 8/\CL wr (w.heap.size+1+1) [0,0,(oA a r),(oB a b r),(oB b c r),(oB c d r),(oB d e r),(oB e f r),(oB f g r),(oB g h r),(oC h r),0]))) (fun i _=>8 -(intOf i).toNat)
 case atStart=>
  refine⟨?_,by simp,?_,?_,.inl ⟨rfl,?_⟩⟩
  ·iterate 6 all_goals (go_grown<;>try with_reducible refine below_drewN ?_ _)
  ·exact((CL.new w [a,b,c,d,e,f,g,h] 86).alloc (by simp) _).alloc (by simp<;>omega) _
  ·exact(CL.newAt (w.alloc _) [0,0,0,0,0,0,0,0,0,0,0,0] 173 _ (by simp)).alloc (by simp) _
  ·exact CL.newAt ((w.alloc _).alloc _) [0,0,0,0,0,0,0,0,0,0,0,0] 173 _ (by simp)
 case round=>
  obtain⟨hB,hs,hX,hR,hr'⟩:=hrel
  have z0:w.heap.size<wr.heap.size:=by omega
  have z1:w.heap.size+1<wr.heap.size:=by omega
  have HR:Hid _:=hr
  rcases hr' with⟨rfl,hL⟩ | ⟨rfl,hL⟩ | ⟨rfl,hL⟩ | ⟨rfl,hL⟩ | ⟨rfl,hL⟩ | ⟨rfl,hL⟩ | ⟨rfl,hL⟩ | ⟨rfl,hL⟩ | ⟨rfl,hL⟩
  ·obtain⟨xc,xf⟩:=hX 0 _ rfl
   obtain⟨lc,lf⟩:=hL 2 _ rfl
   obtain⟨mc,mf⟩:=hL 3 _ rfl
   clear xf
   go_wp2
   go_region
   go_wp2
   go_region
   go_wp2
   refine⟨⟨?_,by simpa using hs,?_,?_,.inr (.inl ⟨rfl,?_⟩)⟩,by simp[intOf]⟩
   ·iterate 6 all_goals (go_grown<;>try with_reducible refine below_drewN ?_ _)
    all_goals omega
   ·exact((hX.other _ (by dsimp only;omega) _).other _ (by dsimp only;omega) _)
   ·exact((hR.other _ (by dsimp only;omega) _).other _ (by dsimp only;omega) _)
   ·exact((hL.set 2 (by simp) _).set 3 (by simp) _)
  ·obtain⟨xc,xf⟩:=hX 1 _ rfl
   obtain⟨lc,lf⟩:=hL 3 _ rfl
   obtain⟨mc,mf⟩:=hL 4 _ rfl
   clear xf
   go_wp2
   go_region
   go_wp2
   go_region
   go_wp2
   refine⟨⟨?_,by simpa using hs,?_,?_,.inr (.inr (.inl ⟨rfl,?_⟩))⟩,by simp[intOf]⟩
   ·iterate 6 all_goals (go_grown<;>try with_reducible refine below_drewN ?_ _)
    all_goals omega
   ·exact((hX.other _ (by dsimp only;omega) _).other _ (by dsimp only;omega) _)
   ·exact((hR.other _ (by dsimp only;omega) _).other _ (by dsimp only;omega) _)
   ·exact((hL.set 3 (by simp) _).set 4 (by simp) _)
  ·obtain⟨xc,xf⟩:=hX 2 _ rfl
   obtain⟨lc,lf⟩:=hL 4 _ rfl
   obtain⟨mc,mf⟩:=hL 5 _ rfl
   clear xf
   go_wp2
   go_region
   go_wp2
   go_region
   go_wp2
   refine⟨⟨?_,by simpa using hs,?_,?_,.inr (.inr (.inr (.inl ⟨rfl,?_⟩)))⟩,by simp[intOf]⟩
   ·iterate 6 all_goals (go_grown<;>try with_reducible refine below_drewN ?_ _)
    all_goals omega
   ·exact((hX.other _ (by dsimp only;omega) _).other _ (by dsimp only;omega) _)
   ·exact((hR.other _ (by dsimp only;omega) _).other _ (by dsimp only;omega) _)
   ·exact((hL.set 4 (by simp) _).set 5 (by simp) _)
  ·obtain⟨xc,xf⟩:=hX 3 _ rfl
   obtain⟨lc,lf⟩:=hL 5 _ rfl
   obtain⟨mc,mf⟩:=hL 6 _ rfl
   clear xf
   go_wp2
   go_region
   go_wp2
   go_region
   go_wp2
   refine⟨⟨?_,by simpa using hs,?_,?_,.inr (.inr (.inr (.inr (.inl ⟨rfl,?_⟩))))⟩,by simp[intOf]⟩
   ·iterate 6 all_goals (go_grown<;>try with_reducible refine below_drewN ?_ _)
    all_goals omega
   ·exact((hX.other _ (by dsimp only;omega) _).other _ (by dsimp only;omega) _)
   ·exact((hR.other _ (by dsimp only;omega) _).other _ (by dsimp only;omega) _)
   ·exact((hL.set 5 (by simp) _).set 6 (by simp) _)
  ·obtain⟨xc,xf⟩:=hX 4 _ rfl
   obtain⟨lc,lf⟩:=hL 6 _ rfl
   obtain⟨mc,mf⟩:=hL 7 _ rfl
   clear xf
   go_wp2
   go_region
   go_wp2
   go_region
   go_wp2
   refine⟨⟨?_,by simpa using hs,?_,?_,.inr (.inr (.inr (.inr (.inr (.inl ⟨rfl,?_⟩)))))⟩,by simp[intOf]⟩
   ·iterate 6 all_goals (go_grown<;>try with_reducible refine below_drewN ?_ _)
    all_goals omega
   ·exact((hX.other _ (by dsimp only;omega) _).other _ (by dsimp only;omega) _)
   ·exact((hR.other _ (by dsimp only;omega) _).other _ (by dsimp only;omega) _)
   ·exact((hL.set 6 (by simp) _).set 7 (by simp) _)
  ·obtain⟨xc,xf⟩:=hX 5 _ rfl
   obtain⟨lc,lf⟩:=hL 7 _ rfl
   obtain⟨mc,mf⟩:=hL 8 _ rfl
   clear xf
   go_wp2
   go_region
   go_wp2
   go_region
   go_wp2
   refine⟨⟨?_,by simpa using hs,?_,?_,.inr (.inr (.inr (.inr (.inr (.inr (.inl ⟨rfl,?_⟩))))))⟩,by simp[intOf]⟩
   ·iterate 6 all_goals (go_grown<;>try with_reducible refine below_drewN ?_ _)
    all_goals omega
   ·exact((hX.other _ (by dsimp only;omega) _).other _ (by dsimp only;omega) _)
   ·exact((hR.other _ (by dsimp only;omega) _).other _ (by dsimp only;omega) _)
   ·exact((hL.set 7 (by simp) _).set 8 (by simp) _)
  ·obtain⟨xc,xf⟩:=hX 6 _ rfl
   obtain⟨lc,lf⟩:=hL 8 _ rfl
   obtain⟨mc,mf⟩:=hL 9 _ rfl
   clear xf
   go_wp2
   go_region
   go_wp2
   go_region
   go_wp2
   refine⟨⟨?_,by simpa using hs,?_,?_,.inr (.inr (.inr (.inr (.inr (.inr (.inr (.inl ⟨rfl,?_⟩)))))))⟩,by simp[intOf]⟩
   ·iterate 6 all_goals (go_grown<;>try with_reducible refine below_drewN ?_ _)
    all_goals omega
   ·exact((hX.other _ (by dsimp only;omega) _).other _ (by dsimp only;omega) _)
   ·exact((hR.other _ (by dsimp only;omega) _).other _ (by dsimp only;omega) _)
   ·exact((hL.set 8 (by simp) _).set 9 (by simp) _)
  ·obtain⟨xc,xf⟩:=hX 7 _ rfl
   obtain⟨lc,lf⟩:=hL 9 _ rfl
   obtain⟨mc,mf⟩:=hL 10 _ rfl
   clear xf
   go_wp2
   go_region
   go_wp2
   go_region
   go_wp2
   refine⟨⟨?_,by simpa using hs,?_,?_,.inr (.inr (.inr (.inr (.inr (.inr (.inr (.inr (⟨rfl,?_⟩))))))))⟩,by simp[intOf]⟩
   ·iterate 6 all_goals (go_grown<;>try with_reducible refine below_drewN ?_ _)
    all_goals omega
   ·exact((hX.other _ (by dsimp only;omega) _).other _ (by dsimp only;omega) _)
   ·exact((hR.other _ (by dsimp only;omega) _).other _ (by dsimp only;omega) _)
   ·exact((hL.set 9 (by simp) _).set 10 (by simp) _)
  ·clear hX
   have lc0:=(hL 0 _ rfl).1
   have rc0:=hR 0 _ rfl
   obtain⟨rc0,rf0⟩:=rc0
   have lc1:=(hL 1 _ rfl).1
   have rc1:=hR 1 _ rfl
   obtain⟨rc1,rf1⟩:=rc1
   have lc2:=(hL 2 _ rfl).1
   have rc2:=hR 2 _ rfl
   obtain⟨rc2,rf2⟩:=rc2
   have lc3:=(hL 3 _ rfl).1
   have rc3:=hR 3 _ rfl
   obtain⟨rc3,rf3⟩:=rc3
   have lc4:=(hL 4 _ rfl).1
   have rc4:=hR 4 _ rfl
   obtain⟨rc4,rf4⟩:=rc4
   have lc5:=(hL 5 _ rfl).1
   have rc5:=hR 5 _ rfl
   obtain⟨rc5,rf5⟩:=rc5
   have lc6:=(hL 6 _ rfl).1
   have rc6:=hR 6 _ rfl
   obtain⟨rc6,rf6⟩:=rc6
   have lc7:=(hL 7 _ rfl).1
   have rc7:=hR 7 _ rfl
   obtain⟨rc7,rf7⟩:=rc7
   have lc8:=(hL 8 _ rfl).1
   have rc8:=hR 8 _ rfl
   obtain⟨rc8,rf8⟩:=rc8
   have lc9:=(hL 9 _ rfl).1
   have rc9:=hR 9 _ rfl
   obtain⟨rc9,rf9⟩:=rc9
   have lc10:=(hL 10 _ rfl).1
   have rc10:=hR 10 _ rfl
   obtain⟨rc10,rf10⟩:=rc10
   have lc11:=(hL 11 _ rfl).1
   have rc11:=hR 11 _ rfl
   obtain⟨rc11,rf11⟩:=rc11
   clear hL hR
   go_wp2
   refine bodyPost_ret (v:= .agg #[.int .u64 0,.int .u64 0,.int .u64 (oA a r),.int .u64 (oB a b r),.int .u64 (oB b c r),.int .u64 (oB c d r),.int .u64 (oB d e r),.int .u64 (oB e f r),.int .u64 (oB f g r),.int .u64 (oB g h r),.int .u64 (oC h r),.int .u64 0]) (by simp[results,Tryz.results131,go_sem, *]) rfl ⟨rfl,?_⟩
   iterate 6 all_goals (go_grown<;>try with_reducible refine below_drewN ?_ _)
theorem lift_3(a b c d e f g h n r:Int)(w:World)(h1:0<=n)(h2:n<=255)(hk:n/64=3)(hr:n%64=r)(r1:0<=r)(r2:r<=63):
 CC 131 #[A8 a b c d e f g h,.int .i64 n] w (.agg #[.int .u64 0,.int .u64 0,.int .u64 0,.int .u64 (oA a r),.int .u64 (oB a b r),.int .u64 (oB b c r),.int .u64 (oB c d r),.int .u64 (oB d e r),.int .u64 (oB e f r),.int .u64 (oB f g r),.int .u64 (oB g h r),.int .u64 (oC h r)]):=by
 go_enter Tryz.func131,Tryz.ntmps131
 go_wp2
 go_loopw [13] (fun i wr=>Bw w wr/\w.heap.size+1+1<wr.heap.size/\CL wr w.heap.size [a,b,c,d,e,f,g,h]/\CL wr (w.heap.size+1) [0,0,0,0,0,0,0,0,0,0,0,0]/\((i= .int .i64 0/\CL wr (w.heap.size+1+1) [0,0,0,0,0,0,0,0,0,0,0,0])\/(i= .int .i64 1/\CL wr (w.heap.size+1+1) [0,0,0,(oA a r),(oC a r),0,0,0,0,0,0,0])\/(i= .int .i64 2/\CL wr (w.heap.size+1+1) [0,0,0,(oA a r),(oB a b r),(oC b r),0,0,0,0,0,0])\/(i= .int .i64 3/\CL wr (w.heap.size+1+1) [0,0,0,(oA a r),(oB a b r),(oB b c r),(oC c r),0,0,0,0,0])\/(i= .int .i64 4/\CL wr (w.heap.size+1+1) [0,0,0,(oA a r),(oB a b r),(oB b c r),(oB c d r),(oC d r),0,0,0,0])\/(i= .int .i64 5/\CL wr (w.heap.size+1+1) [0,0,0,(oA a r),(oB a b r),(oB b c r),(oB c d r),(oB d e r),(oC e r),0,0,0])\/(i= .int .i64 6/\CL wr (w.heap.size+1+1) [0,0,0,(oA a r),(oB a b r),(oB b c r),(oB c d r),(oB d e r),(oB e f r),(oC f r),0,0])\/(i= .int .i64 7/\CL wr (w.heap.size+1+1) [0,0,0,(oA a r),(oB a b r),(oB b c r),(oB c d r),(oB d e r),(oB e f r),(oB f g r),(oC g r),0])\/(i= .int .i64 8/\CL wr (w.heap.size+1+1) [0,0,0,(oA a r),(oB a b r),(oB b c r),(oB c d r),(oB d e r),(oB e f r),(oB f g r),(oB g h r),(oC h r)]))) (fun i _=>8 -(intOf i).toNat)
 case atStart=>
  refine⟨?_,by simp,?_,?_,.inl ⟨rfl,?_⟩⟩
  ·iterate 6 all_goals (go_grown<;>try with_reducible refine below_drewN ?_ _)
  ·exact((CL.new w [a,b,c,d,e,f,g,h] 86).alloc (by simp) _).alloc (by simp<;>omega) _
  ·exact(CL.newAt (w.alloc _) [0,0,0,0,0,0,0,0,0,0,0,0] 173 _ (by simp)).alloc (by simp) _
  ·exact CL.newAt ((w.alloc _).alloc _) [0,0,0,0,0,0,0,0,0,0,0,0] 173 _ (by simp)
 case round=>
  obtain⟨hB,hs,hX,hR,hr'⟩:=hrel
  have z0:w.heap.size<wr.heap.size:=by omega
  have z1:w.heap.size+1<wr.heap.size:=by omega
  have HR:Hid _:=hr
  rcases hr' with⟨rfl,hL⟩ | ⟨rfl,hL⟩ | ⟨rfl,hL⟩ | ⟨rfl,hL⟩ | ⟨rfl,hL⟩ | ⟨rfl,hL⟩ | ⟨rfl,hL⟩ | ⟨rfl,hL⟩ | ⟨rfl,hL⟩
  ·obtain⟨xc,xf⟩:=hX 0 _ rfl
   obtain⟨lc,lf⟩:=hL 3 _ rfl
   obtain⟨mc,mf⟩:=hL 4 _ rfl
   clear xf
   go_wp2
   go_region
   go_wp2
   go_region
   go_wp2
   refine⟨⟨?_,by simpa using hs,?_,?_,.inr (.inl ⟨rfl,?_⟩)⟩,by simp[intOf]⟩
   ·iterate 6 all_goals (go_grown<;>try with_reducible refine below_drewN ?_ _)
    all_goals omega
   ·exact((hX.other _ (by dsimp only;omega) _).other _ (by dsimp only;omega) _)
   ·exact((hR.other _ (by dsimp only;omega) _).other _ (by dsimp only;omega) _)
   ·exact((hL.set 3 (by simp) _).set 4 (by simp) _)
  ·obtain⟨xc,xf⟩:=hX 1 _ rfl
   obtain⟨lc,lf⟩:=hL 4 _ rfl
   obtain⟨mc,mf⟩:=hL 5 _ rfl
   clear xf
   go_wp2
   go_region
   go_wp2
   go_region
   go_wp2
   refine⟨⟨?_,by simpa using hs,?_,?_,.inr (.inr (.inl ⟨rfl,?_⟩))⟩,by simp[intOf]⟩
   ·iterate 6 all_goals (go_grown<;>try with_reducible refine below_drewN ?_ _)
    all_goals omega
   ·exact((hX.other _ (by dsimp only;omega) _).other _ (by dsimp only;omega) _)
   ·exact((hR.other _ (by dsimp only;omega) _).other _ (by dsimp only;omega) _)
   ·exact((hL.set 4 (by simp) _).set 5 (by simp) _)
  ·obtain⟨xc,xf⟩:=hX 2 _ rfl
   obtain⟨lc,lf⟩:=hL 5 _ rfl
   obtain⟨mc,mf⟩:=hL 6 _ rfl
   clear xf
   go_wp2
   go_region
   go_wp2
   go_region
   go_wp2
   refine⟨⟨?_,by simpa using hs,?_,?_,.inr (.inr (.inr (.inl ⟨rfl,?_⟩)))⟩,by simp[intOf]⟩
   ·iterate 6 all_goals (go_grown<;>try with_reducible refine below_drewN ?_ _)
    all_goals omega
   ·exact((hX.other _ (by dsimp only;omega) _).other _ (by dsimp only;omega) _)
   ·exact((hR.other _ (by dsimp only;omega) _).other _ (by dsimp only;omega) _)
   ·exact((hL.set 5 (by simp) _).set 6 (by simp) _)
  ·obtain⟨xc,xf⟩:=hX 3 _ rfl
   obtain⟨lc,lf⟩:=hL 6 _ rfl
   obtain⟨mc,mf⟩:=hL 7 _ rfl
   clear xf
   go_wp2
   go_region
   go_wp2
   go_region
   go_wp2
   refine⟨⟨?_,by simpa using hs,?_,?_,.inr (.inr (.inr (.inr (.inl ⟨rfl,?_⟩))))⟩,by simp[intOf]⟩
   ·iterate 6 all_goals (go_grown<;>try with_reducible refine below_drewN ?_ _)
    all_goals omega
   ·exact((hX.other _ (by dsimp only;omega) _).other _ (by dsimp only;omega) _)
   ·exact((hR.other _ (by dsimp only;omega) _).other _ (by dsimp only;omega) _)
   ·exact((hL.set 6 (by simp) _).set 7 (by simp) _)
  ·obtain⟨xc,xf⟩:=hX 4 _ rfl
   obtain⟨lc,lf⟩:=hL 7 _ rfl
   obtain⟨mc,mf⟩:=hL 8 _ rfl
   clear xf
   go_wp2
   go_region
   go_wp2
   go_region
   go_wp2
   refine⟨⟨?_,by simpa using hs,?_,?_,.inr (.inr (.inr (.inr (.inr (.inl ⟨rfl,?_⟩)))))⟩,by simp[intOf]⟩
   ·iterate 6 all_goals (go_grown<;>try with_reducible refine below_drewN ?_ _)
    all_goals omega
   ·exact((hX.other _ (by dsimp only;omega) _).other _ (by dsimp only;omega) _)
   ·exact((hR.other _ (by dsimp only;omega) _).other _ (by dsimp only;omega) _)
   ·exact((hL.set 7 (by simp) _).set 8 (by simp) _)
  ·obtain⟨xc,xf⟩:=hX 5 _ rfl
   obtain⟨lc,lf⟩:=hL 8 _ rfl
   obtain⟨mc,mf⟩:=hL 9 _ rfl
   clear xf
   go_wp2
   go_region
   go_wp2
   go_region
   go_wp2
   refine⟨⟨?_,by simpa using hs,?_,?_,.inr (.inr (.inr (.inr (.inr (.inr (.inl ⟨rfl,?_⟩))))))⟩,by simp[intOf]⟩
   ·iterate 6 all_goals (go_grown<;>try with_reducible refine below_drewN ?_ _)
    all_goals omega
   ·exact((hX.other _ (by dsimp only;omega) _).other _ (by dsimp only;omega) _)
   ·exact((hR.other _ (by dsimp only;omega) _).other _ (by dsimp only;omega) _)
   ·exact((hL.set 8 (by simp) _).set 9 (by simp) _)
  ·obtain⟨xc,xf⟩:=hX 6 _ rfl
   obtain⟨lc,lf⟩:=hL 9 _ rfl
   obtain⟨mc,mf⟩:=hL 10 _ rfl
   clear xf
   go_wp2
   go_region
   go_wp2
   go_region
   go_wp2
   refine⟨⟨?_,by simpa using hs,?_,?_,.inr (.inr (.inr (.inr (.inr (.inr (.inr (.inl ⟨rfl,?_⟩)))))))⟩,by simp[intOf]⟩
   ·iterate 6 all_goals (go_grown<;>try with_reducible refine below_drewN ?_ _)
    all_goals omega
   ·exact((hX.other _ (by dsimp only;omega) _).other _ (by dsimp only;omega) _)
   ·exact((hR.other _ (by dsimp only;omega) _).other _ (by dsimp only;omega) _)
   ·exact((hL.set 9 (by simp) _).set 10 (by simp) _)
  ·obtain⟨xc,xf⟩:=hX 7 _ rfl
   obtain⟨lc,lf⟩:=hL 10 _ rfl
   obtain⟨mc,mf⟩:=hL 11 _ rfl
   clear xf
   go_wp2
   go_region
   go_wp2
   go_region
   go_wp2
   refine⟨⟨?_,by simpa using hs,?_,?_,.inr (.inr (.inr (.inr (.inr (.inr (.inr (.inr (⟨rfl,?_⟩))))))))⟩,by simp[intOf]⟩
   ·iterate 6 all_goals (go_grown<;>try with_reducible refine below_drewN ?_ _)
    all_goals omega
   ·exact((hX.other _ (by dsimp only;omega) _).other _ (by dsimp only;omega) _)
   ·exact((hR.other _ (by dsimp only;omega) _).other _ (by dsimp only;omega) _)
   ·exact((hL.set 10 (by simp) _).set 11 (by simp) _)
  ·clear hX
   have lc0:=(hL 0 _ rfl).1
   have rc0:=hR 0 _ rfl
   obtain⟨rc0,rf0⟩:=rc0
   have lc1:=(hL 1 _ rfl).1
   have rc1:=hR 1 _ rfl
   obtain⟨rc1,rf1⟩:=rc1
   have lc2:=(hL 2 _ rfl).1
   have rc2:=hR 2 _ rfl
   obtain⟨rc2,rf2⟩:=rc2
   have lc3:=(hL 3 _ rfl).1
   have rc3:=hR 3 _ rfl
   obtain⟨rc3,rf3⟩:=rc3
   have lc4:=(hL 4 _ rfl).1
   have rc4:=hR 4 _ rfl
   obtain⟨rc4,rf4⟩:=rc4
   have lc5:=(hL 5 _ rfl).1
   have rc5:=hR 5 _ rfl
   obtain⟨rc5,rf5⟩:=rc5
   have lc6:=(hL 6 _ rfl).1
   have rc6:=hR 6 _ rfl
   obtain⟨rc6,rf6⟩:=rc6
   have lc7:=(hL 7 _ rfl).1
   have rc7:=hR 7 _ rfl
   obtain⟨rc7,rf7⟩:=rc7
   have lc8:=(hL 8 _ rfl).1
   have rc8:=hR 8 _ rfl
   obtain⟨rc8,rf8⟩:=rc8
   have lc9:=(hL 9 _ rfl).1
   have rc9:=hR 9 _ rfl
   obtain⟨rc9,rf9⟩:=rc9
   have lc10:=(hL 10 _ rfl).1
   have rc10:=hR 10 _ rfl
   obtain⟨rc10,rf10⟩:=rc10
   have lc11:=(hL 11 _ rfl).1
   have rc11:=hR 11 _ rfl
   obtain⟨rc11,rf11⟩:=rc11
   clear hL hR
   go_wp2
   refine bodyPost_ret (v:= .agg #[.int .u64 0,.int .u64 0,.int .u64 0,.int .u64 (oA a r),.int .u64 (oB a b r),.int .u64 (oB b c r),.int .u64 (oB c d r),.int .u64 (oB d e r),.int .u64 (oB e f r),.int .u64 (oB f g r),.int .u64 (oB g h r),.int .u64 (oC h r)]) (by simp[results,Tryz.results131,go_sem, *]) rfl ⟨rfl,?_⟩
   iterate 6 all_goals (go_grown<;>try with_reducible refine below_drewN ?_ _)
end Go.Proofs.YtbbohmgjphpfeaaGreatDoor
