import Derived.Test.YtknpepgonhdbgaaGreatDoorAN8
namespace Go.Proofs.YtknpepgonhdbgaaGreatDoor
set_option linter.unusedVariables false
set_option linter.unusedSimpArgs false
set_option maxRecDepth 100000
set_option maxHeartbeats 4000000
open Go.RowKit
theorem Yr:EnT 31:=fun _ _=>by kernel_rfl
theorem Wv:EnT 28:=fun _ _=>by kernel_rfl
theorem the_core (P Q hh:Int) (w:World) (hP:Hid (∀u,Bw w u->CC 28 #[.int .i64 0] u (.tuple #[GX P Q 4 hh,.int .i64 0]))):
 CC 31 #[] w (GX P Q 4 hh):=by
 go_enter Tryz.func31,Tryz.ntmps31
 go_upto_region 1 with fail
 generalize hC:(w.alloc (.cells (L0g:List Value).toArray 26))=v0 at *
 have HB0:Bw w v0:=by rw[<-hC];exact Z1 (Z6 w) _
 have K0:Bk w.heap.size v0 [(true,w.heap.size,L0g)]:=by rw[<-hC];exact(Bk.nil _ w).ad
 clear hC
 go_upto_region 1 with fail
 refine rgP K0 HB0 HB0.size [] [(4,1,L0g,some (5,GE (P) (Q) (4) (hh)))] [(0,4,.tuple #[GX (P) (Q) (4) (hh),.int .i64 0]),(1,3,.tuple #[GX (P) (Q) (4) (hh),.int .i64 0]),(2,5,GX (P) (Q) (4) (hh)),(3,6,.int .i64 0),(6,2,.int .i64 0)] [(5,4)] [] [] ?_ ?_
 ·exact oc (g_cb Wv (fun uZ bZ=>hP.out uZ bZ))<|oc g_mv<|oc g_ex<|oc g_ex<|oc (g_al 0 Xg)<|oc (g_sn 0 Z0)<|oc g_as on
 intro u1 b1_4 HB1 sz1 K1
 simp only[sQ] at K1⊢
 clear K0 HB0
 go_upto_region 2 with fail
 refine rgP K1 HB1 HB1.size [.all 1 (GE (P) (Q) (4) (hh))] [] [(0,7,GX (P) (Q) (4) (hh))] [] [] [true,false] ?_ ?_
 ·exact oc (g_ld 1 Tryz.underlying26 Z0)<|oc (g_st 0 Z0) on
 intro u2 HB2 sz2 K2
 simp only[sQ] at K2⊢
 clear K1 HB1
 have c0_0:=((K2.cv 0) 0 _ rfl).1
 have c0_1:=((K2.cv 0) 1 _ rfl).1
 have c0_2:=((K2.cv 0) 2 _ rfl).1
 have c0_3:=((K2.cv 0) 3 _ rfl).1
 have c0_4:=((K2.cv 0) 4 _ rfl).1
 have c0_5:=((K2.cv 0) 5 _ rfl).1
 have c0_6:=((K2.cv 0) 6 _ rfl).1
 have c0_7:=((K2.cv 0) 7 _ rfl).1
 have c0_8:=((K2.cv 0) 8 _ rfl).1
 have c0_9:=((K2.cv 0) 9 _ rfl).1
 have c0_10:=((K2.cv 0) 10 _ rfl).1
 have c0_11:=((K2.cv 0) 11 _ rfl).1
 have c0_12:=((K2.cv 0) 12 _ rfl).1
 have c0_13:=((K2.cv 0) 13 _ rfl).1
 have c0_14:=((K2.cv 0) 14 _ rfl).1
 have c0_15:=((K2.cv 0) 15 _ rfl).1
 go_wp2
 refine bodyPost_ret (v:=GX (P) (Q) (4) (hh)) (by simp[results,Tryz.results31,go_sem,c0_0,c0_1,c0_2,c0_3,c0_4,c0_5,c0_6,c0_7,c0_8,c0_9,c0_10,c0_11,c0_12,c0_13,c0_14,c0_15]) rfl ⟨rfl,HB2⟩
theorem xThe (w:World):CC 31 #[] w (GX P0 Q0 4 (meN P0 [104])):=
 the_core P0 Q0 (meN P0 [104]) w (fun u _=>xParams0 u)
end Go.Proofs.YtknpepgonhdbgaaGreatDoor
