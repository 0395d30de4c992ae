import Derived.Test.YtknpepgonhdbgaaGreatDoorAN6
import Derived.Test.YtknpepgonhdbgaaGreatDoorCTP
namespace Go.Proofs.YtknpepgonhdbgaaGreatDoor
set_option linter.unusedVariables false
set_option linter.unusedSimpArgs false
set_option maxRecDepth 100000
set_option maxHeartbeats 4000000
open Go.RowKit
theorem cMemberOf(p:Int)(bs:List Nat)(v:Value)(w:World)(hV:GV w)(hp:In p)(hp0:p≠0)(hin:IN w w.heap.size v bs)(hb: ∀x∈bs,x<256)(hl:bs.length<=900):
 CC 49 #[NV p,v] w (NV (meN p bs)):=by
 have i1:In 1:=⟨by decide,by decide⟩
 refine memberOf_core p (meN p bs) bs v (dgM p bs) (sqM p bs) (fun k=>cmpI (sqM p bs k) 1) w (fun k u hk hB=>cCounted k bs v u hk ((IN.below hin hB).mono hB.size) hl) (fun k u y hk hB hy=>?_) (fun k u hk=>mMul _ _ p u (Zs hp hp0) (Zs hp hp0) hp hp0) (fun k u hk=>nCompare _ 1 u (Zs hp hp0) i1) (fun k hk=>?_) (fun k hk hn hy=>?_) (fun hn=>?_)
 ·exact cDigest _ y _ p u (hV.below hB hV.sz) hp hp0 hy (fun x hx=>by
   rcases List.mem_append.1 hx with h | h
   ·simp at h;omega
   ·exact hb x h) (by rw[List.length_append];simp;omega) (by decide)
 ·unfold cmpI;(repeat' split)<;>omega
 ·have:=meF_hit (f:=sqM p bs) 64 0 k hk (fun j hj=>by rw[Nat.zero_add];exact hn j hj) (by rw[Nat.zero_add];exact hy)
  rw[Nat.zero_add] at this;exact this.symm
 ·exact meF_none (f:=sqM p bs) 64 0 (fun j hj=>by rw[Nat.zero_add];exact hn j hj)
theorem mem_n(p q g h:Int)(vb:Value)(T:TypeId)(xv:Value)(w:World)(hG:Hid (∀u,Bw w u->CC 43 #[GX p q g h] u (.iface T xv)))(hT:Hid (∀u,Bw w u->CC 36 #[.iface T xv] u (.int .i64 90))):
 CC 22 #[GX p q g h,vb] w (.tuple #[A4 0 0 0 0,.int .i64 90]):=by
 go_enter Tryz.func22,Tryz.ntmps22
 go_upto_region 1 with fail
 generalize hC:((w.alloc (.cells (GE p q g h:List Value).toArray 26)).alloc (.cells (L0s:List Value).toArray 24))=v0 at *
 have HB0:Bw w v0:=by rw[<-hC];exact Z0 (Z0 (Z5 w) _) _
 have K0:Bk w.heap.size v0 [(true,w.heap.size,GE p q g h),(true,w.heap.size+1,L0s)]:=by rw[<-hC];exact(Bk.nil _ w).ad.ad
 clear hC
 refine rgP K0 HB0 HB0.size [] [] [(0,7,GX p q g h),(1,8,.iface T xv),(2,6,.iface T xv)] [] [] [false] ?_ ?_
 ·exact oc (g_ld 0 Tryz.underlying26 Z1)<|oc (g_cb Yg (fun uZ bZ=>hG.out uZ bZ))<|oc g_as on
 intro u1 HB1 sz1 K1
 simp only[sQ] at K1⊢
 clear K0 HB0
 go_upto_region 2 with fail
 refine rgP K1 HB1 HB1.size [] [] [(0,9,.iface T xv),(1,10,.bool true)] [] [] [] ?_ ?_
 ·exact oc g_mv<|oc (g_bn (fun uZ=>neq_er _ _ _ _ uZ)) on
 intro u2 HB2 sz2 K2
 simp only[sQ] at K2⊢
 clear K1 HB1
 go_upto_region 3 with fail
 refine rgP K2 HB2 HB2.size [.all 3 ([.int .u64 (0),.int .u64 (0),.int .u64 (0),.int .u64 (0)])] [] [(0,11,A4 (0) (0) (0) (0)),(1,12,.iface T xv),(2,13,.int .i64 90),(4,5,.int .i64 90)] [] [] [] ?_ ?_
 ·exact oc (g_bd zN)<|oc g_mv<|oc (g_cb Yn (fun uZ bZ=>hT.out uZ bZ))<|oc (g_st 0 iN)<|oc g_as on
 intro u3 HB3 sz3 K3
 simp only[sQ] at K3⊢
 clear K2 HB2
 have c4:=(K3.cv 0).n4
 go_wp2
 refine bodyPost_ret (v:= .tuple #[A4 0 0 0 0,.int .i64 90]) (by simp[results,Tryz.results22,go_sem,c4]) rfl ⟨rfl,HB3⟩
theorem mem_k(p q g h r:Int)(vb:Value)(w:World)(hG:Hid (∀u,Bw w u->CC 43 #[GX p q g h] u (.nilIface)))(hP:Hid (∀u,Bw w u->CC 49 #[NV p,vb] u (NV r))):
 CC 22 #[GX p q g h,vb] w (.tuple #[NV r,.int .i64 0]):=by
 go_enter Tryz.func22,Tryz.ntmps22
 go_upto_region 1 with fail
 generalize hC:((w.alloc (.cells (GE p q g h:List Value).toArray 26)).alloc (.cells (L0s:List Value).toArray 24))=v0 at *
 have HB0:Bw w v0:=by rw[<-hC];exact Z0 (Z0 (Z5 w) _) _
 have K0:Bk w.heap.size v0 [(true,w.heap.size,GE p q g h),(true,w.heap.size+1,L0s)]:=by rw[<-hC];exact(Bk.nil _ w).ad.ad
 clear hC
 refine rgP K0 HB0 HB0.size [] [] [(0,7,GX p q g h),(1,8,.nilIface),(2,6,.nilIface)] [] [] [] ?_ ?_
 ·exact oc (g_ld 0 Tryz.underlying26 Z1)<|oc (g_cb Yg (fun uZ bZ=>hG.out uZ bZ))<|oc g_as on
 intro u1 HB1 sz1 K1
 simp only[sQ] at K1⊢
 clear K0 HB0
 go_upto_region 2 with fail
 refine rgP K1 HB1 HB1.size [] [] [(0,9,.nilIface),(1,10,.bool false)] [] [] [] ?_ ?_
 ·exact oc g_mv<|oc (g_bn (fun uZ=>neq_no _ _ uZ)) on
 intro u2 HB2 sz2 K2
 simp only[sQ] at K2⊢
 clear K1 HB1
 go_upto_region 4 with fail
 refine rgP K2 HB2 HB2.size [.no,.all 4 (LN r)] [] [(0,14,.pointer (some ⟨w.heap.size,0,none⟩)),(1,15,NV p),(2,16,vb),(3,17,NV r),(5,5,(Go.Value.int Go.IntKind.i64 0))] [] [] [false] ?_ ?_
 ·exact oc (g_fd (fun uZ=>fdG0 _ uZ))<|oc (g_lo 0 0 uN iN)<|oc g_mv<|oc (g_cb Ws (fun uZ bZ=>hP.out uZ bZ))<|oc (g_st 1 iN)<|oc g_as on
 intro u3 HB3 sz3 K3
 simp only[sQ] at K3⊢
 clear K2 HB2
 have c4:=(K3.cv 0).n4
 go_wp2
 refine bodyPost_ret (v:= .tuple #[NV r,.int .i64 0]) (by simp[results,Tryz.results22,go_sem,c4]) rfl ⟨rfl,HB3⟩
theorem sca_n(p q g h:Int)(vb:Value)(T:TypeId)(xv:Value)(w:World)(hG:Hid (∀u,Bw w u->CC 43 #[GX p q g h] u (.iface T xv)))(hT:Hid (∀u,Bw w u->CC 36 #[.iface T xv] u (.int .i64 90))):
 CC 25 #[GX p q g h,vb] w (.tuple #[A4 0 0 0 0,.int .i64 90]):=by
 go_enter Tryz.func25,Tryz.ntmps25
 go_upto_region 1 with fail
 generalize hC:((w.alloc (.cells (GE p q g h:List Value).toArray 26)).alloc (.cells (L0s:List Value).toArray 24))=v0 at *
 have HB0:Bw w v0:=by rw[<-hC];exact Z0 (Z0 (Z5 w) _) _
 have K0:Bk w.heap.size v0 [(true,w.heap.size,GE p q g h),(true,w.heap.size+1,L0s)]:=by rw[<-hC];exact(Bk.nil _ w).ad.ad
 clear hC
 refine rgP K0 HB0 HB0.size [] [] [(0,7,GX p q g h),(1,8,.iface T xv),(2,6,.iface T xv)] [] [] [false] ?_ ?_
 ·exact oc (g_ld 0 Tryz.underlying26 Z1)<|oc (g_cb Yg (fun uZ bZ=>hG.out uZ bZ))<|oc g_as on
 intro u1 HB1 sz1 K1
 simp only[sQ] at K1⊢
 clear K0 HB0
 go_upto_region 2 with fail
 refine rgP K1 HB1 HB1.size [] [] [(0,9,.iface T xv),(1,10,.bool true)] [] [] [] ?_ ?_
 ·exact oc g_mv<|oc (g_bn (fun uZ=>neq_er _ _ _ _ uZ)) on
 intro u2 HB2 sz2 K2
 simp only[sQ] at K2⊢
 clear K1 HB1
 go_upto_region 3 with fail
 refine rgP K2 HB2 HB2.size [.all 3 ([.int .u64 (0),.int .u64 (0),.int .u64 (0),.int .u64 (0)])] [] [(0,11,A4 (0) (0) (0) (0)),(1,12,.iface T xv),(2,13,.int .i64 90),(4,5,.int .i64 90)] [] [] [] ?_ ?_
 ·exact oc (g_bd zN)<|oc g_mv<|oc (g_cb Yn (fun uZ bZ=>hT.out uZ bZ))<|oc (g_st 0 iN)<|oc g_as on
 intro u3 HB3 sz3 K3
 simp only[sQ] at K3⊢
 clear K2 HB2
 have c4:=(K3.cv 0).n4
 go_wp2
 refine bodyPost_ret (v:= .tuple #[A4 0 0 0 0,.int .i64 90]) (by simp[results,Tryz.results25,go_sem,c4]) rfl ⟨rfl,HB3⟩
theorem sca_k(p q g h r:Int)(vb:Value)(w:World)(hG:Hid (∀u,Bw w u->CC 43 #[GX p q g h] u (.nilIface)))(hP:Hid (∀u,Bw w u->CC 52 #[.string ⟨#[115,99,97,108,97,114]⟩,vb,NV q] u (NV r))):
 CC 25 #[GX p q g h,vb] w (.tuple #[NV r,.int .i64 0]):=by
 go_enter Tryz.func25,Tryz.ntmps25
 go_upto_region 1 with fail
 generalize hC:((w.alloc (.cells (GE p q g h:List Value).toArray 26)).alloc (.cells (L0s:List Value).toArray 24))=v0 at *
 have HB0:Bw w v0:=by rw[<-hC];exact Z0 (Z0 (Z5 w) _) _
 have K0:Bk w.heap.size v0 [(true,w.heap.size,GE p q g h),(true,w.heap.size+1,L0s)]:=by rw[<-hC];exact(Bk.nil _ w).ad.ad
 clear hC
 refine rgP K0 HB0 HB0.size [] [] [(0,7,GX p q g h),(1,8,.nilIface),(2,6,.nilIface)] [] [] [] ?_ ?_
 ·exact oc (g_ld 0 Tryz.underlying26 Z1)<|oc (g_cb Yg (fun uZ bZ=>hG.out uZ bZ))<|oc g_as on
 intro u1 HB1 sz1 K1
 simp only[sQ] at K1⊢
 clear K0 HB0
 go_upto_region 2 with fail
 refine rgP K1 HB1 HB1.size [] [] [(0,9,.nilIface),(1,10,.bool false)] [] [] [] ?_ ?_
 ·exact oc g_mv<|oc (g_bn (fun uZ=>neq_no _ _ uZ)) on
 intro u2 HB2 sz2 K2
 simp only[sQ] at K2⊢
 clear K1 HB1
 go_upto_region 4 with fail
 refine rgP K2 HB2 HB2.size [.no,.all 4 (LN r)] [] [(0,14,vb),(1,15,.pointer (some ⟨w.heap.size,4,none⟩)),(2,16,NV q),(3,17,NV r),(5,5,(Go.Value.int Go.IntKind.i64 0))] [] [] [false] ?_ ?_
 ·exact oc g_mv<|oc (g_fd (fun uZ=>fdG1 _ uZ))<|oc (g_lo 0 4 uN iN)<|oc (g_cb Wb (fun uZ bZ=>hP.out uZ bZ))<|oc (g_st 1 iN)<|oc g_as on
 intro u3 HB3 sz3 K3
 simp only[sQ] at K3⊢
 clear K2 HB2
 have c4:=(K3.cv 0).n4
 go_wp2
 refine bodyPost_ret (v:= .tuple #[NV r,.int .i64 0]) (by simp[results,Tryz.results25,go_sem,c4]) rfl ⟨rfl,HB3⟩
theorem cMemG(p q g h:Int)(bs:List Nat)(v:Value)(w:World)(hV:GV w)(hp:In p)(hq:In q)(hin:IN w w.heap.size v bs)(hb: ∀x∈bs,x<256)(hl:bs.length<=900):
 CC 22 #[GX p q g h,v] w (.tuple #[NV (meX p q bs),.int .i64 (chE p q)]):=by
 have hC:=fun u=>gGroup p q g h u hp hq
 rcases grV_is p q with⟨hg,he⟩ | ⟨hg,he⟩
 ·rw[he] at hC
  have h7:=hg.2
  have h3:=hg.q3
  rw[show chE p q=0 from if_pos hg,show meX p q bs=_ from if_pos hg]
  exact mem_k p q g h _ v w (fun u _=>hC u) (fun u hB=>cMemberOf p bs v u (hV.below hB hV.sz) hp (by omega) ((IN.below hin hB).mono hB.size) hb hl)
 ·obtain⟨T,xv,ex⟩:=he.some
  rw[ex] at hC he
  rw[show chE p q=90 from if_neg hg,show meX p q bs=0 from if_neg hg,NV_0]
  exact mem_n p q g h v T xv w (fun u _=>hC u) (fun u _=>gTold9 _ u he)
theorem cScaG(p q g h:Int)(bs:List Nat)(v:Value)(w:World)(hV:GV w)(hp:In p)(hq:In q)(hin:IN w w.heap.size v bs)(hb: ∀x∈bs,x<256)(hl:bs.length<=900):
 CC 25 #[GX p q g h,v] w (.tuple #[NV (scX p q bs),.int .i64 (chE p q)]):=by
 have hC:=fun u=>gGroup p q g h u hp hq
 rcases grV_is p q with⟨hg,he⟩ | ⟨hg,he⟩
 ·rw[he] at hC
  have h7:=hg.2
  have h3:=hg.q3
  rw[show chE p q=0 from if_pos hg,show scX p q bs=_ from if_pos hg]
  exact sca_k p q g h _ v w (fun u _=>hC u) (fun u hB=>cDigest bs v _ q u (hV.below hB hV.sz) hq (by omega) ((IN.below hin hB).mono hB.size) hb (by omega) (by decide))
 ·obtain⟨T,xv,ex⟩:=he.some
  rw[ex] at hC he
  rw[show chE p q=90 from if_neg hg,show scX p q bs=0 from if_neg hg,NV_0]
  exact sca_n p q g h v T xv w (fun u _=>hC u) (fun u _=>gTold9 _ u he)
theorem bs104g(w:World):(Instr.buildSlice 36 1 ([0].zip [.int .u8 104]).toArray).run Tryz.prog w= .ok (.slice (some ⟨w.heap.size,0,none⟩) 1 1) (w.alloc (.cells (U8 [104]).toArray 5)):=by kernel_rfl
theorem in104g(u:World):PIn [104] (u.alloc (.cells (U8 [104]).toArray 5)) (.slice (some ⟨u.heap.size,0,none⟩) 1 1):=
 ⟨_,1,u.heap.size,0,rfl,by simp,.inr rfl,by simp,fun j hj=>by rw[Nat.zero_add];exact(CV.new u (U8 [104]) 5 j _ (Zx [104] j hj)).1⟩
theorem par_k(k P Q hh:Int)(w:World)(hN:Hid (∀u,Bw w u->CC 53 #[.int .i64 k] u (.tuple #[NV P,NV Q,.int .i64 0])))(hM:Hid (∀u y,Bw w u->PIn [104] u y->CC 49 #[NV P,y] u (NV hh))):
 CC 27 #[.int .i64 k] w (.tuple #[GX P Q 4 hh,.int .i64 0]):=by
 go_enter Tryz.func27,Tryz.ntmps27
 go_upto_region 1 with fail
 generalize hC:(w.alloc (.cells (L0g:List Value).toArray 26))=v0 at *
 have HB0:Bw w v0:=by rw[<-hC];exact Z0 (Z5 w) _
 have K0:Bk w.heap.size v0 [(true,w.heap.size,L0g)]:=by rw[<-hC];exact(Bk.nil _ w).ad
 clear hC
 refine rgP K0 HB0 HB0.size [] [(6,4,L0s,some (8,LN P)),(7,5,L0s,some (9,LN Q))] [(0,8,.int .i64 k),(1,9,.tuple #[NV P,NV Q,.int .i64 0]),(2,7,.tuple #[NV P,NV Q,.int .i64 0]),(3,10,NV P),(4,11,NV Q),(5,12,.int .i64 0),(10,6,.int .i64 0)] [(8,6),(9,7)] [] [] ?_ ?_
 ·exact oc g_mv<|oc (g_cb T8 (fun uZ bZ=>hN.out uZ bZ))<|oc g_mv<|oc g_ex<|oc g_ex<|oc g_ex<|oc (g_al 0 aN)<|oc (g_al 1 aN)<|oc (g_sn 0 iN)<|oc (g_sn 1 iN)<|oc g_as on
 intro u1 b1_6 b1_7 HB1 sz1 K1
 simp only[sQ] at K1⊢
 clear K0 HB0
 go_upto_region 2 with fail
 refine rgP K1 HB1 HB1.size [] [] [(0,13,.int .i64 0),(1,14,.bool false)] [] [] [] ?_ ?_
 ·exact oc g_mv<|oc (g_bn (fun uZ=>neq_i _ _ _ 0 0 _ uZ rfl)) on
 intro u2 HB2 sz2 K2
 simp only[sQ] at K2⊢
 clear K1 HB1
 go_upto_region 4 with fail
 refine rgE K2 HB2 HB2.size [.all 7 (GE P Q (4) hh)] [] [(0,24,NV P),(1,25,NV Q),(2,26,NV 4),(3,27,NV P),(5,29,NV hh),(6,30,GX P Q (4) hh),(8,3,(Go.Value.int Go.IntKind.i64 0))] [] [] [⟨4,28,some 5,PIn [104]⟩] [true,false,false] (.cons (fun _ _ _ h1 h2=>h2.stab h1)<|Stab.nil) ?_ ?_
 ·exact oc (g_ld 1 uN iN)<|oc (g_ld 2 uN iN)<|oc (g_cl Z9 (fun uZ=>nOf 4 uZ (by decide) (by decide)))<|oc (g_ld 1 uN iN)<|oc (g_bR 0 (PIn [104]) [0] [.int .u8 104] (U8 [104]) bs104g (fun u hu=>in104g u))<|oc (g_c2 0 (PIn [104]) Ws (fun uZ yZ bZ hZ=>hM.out uZ yZ bZ hZ))<|oc (g_bd (fun uZ=>bdG P Q 4 hh uZ))<|oc (g_st 0 Z1)<|oc g_as on
 intro u3 v3_4 hv3_4 HB3 sz3 K3
 simp only[sQ] at K3⊢
 clear K2 HB2
 have c2_0:=((K3.cv 0) 0 _ rfl).1
 have c2_1:=((K3.cv 0) 1 _ rfl).1
 have c2_2:=((K3.cv 0) 2 _ rfl).1
 have c2_3:=((K3.cv 0) 3 _ rfl).1
 have c2_4:=((K3.cv 0) 4 _ rfl).1
 have c2_5:=((K3.cv 0) 5 _ rfl).1
 have c2_6:=((K3.cv 0) 6 _ rfl).1
 have c2_7:=((K3.cv 0) 7 _ rfl).1
 have c2_8:=((K3.cv 0) 8 _ rfl).1
 have c2_9:=((K3.cv 0) 9 _ rfl).1
 have c2_10:=((K3.cv 0) 10 _ rfl).1
 have c2_11:=((K3.cv 0) 11 _ rfl).1
 have c2_12:=((K3.cv 0) 12 _ rfl).1
 have c2_13:=((K3.cv 0) 13 _ rfl).1
 have c2_14:=((K3.cv 0) 14 _ rfl).1
 have c2_15:=((K3.cv 0) 15 _ rfl).1
 go_wp2
 refine bodyPost_ret (v:= .tuple #[GX P Q 4 hh,.int .i64 0]) (by simp[results,Tryz.results27,go_sem,c2_0,c2_1,c2_2,c2_3,c2_4,c2_5,c2_6,c2_7,c2_8,c2_9,c2_10,c2_11,c2_12,c2_13,c2_14,c2_15]) rfl ⟨rfl,HB3⟩
end Go.Proofs.YtknpepgonhdbgaaGreatDoor
