import Derived.Test.YtdhlekdohebbbaaGreatDoorAN6
import Derived.Test.YtdhlekdohebbbaaGreatDoorLC5
namespace Go.Proofs.YtdhlekdohebbbaaGreatDoor
set_option linter.unusedVariables false
set_option linter.unusedSimpArgs false
set_option maxRecDepth 100000
set_option maxHeartbeats 4000000
open Go.RowKit
theorem cMemberOf(p:Int)(bs:List Nat)(v:Value)(w:World)(hV:GV w)(hp:In p)(hp0:p≠0)(hin:IN w w.heap.size v bs)(hb: ∀x∈bs,x<256)(hl:bs.length<=900):
 CC 13 #[NV p,v] w (NV (meN p bs)):=by
 have i1:In 1:=⟨by decide,by decide⟩
 refine memberOf_core p (meN p bs) bs v (dgM p bs) (sqM p bs) (fun k=>cmpI (sqM p bs k) 1) w (fun k u hk hB=>cCounted k bs v u hk ((IN.below hin hB).mono hB.size) hl) (fun k u y hk hB hy=>?_) (fun k u hk=>mMul _ _ p u (Y9 hp hp0) (Y9 hp hp0) hp hp0) (fun k u hk=>nCompare _ 1 u (Y9 hp hp0) i1) (fun k hk=>?_) (fun k hk hn hy=>?_) (fun hn=>?_)
 ·exact cDigest _ y _ p u (hV.below hB hV.sz) hp hp0 hy (fun x hx=>by
   rcases List.mem_append.1 hx with h | h
   ·simp at h;omega
   ·exact hb x h) (by rw[List.length_append];simp;omega) (by decide)
 ·unfold cmpI;(repeat' split)<;>omega
 ·have:=meF_hit (f:=sqM p bs) 64 0 k hk (fun j hj=>by rw[Nat.zero_add];exact hn j hj) (by rw[Nat.zero_add];exact hy)
  rw[Nat.zero_add] at this;exact this.symm
 ·exact meF_none (f:=sqM p bs) 64 0 (fun j hj=>by rw[Nat.zero_add];exact hn j hj)
theorem bdG0(w:World):(Instr.build 26 ([]:List (Nat×Value)).toArray).run Tryz.prog w= .ok (GX 0 0 0 0) w:=by kernel_rfl
theorem bs104g(w:World):(Instr.buildSlice 46 1 ([0].zip [.int .u8 104]).toArray).run Tryz.prog w= .ok (.slice (some ⟨w.heap.size,0,none⟩) 1 1) (w.alloc (.cells (U8 [104]).toArray 5)):=by kernel_rfl
theorem in104g(u:World):PIn [104] (u.alloc (.cells (U8 [104]).toArray 5)) (.slice (some ⟨u.heap.size,0,none⟩) 1 1):=
 ⟨_,1,u.heap.size,0,rfl,by simp,.inr rfl,by simp,fun j hj=>by rw[Nat.zero_add];exact(CV.new u (U8 [104]) 5 j _ (Yc [104] j hj)).1⟩
def sG:ByteArray:=⟨#[103,114,111,117,112,32]⟩
theorem par_n(k:Int)(w:World)(hG:GT w)(h0: -9223372036854775808<=k)(h1:k<=9223372036854775807)(hN:Hid (∀u,Bw w u->CC 9 #[iI k] u (.tuple #[A4 0 0 0 0,A4 0 0 0 0,iI 2])))(hT:Hid (∀u,Bw w u->CC 10 #[.iface 43 (.agg #[.string (sG++iaG k),.iface 27 (iI 2)])] u (iI 2))):
 CC 4 #[iI k] w (.tuple #[GX 0 0 0 0,iI 2]):=by
 go_enter Tryz.func4,Tryz.ntmps4
 go_upto_region 1 with fail
 obtain⟨v0,hC,HB0,K0⟩:=bx1 w L0g 26
 rw[hC]
 clear hC
 refine Rp K0 HB0 [] [(6,4,L0s,some (8,[iU (0),iU (0),iU (0),iU (0)])),(7,5,L0s,some (9,[iU (0),iU (0),iU (0),iU (0)]))] [(0,8,_),(1,9,_),(2,7,_),(3,10,_),(4,11,_),(5,12,_),(10,6,_)] [(8,6),(9,7)] [] [true,false,false] (oc g_mv<|oc (g_cb V6 hN.out)<|oc g_mv<|oc g_ex<|oc g_ex<|oc g_ex<|oc (g_al 0 aN)<|oc (g_al 1 aN)<|oc (g_sn 0 iN)<|oc (g_sn 1 iN)<|oc g_as on) fun u1 b1_6 b1_7 HB1 _ K1=>?_
 simp only[sQ] at K1⊢
 go_upto_region 2 with fail
 refine Rn K1 HB1 [(0,13,_),(1,14,_)] (oc g_mv<|oc (g_bn (fun uZ=>V9 _ _ _ 2 0 _ uZ rfl)) on) fun u2 HB2 _ K2=>?_
 simp only[sQ] at K2⊢
 go_upto_region 3 with fail
 refine Rp K2 HB2 [.all 9 (GE (0) (0) (0) (0))] [] (cG 0 15 [_,_,_,_,_,_,_,_,_] [(10,3,_)]) [] [] [] (oc (g_bd bdG0)<|oc g_mv<|oc (g_cb Wk (fun uZ bZ=>cItoaG k uZ h0 h1 (hG.below bZ)))<|oc (g_bn (fun uZ=>T9 _ _ sG (iaG k) uZ (by have:=ia_szG k h0 h1;have:sG.size=6:=rfl;omega)))<|oc g_mv<|oc (Vu (miEG 2))<|oc (g_bd (bdFlG (sG++iaG k) _ _))<|oc (Vu (miFG (sG++iaG k) _ _))<|oc (g_cb W9 hT.out)<|oc (g_st 0 Z3)<|oc g_as on) fun u3 HB3 _ K3=>?_
 simp only[sQ] at K3⊢
 have c2_0:=((K3.cv 0) 0 _ rfl).1
 have c2_1:=((K3.cv 0) 1 _ rfl).1
 have c2_2:=((K3.cv 0) 2 _ rfl).1
 have c2_3:=((K3.cv 0) 3 _ rfl).1
 have c2_4:=((K3.cv 0) 4 _ rfl).1
 have c2_5:=((K3.cv 0) 5 _ rfl).1
 have c2_6:=((K3.cv 0) 6 _ rfl).1
 have c2_7:=((K3.cv 0) 7 _ rfl).1
 have c2_8:=((K3.cv 0) 8 _ rfl).1
 have c2_9:=((K3.cv 0) 9 _ rfl).1
 have c2_10:=((K3.cv 0) 10 _ rfl).1
 have c2_11:=((K3.cv 0) 11 _ rfl).1
 have c2_12:=((K3.cv 0) 12 _ rfl).1
 have c2_13:=((K3.cv 0) 13 _ rfl).1
 have c2_14:=((K3.cv 0) 14 _ rfl).1
 have c2_15:=((K3.cv 0) 15 _ rfl).1
 go_wp2
 refine bodyPost_ret (v:= .tuple #[GX 0 0 0 0,iI 2]) (by simp[results,Tryz.results4,go_sem,c2_0,c2_1,c2_2,c2_3,c2_4,c2_5,c2_6,c2_7,c2_8,c2_9,c2_10,c2_11,c2_12,c2_13,c2_14,c2_15]) rfl ⟨rfl,HB3⟩
theorem par_k(k P Q hh:Int)(w:World)(hN:Hid (∀u,Bw w u->CC 9 #[iI k] u (.tuple #[NV P,NV Q,iI 0])))(hM:Hid (∀u y,Bw w u->PIn [104] u y->CC 13 #[NV P,y] u (NV hh))):
 CC 4 #[iI k] w (.tuple #[GX P Q 4 hh,iI 0]):=by
 go_enter Tryz.func4,Tryz.ntmps4
 go_upto_region 1 with fail
 obtain⟨v0,hC,HB0,K0⟩:=bx1 w L0g 26
 rw[hC]
 clear hC
 refine Rp K0 HB0 [] [(6,4,L0s,some (8,LN P)),(7,5,L0s,some (9,LN Q))] [(0,8,_),(1,9,_),(2,7,_),(3,10,_),(4,11,_),(5,12,_),(10,6,_)] [(8,6),(9,7)] [] [] (oc g_mv<|oc (g_cb V6 hN.out)<|oc g_mv<|oc g_ex<|oc g_ex<|oc g_ex<|oc (g_al 0 aN)<|oc (g_al 1 aN)<|oc (g_sn 0 iN)<|oc (g_sn 1 iN)<|oc g_as on) fun u1 b1_6 b1_7 HB1 _ K1=>?_
 simp only[sQ] at K1⊢
 go_upto_region 2 with fail
 refine Rn K1 HB1 [(0,13,_),(1,14,_)] (oc g_mv<|oc (g_bn (fun uZ=>V9 _ _ _ 0 0 _ uZ rfl)) on) fun u2 HB2 _ K2=>?_
 simp only[sQ] at K2⊢
 go_upto_region 4 with fail
 refine Re K2 HB2 [.all 7 (GE P Q (4) hh)] [] (cG 0 24 [_,_,_,_] [(5,29,_),(6,30,_),(8,3,_)]) [] [] [⟨4,28,some 5,PIn [104]⟩] [true,false,false] (oc (g_ld 1 uN iN)<|oc (g_ld 2 uN iN)<|oc (g_cl Zl (fun uZ=>nOf 4 uZ (by decide) (by decide)))<|oc (g_ld 1 uN iN)<|oc (g_bR 0 (PIn [104]) [0] [.int .u8 104] (U8 [104]) bs104g (fun u hu=>in104g u))<|oc (g_c2 0 (PIn [104]) Tq (fun uZ yZ bZ hZ=>hM.out uZ yZ bZ hZ))<|oc (g_bd (bdG P Q 4 hh))<|oc (g_st 0 Z3)<|oc g_as on) fun u3 v3_4 hv3_4 HB3 _ K3=>?_
 simp only[sQ] at K3⊢
 have c2_0:=((K3.cv 0) 0 _ rfl).1
 have c2_1:=((K3.cv 0) 1 _ rfl).1
 have c2_2:=((K3.cv 0) 2 _ rfl).1
 have c2_3:=((K3.cv 0) 3 _ rfl).1
 have c2_4:=((K3.cv 0) 4 _ rfl).1
 have c2_5:=((K3.cv 0) 5 _ rfl).1
 have c2_6:=((K3.cv 0) 6 _ rfl).1
 have c2_7:=((K3.cv 0) 7 _ rfl).1
 have c2_8:=((K3.cv 0) 8 _ rfl).1
 have c2_9:=((K3.cv 0) 9 _ rfl).1
 have c2_10:=((K3.cv 0) 10 _ rfl).1
 have c2_11:=((K3.cv 0) 11 _ rfl).1
 have c2_12:=((K3.cv 0) 12 _ rfl).1
 have c2_13:=((K3.cv 0) 13 _ rfl).1
 have c2_14:=((K3.cv 0) 14 _ rfl).1
 have c2_15:=((K3.cv 0) 15 _ rfl).1
 go_wp2
 refine bodyPost_ret (v:= .tuple #[GX P Q 4 hh,iI 0]) (by simp[results,Tryz.results4,go_sem,c2_0,c2_1,c2_2,c2_3,c2_4,c2_5,c2_6,c2_7,c2_8,c2_9,c2_10,c2_11,c2_12,c2_13,c2_14,c2_15]) rfl ⟨rfl,HB3⟩
end Go.Proofs.YtdhlekdohebbbaaGreatDoor
