/- Proved: for any bytes, GrpDigests returns true and leaves its arguments as they were. The five variables that the program lays as its text says. -/
import Derived.Test.YtknpepgonhdbgaaGreatDoorANC
import Derived.Test.YtknpepgonhdbgaaGreatDoorTie
import Derived.Test.YtknpepgonhdbgaaGreatDoorCards
import Derived.LaidMore
import Derived.SevenTiedAt
namespace Go.Proofs.YtknpepgonhdbgaaGreatDoor
set_option linter.unusedVariables false
set_option linter.unusedSimpArgs false
set_option maxRecDepth 100000
set_option maxHeartbeats 4000000
section
open Go.RowKit
theorem slHG (sl:Option Addr) (n cap k:Nat) (h:k<=n) (hc:n<=cap) (hn:sl=none->cap=0) (w:World):(Instr.sliceAt 36 (.slice sl n cap) none (some (.int .i64 k)) none).run Tryz.prog w= .ok (.slice sl k cap) w:=by
 cases sl with
 | none=>
  have e0:=hn rfl
  have e1:n=0:=by omega
  have e2:k=0:=by omega
  subst e0 e1 e2
  show (Instr.sliceAt 36 (.slice none 0 0) none (some (.int .i64 0)) none).run Tryz.prog w=_
  kernel_rfl
 | some a=>
  have h3:k<=cap:=by omega
  simp[Instr.sliceAt,Instr.slice,go_sem,Tryz.underlying36,h3]
theorem Xt:EnT 22:=fun _ _=>by kernel_rfl
theorem Ut:EnT 25:=fun _ _=>by kernel_rfl
theorem grpDigests_core (P Q hh m s:Int) (sl1:Option Addr) (n1 cap1 m1:Nat) (w:World) (hmin1:min (n1:Int) 200=(m1:Int)) (hm1:m1<=n1) (hc1:n1<=cap1) (hsn1:sl1=none->cap1=0)
 (hW:Hid (∀u,Bw w u->CC 17 #[] u (.bool true)))
 (hT:Hid (∀u,Bw w u->CC 31 #[] u (GX P Q 4 hh)))
 (hM:Hid (∀u,Bw w u->CC 22 #[GX P Q 4 hh,(.slice sl1 m1 cap1)] u (.tuple #[NV m,.int .i64 0])))
 (hS:Hid (∀u,Bw w u->CC 25 #[GX P Q 4 hh,(.slice sl1 m1 cap1)] u (.tuple #[NV s,.int .i64 0])))
 (hI:Hid (∀u,Bw w u->CC 14 #[GX P Q 4 hh,NV m] u (.bool true)))
 (hC:Hid (∀u,Bw w u->CC 34 #[NV s,NV Q] u (.int .i64 (-1)))):
 CC 8 #[(.slice sl1 n1 cap1)] w (.bool true):=by
 go_enter Tryz.func8,Tryz.ntmps8
 have HB0:Bw w w:=Below.refl _ _
 have K0_1:=Bk.nil (w.heap.size) w
 go_upto_region 1 with fail
 refine rgP K0_1 HB0 HB0.size [] [] [(0,8,.bool true),(1,9,.bool false)] [] [] [] ?_ ?_
 ·exact oc (g_cb Zs (fun uZ bZ=>hW.out uZ bZ))<|oc (g_un (fun uZ=>rfl)) on
 intro u1 HB1 sz1 K1
 simp only[sQ] at K1⊢
 clear HB0
 go_upto_region 3 with fail
 refine rgP K1 HB1 HB1.size [] [(1,3,L0g,some (2,GE (P) (Q) (4) (hh)))] [(0,10,GX (P) (Q) (4) (hh))] [(2,1)] [] [] ?_ ?_
 ·exact oc (g_cb Yr (fun uZ bZ=>hT.out uZ bZ))<|oc (g_al 0 Xg)<|oc (g_sn 0 Z0) on
 intro u2 b2_1 HB2 sz2 K2
 simp only[sQ] at K2⊢
 clear K1 HB1
 go_upto_region 4 with fail
 refine rgP K2 HB2 HB2.size [] [] [(0,11,(.slice sl1 n1 cap1)),(1,12,(.slice sl1 n1 cap1)),(2,13,.int .i64 (n1:Int)),(3,14,.int .i64 (m1:Int)),(4,15,(.slice sl1 m1 cap1)),(5,0,(.slice sl1 m1 cap1))] [(5,0),(5,1)] [(5,0)] [] ?_ ?_
 ·exact oc g_mv<|oc g_mv<|oc (g_ln Tryz.underlying36)<|oc (g_mn hmin1)<|oc (g_sl (fun uZ=>slHG sl1 n1 cap1 m1 hm1 hc1 hsn1 uZ))<|oc g_as on
 intro u3 HB3 sz3 K3
 simp only[sQ] at K3⊢
 clear K2 HB2
 go_upto_region 5 with fail
 refine rgP K3 HB3 HB3.size [] [(6,4,L0s,some (7,LN m))] [(0,17,GX (P) (Q) (4) (hh)),(1,18,(.slice sl1 m1 cap1)),(2,19,.tuple #[NV m,.int .i64 0]),(3,16,.tuple #[NV m,.int .i64 0]),(4,20,NV m),(5,21,.int .i64 0),(8,5,.int .i64 0)] [(7,6)] [] [] ?_ ?_
 ·exact oc (g_ld 0 Tryz.underlying26 Z0)<|oc g_mv<|oc (g_cb Xt (fun uZ bZ=>hM.out uZ bZ))<|oc g_mv<|oc g_ex<|oc g_ex<|oc (g_al 0 aN)<|oc (g_sn 0 iN)<|oc g_as on
 intro u4 b4_6 HB4 sz4 K4
 simp only[sQ] at K4⊢
 clear K3 HB3
 go_upto_region 6 with fail
 refine rgP K4 HB4 HB4.size [] [(6,6,L0s,some (7,LN s))] [(0,23,GX (P) (Q) (4) (hh)),(1,24,(.slice sl1 m1 cap1)),(2,25,.tuple #[NV s,.int .i64 0]),(3,22,.tuple #[NV s,.int .i64 0]),(4,26,NV s),(5,27,.int .i64 0),(8,7,.int .i64 0)] [(7,6)] [] [] ?_ ?_
 ·exact oc (g_ld 0 Tryz.underlying26 Z0)<|oc g_mv<|oc (g_cb Ut (fun uZ bZ=>hS.out uZ bZ))<|oc g_mv<|oc g_ex<|oc g_ex<|oc (g_al 0 aN)<|oc (g_sn 0 iN)<|oc g_as on
 intro u5 b5_6 HB5 sz5 K5
 simp only[sQ] at K5⊢
 clear K4 HB4
 go_upto_region 7 with fail
 refine rgP K5 HB5 HB5.size [] [] [(0,28,.int .i64 0),(1,29,.bool true),(2,30,.bool true),(3,31,.int .i64 0),(4,32,.bool true),(5,33,.bool true),(6,34,.bool true),(7,35,GX (P) (Q) (4) (hh)),(8,36,NV m),(9,37,.bool true),(10,38,.bool true),(11,39,.bool true),(12,40,NV s),(13,41,.pointer (some ⟨b2_1,4,none⟩)),(14,42,NV Q),(15,43,.int .i64 (-1)),(16,44,.bool true),(17,45,.bool true),(18,2,.bool true)] [] [] [false,false,false] ?_ ?_
 ·exact oc g_mv<|oc (g_bn (fun uZ=>Wa _ _ _ 0 0 _ uZ rfl))<|oc g_mv<|oc g_mv<|oc (g_bn (fun uZ=>Wa _ _ _ 0 0 _ uZ rfl))<|oc g_pk<|oc g_mv<|oc (g_ld 0 Tryz.underlying26 Z0)<|oc (g_ld 1 uN iN)<|oc (g_cb Z5 (fun uZ bZ=>hI.out uZ bZ))<|oc g_pk<|oc g_mv<|oc (g_ld 2 uN iN)<|oc (g_fd (fun uZ=>fdG1 _ uZ))<|oc (g_lo 0 4 uN iN)<|oc (g_cb Zk (fun uZ bZ=>hC.out uZ bZ))<|oc (g_bn (fun uZ=>Zr _ _ (-1) 0 _ uZ rfl))<|oc g_pk<|oc g_as on
 intro u6 HB6 sz6 K6
 simp only[sQ] at K6⊢
 clear K5 HB5
 go_wp2
 refine bodyPost_ret (v:= .bool true) (by simp[results,Tryz.results8,go_sem,]) rfl ⟨rfl,HB6⟩
theorem GMem0 {w:World} (hK:GMem w) (ys:List Nat) (v:Value) (hin: ∀u,Bw w u->IN u u.heap.size v ys) (hb: ∀x∈ys,x<256) (hl:ys.length<=200) (u:World) (hB:Bw w u):
 CC 22 #[GX P0 Q0 4 (meN P0 [104]),v] u (.tuple #[NV (meN P0 ys),.int .i64 0]):=by
 have h:=hK u P0 Q0 4 (meN P0 [104]) ys v hB Yb Xh T9 (Tq Yb mb_h0) (hin u hB) hb hl
 have e1:meX P0 Q0 ys=meN P0 ys:=if_pos X0
 have e2:chE P0 Q0=0:=if_pos X0
 rw[e1,e2] at h
 exact h
theorem GSca0 {w:World} (hK:GSca w) (ys:List Nat) (v:Value) (hin: ∀u,Bw w u->IN u u.heap.size v ys) (hb: ∀x∈ys,x<256) (hl:ys.length<=200) (u:World) (hB:Bw w u):
 CC 25 #[GX P0 Q0 4 (meN P0 [104]),v] u (.tuple #[NV (dgN ys tSca Q0),.int .i64 0]):=by
 have h:=hK u P0 Q0 4 (meN P0 [104]) ys v hB Yb Xh T9 (Tq Yb mb_h0) (hin u hB) hb hl
 have e1:scX P0 Q0 ys=dgN ys tSca Q0:=if_pos X0
 have e2:chE P0 Q0=0:=if_pos X0
 rw[e1,e2] at h
 exact h
theorem xIs0 (x:Int) (u:World) (hx:Mb P0 Q0 x):CC 14 #[GX P0 Q0 4 (meN P0 [104]),NV x] u (.bool true):=by
 have h:=xIs P0 Q0 4 (meN P0 [104]) x u Yb Xh (Tq Yb hx)
 rw[Vz X0 hx] at h
 exact h
theorem cmp_ltG {a b:Int} (h:a<b):cmpI a b= -1:=if_pos h
theorem grpDigests_any (sl1:Option Addr) (n1 cap1 m1:Nat) (ys:List Nat) (w:World) (hmin1:min (n1:Int) 200=(m1:Int)) (hm1:m1<=n1) (hc1:n1<=cap1) (hsn1:sl1=none->cap1=0)
 (hin: ∀u,Bw w u->IN u u.heap.size (.slice sl1 m1 cap1) ys) (hb: ∀x∈ys,x<256) (hl:ys.length<=200)
 (hP:GPa0 w) (hE:GExp w) (hI:GIs w) (hC:GChk w) (hK:GMem w) (hS:GSca w):
 CC 8 #[.slice sl1 n1 cap1] w (.bool true):=by
 have hd:=dgN_lt ys tSca (m:=Q0) (by decide)
 have hc: ∀u,CC 34 #[NV (dgN ys tSca Q0),NV Q0] u (.int .i64 (-1)):=fun u=>by
  have h:=V0 (dgN ys tSca Q0) Q0 u (In_lt Xh hd.1 (Int.le_of_lt hd.2)) Xh
  rw[cmp_ltG hd.2] at h
  exact h
 exact grpDigests_core P0 Q0 (meN P0 [104]) (meN P0 ys) (dgN ys tSca Q0) sl1 n1 cap1 m1 w hmin1 hm1 hc1 hsn1
  (fun u hB=>works9 u (hP.up hB) (hE.up hB) (hI.up hB) (hC.up hB)) (fun u _=>xThe u) (GMem0 hK ys _ hin hb hl) (GSca0 hS ys _ hin hb hl) (fun u _=>xIs0 _ u (meN_Mb pr0 X0 ys)) (fun u _=>hc u)
def PGI (ys:List Nat) (u:World) (v:Value):Prop:=IN u u.heap.size v ys
theorem PGI.stab {ys:List Nat} {u u2:World} {x:Value} (hB:Bw u u2) (h:PGI ys u x):PGI ys u2 x:=(IN.below h hB).mono hB.size
theorem gPa0 (w:World) (hV:GV w):GPa0 w:=fun u hB=>par_k 0 P0 Q0 _ u (fun u _=>cNumbers 0 1162079267 581039633 [131101,581039633,1162079267] u (by decide) (by decide) rfl rfl (fun u=>cPrimes0 u)) (fun u2 y hB2 hy=>cMemberOf P0 [104] y u2 (hV.below (Zz hB hB2) hV.sz) Yb (by decide) hy (by decide) (by decide))
theorem gChk (w:World):GChk w:=fun u p q g h hB hp hq hg hh=>cCheckG p q g h u hp hq
theorem gIs (w:World) (hG:GT w):GIs w:=fun u p q g h x hB hp hq hg hh hx=>cIsG p q g h x u (hG.below hB) hp hq hx
theorem gExp (w:World) (hG:GT w):GExp w:=fun u p q g h x e hB hp hq hg hh hx he=>cExpG p q g h x e u (hG.below hB) hp hq hx he
theorem gMem (w:World) (hV:GV w):GMem w:=fun u p q g h bs v hB hp hq hg hh hin hb hl=>cMemG p q g h bs v u (hV.below hB hV.sz) hp hq hin hb (by omega)
theorem gSca (w:World) (hV:GV w):GSca w:=fun u p q g h bs v hB hp hq hg hh hin hb hl=>cScaG p q g h bs v u (hV.below hB hV.sz) hp hq hin hb (by omega)
end
section
open Go.ChangeShapes Go.WideShapes Go.ChangeAt Go.RowKit
theorem own4:ownKnob Tryz.prog.godebug=none:=by kernel_rfl
theorem Vy:laidOutB Tryz.prog=true:=by kernel_rfl
abbrev lstG:List (String×DataW Unit):=[("math/bits.deBruijn32tab",Rows.laid_math_bits_deBruijn32tab),("math/bits.deBruijn64tab",Rows.laid_math_bits_deBruijn64tab),("internal/strconv.uint64pow10",Rows.laid_internal_strconv_uint64pow10),("seneschal/sha.constants",Rows.laid_seneschal_sha_constants),("seneschal/sha.first",Rows.laid_seneschal_sha_first)]
theorem gCon:Tryz.prog.globalNamed "seneschal/sha.constants" =some 7:=by kernel_rfl
theorem gFir:Tryz.prog.globalNamed "seneschal/sha.first" =some 3:=by kernel_rfl
theorem tCon:(Tryz.prog.globals[7]?).map (·.type)=some 197:=by kernel_rfl
theorem tFir:(Tryz.prog.globals[3]?).map (·.type)=some 183:=by kernel_rfl
theorem tPow:(Tryz.prog.globals[0]?).map (·.type)=some 179:=by kernel_rfl
theorem powIs:(Rows.laid_internal_strconv_uint64pow10:DataW Unit)=Lib.tabData .u64 Lib.pow10Tab:=by kernel_rfl
def lits {H:Type} (ks:List Nat):DataW H:= .agg (ks.map fun(k:Nat)=>.lit (.int .u32 (k:Int)))
theorem con_is {H:Type}:(Rows.laid_seneschal_sha_constants:DataW H)=lits kcs:=by kernel_rfl
theorem fir_is {H:Type}:(Rows.laid_seneschal_sha_first:DataW H)=lits fst8:=by kernel_rfl
theorem cells32:Tryz.prog.cellsOf 180=1:=by kernel_rfl
theorem arr_cells {H:Type} {enc:TypeId×Value->H} {W:World} {base fuel:Nat} {sp:Nat->Bool} {held:Bool} {t:TypeId} {n:Nat} (ht:Tryz.prog.underlying t=some (.array n 180)) {cs:List Value} {ks:List Nat} {pl:List MemPlace} (h:DataW.trod enc Tryz.prog W base sp held fuel t cs=some (lits ks,pl)) (hk:ks.length=n): ∀i,i<n->cs[i]?=some (.int .u32 ((ks.getD i 0:Nat):Int)):=fun i hi=>by
 obtain⟨xs,m,rfl,hx,hlen,hn,hel⟩:=DataW.trod_array ht h
 simp only[Prod.mk.injEq,lits,DataW.agg.injEq] at hx
 have h1:=hel i hi
 rw[cells32,Nat.mul_one,List.getElem?_eq_getElem (by omega)] at h1
 obtain⟨k,e1,e2,_⟩:=DataW.trod_int Tryz.underlying180 h1
 have e3:(xs.map (·.1))[i]?=some (.lit (.int .u32 k)):=by
  rw[List.getElem?_map,List.getElem?_eq_getElem (by omega)]
  simp[e2]
 rw[<-hx.1,List.getElem?_map,List.getElem?_eq_getElem (by omega)] at e3
 simp at e3
 have e4:(cs.drop i)[0]?=some (.int .u32 k):=by
  have:((cs.drop i).take 1)[0]?=some (.int .u32 k):=by rw[e1];rfl
  rwa [List.getElem?_take_of_lt (by omega)] at this
 rw[List.getElem?_drop,Nat.add_zero] at e4
 rw[e4,List.getD_eq_getElem?_getD,List.getElem?_eq_getElem (by omega),<-e3]
 rfl
structure GG (w:World):Prop where
 v:GV w
 t:GT w
 sz:0<w.heap.size
theorem Tb {W:World} (h:laidMetH Tryz.prog lstG W):GG W:=by
 rw[MakeChecks.laidMetH_plain _ _ _ (by kernel_rfl)] at h
 obtain⟨ps,⟨g0,t0,cs0,f0,p0,q0,hg0,ht0,hv0,hd0,⟨g1,t1,cs1,f1,p1,q1,hg1,ht1,hv1,hd1,⟨g2,t2,cs2,f2,p2,q2,hg2,ht2,hv2,hd2,⟨g3,t3,cs3,f3,p3,q3,hg3,ht3,hv3,hd3,⟨g4,t4,cs4,f4,p4,q4,hg4,ht4,hv4,hd4,_,_⟩,_⟩,_⟩,_⟩,_⟩,_,_⟩:=h
 obtain rfl:=Option.some.inj (gPow.symm.trans hg2)
 obtain rfl:=Option.some.inj (tPow.symm.trans ht2)
 obtain rfl:=Option.some.inj (gCon.symm.trans hg3)
 obtain rfl:=Option.some.inj (gFir.symm.trans hg4)
 obtain rfl:=Option.some.inj (tCon.symm.trans ht3)
 obtain rfl:=Option.some.inj (tFir.symm.trans ht4)
 rw[powIs] at hd2
 rw[con_is] at hd3
 rw[fir_is] at hd4
 have htab:Lib.TabIs Tryz.prog W "internal/strconv.uint64pow10" .u64 Lib.pow10Tab:=by
  unfold Lib.TabIs
  rw[hv2,<-Lib.cells_of_tab Tryz.underlying179 Tryz.underlying22 (by kernel_rfl) (by kernel_rfl) hd2]
 have hc2:=htab.cell gPow 0 (by rw[Lib.pow10Tab_length];omega)
 have k0:=arr_cells Tryz.underlying197 hd3 rfl
 have k1:=arr_cells Tryz.underlying183 hd4 rfl
 have c0: ∀t,t<64->W.cell? ⟨7,t,none⟩=some (.int .u32 ((kcs.getD t 0:Nat):Int)):=fun t ht=>by
  rw[World.var?_cell hg3 hv3 t,<-Array.getElem?_toList];exact k0 t ht
 have c1: ∀t,t<8->W.cell? ⟨3,t,none⟩=some (.int .u32 ((fst8.getD t 0:Nat):Int)):=fun t ht=>by
  rw[World.var?_cell hg4 hv4 t,<-Array.getElem?_toList];exact k1 t ht
 have s0:7<W.heap.size:=World.block_lt_of_cell? W _ (c0 0 (by decide))
 have s1:3<W.heap.size:=World.block_lt_of_cell? W _ (c1 0 (by decide))
 exact⟨⟨by omega,c0,c1⟩,⟨World.block_lt_of_cell? W _ hc2,htab⟩,by omega⟩
theorem doorG (os:Go.Os) (args:Array Value):laidMetH Tryz.prog lstG ((World.doorLaid Tryz.prog 400 os).forCall (fun _ _=>0) ⟨#[],args,[]⟩).memory:=
 laidMetH_of_parts3 (fuel:=8) (laidMet_of_run' 8 (by kernel_rfl) (by kernel_rfl)) (by kernel_rfl) (by kernel_rfl)
theorem cells8:Tryz.prog.cellsOf 5=1:=by kernel_rfl
theorem open_by {H:Type} {enc:TypeId×Value->H} {W:World} {base:Nat} {v:Value} {x:DataW H} {p:List MemPlace} (h1:0<W.heap.size) (hv:Value.okWide Tryz.prog W .any base 36 v) (h:DataW.Trod enc Tryz.prog W 0 (fun _=>true) true 36 v x p):
 ∃sl cap gb go,∃xs:List Nat,v= .slice sl xs.length cap/\xs.length<=cap/\(sl=none->cap=0)/\(xs.length=0\/sl=some ⟨gb,go,none⟩)/\gb<W.heap.size/\SB W gb go xs/\ ∀x∈xs,x<256:=by
 obtain⟨a0,len,cap,rfl⟩:=okWide_slice Tryz.underlying36 hv
 obtain⟨fuel,hf⟩:=h
 rcases Go.Deep.open_slice1 Tryz.underlying36 cells8 hf with⟨hcs,hx⟩ | ⟨ad,len',cap',m,n,V,D,Pl,hcs,hbs,hl,hm,hmm,hx,hall⟩
 ·simp[Value.cells] at hcs
  obtain⟨rfl,rfl,rfl⟩:=hcs
  exact⟨_,_,0,0,[],rfl,Nat.le_refl _,fun _=>rfl,.inl rfl,h1,fun j hj=>by simp at hj,fun x hx=>by simp at hx⟩
 ·simp[Value.cells] at hcs
  obtain⟨rfl,rfl,rfl⟩:=hcs
  simp only[if_true] at hmm
  by_cases h0:cap=0
  ·subst h0
   have e:len=0:=by omega
   subst e
   exact⟨_,_,0,0,[],rfl,Nat.le_refl _,fun _=>rfl,.inl rfl,h1,fun j hj=>by simp at hj,fun x hx=>by simp at hx⟩
  ·have hrow: ∀i,i<cap-> ∃k:Nat,k<256/\W.cell? (ad.add i)=some (.int .u8 (k:Int)):=fun i hi=>by
    obtain⟨k1,k2⟩:=hall i (by omega)
    obtain⟨k,e1,e2,e3⟩:=DataW.trod_int Tryz.underlying5 k2
    simp at e1
    have e3:0<=k/\k<256:=by
     simp[Lit.wf,IntKind.min,IntKind.max,IntKind.signed,IntKind.bits] at e3
     omega
    refine⟨k.toNat,by omega,?_⟩
    rw[k1,e1,show ((k.toNat:Nat):Int)=k by omega]
   obtain⟨gb,go,spot⟩:=ad
   have hspot:spot=none:=by
    obtain⟨z,_,hz⟩:=hrow 0 (by omega)
    simpa [Addr.add] using World.cell?_spot hz
   subst hspot
   have hadd: ∀i:Nat,((⟨gb,go,none⟩:Addr).add i)=⟨gb,go+i,none⟩:=fun i=>by unfold Addr.add;(repeat' split)<;>simp_all
   have hlist: ∀n,n<=cap-> ∃xs:List Nat,xs.length=n/\(∀x∈xs,x<256)/\SB W gb go xs:=fun n=>by
    induction n with
    | zero=>exact fun _=>⟨[],rfl,fun x hx=>by simp at hx,fun j hj=>by simp at hj⟩
    | succ n ih=>
     intro hn
     obtain⟨xs,e1,e2,e3⟩:=ih (by omega)
     obtain⟨k,hk,hc⟩:=hrow n (by omega)
     rw[hadd] at hc
     refine⟨xs++[k],by simp[e1],fun x hx=>?_,fun j hj=>?_⟩
     ·rcases List.mem_append.1 hx with h | h
      ·exact e2 x h
      ·simp at h;omega
     ·by_cases hj2:j<xs.length
      ·rw[e3 j hj2]
       simp[List.getElem?_append_left hj2]
      ·have:j=n:=by simp at hj;omega
       subst this
       rw[hc]
       simp[<-e1]
   obtain⟨xs,e1,e2,e3⟩:=hlist len (by omega)
   have hblk:gb<W.heap.size:=by
    obtain⟨z,_,hz⟩:=hrow 0 (by omega)
    rw[hadd] at hz
    exact World.block_lt_of_cell? W _ hz
   subst e1
   exact⟨_,_,gb,go,xs,rfl,hl,fun e=>(by cases e),.inr rfl,hblk,e3,e2⟩
theorem in_pre (L:Nat) {sl:Option Addr} {cap gb go:Nat} {xs:List Nat} {W:World} (k1:xs.length<=cap) (k3:xs.length=0\/sl=some ⟨gb,go,none⟩) (k4:gb<W.heap.size) (k5:SB W gb go xs): ∀u,Bw W u->IN u u.heap.size (.slice sl (xs.take L).length cap) (xs.take L):=fun u hB=>by
 have hl:(xs.take L).length<=xs.length:=by rw[List.length_take];omega
 refine⟨sl,cap,gb,go,rfl,by omega,k3.imp (fun h=>by omega) id,Nat.lt_of_lt_of_le k4 hB.size,fun j hj=>?_⟩
 have hj3:j<L:=by rw[List.length_take] at hj;omega
 rw[hB.cell (p:=⟨gb,go+j,none⟩) k4,k5 j (by omega)]
 simp[List.getElem?_take_of_lt hj3]
theorem min_pre (L:Nat) (xs:List Nat):min (xs.length:Int) L=((xs.take L).length:Int)/\(xs.take L).length<=xs.length/\(xs.take L).length<=L:=by rw[List.length_take];omega
theorem flN_atg: ∀(ns:List Int) (j:Nat) (v:Value),(flN ns)[j]?=some v->j/4<ns.length/\(LN (ns.getD (j/4) 0))[j%4]?=some v
 | [],j,v,h=>by simp[flN] at h
 | n::r,j,v,h=>by
  rw[flN] at h
  by_cases hj:j<4
  ·rw[List.getElem?_append_left (by show j<4;exact hj)] at h
   rw[show j/4=0 by omega,show j%4=j by omega]
   exact⟨by simp,by simpa using h⟩
  ·rw[List.getElem?_append_right (by show 4<=j;omega)] at h
   have h:(flN r)[j -4]?=some v:=h
   have:=flN_atg r (j -4) v h
   rw[show j/4=(j -4)/4+1 by omega,show j%4=(j -4)%4 by omega]
   exact⟨by simpa using this.1,by simpa using this.2⟩
theorem SN.of {w:World} {g o:Nat} {ns:List Int} (h: ∀i,i<ns.length-> ∀c v,(LN (ns.getD i 0))[c]?=some v->w.cell? ⟨g,o+(i*4+c),none⟩=some v):SN w g o ns:=fun j v hj=>by
 obtain⟨h1,h2⟩:=flN_atg ns j v hj
 have:=h _ h1 _ v h2
 rwa [show j/4*4+j%4=j by omega] at this
theorem grpDigests_lifted (os:Go.Os) (started:os.Started) (H:Type) (enc:TypeId×Value->H):
 ReturnsInHanded {} Tryz.checked os 8 .any (fun w args=>(Rows.grpDigestsSpec.pre enc Tryz.prog Tryz.f8 [] false w args/\laidMetH Tryz.prog lstG w)/\sizedMet enc Tryz.prog Tryz.f8 (OpenSpec.ofChange Rows.grpDigestsSpec) false w args)
  (Rows.grpDigestsSpec.post enc Tryz.prog Tryz.f8 false true false false):=by
 refine returnsInHanded_of_change_and (C:=Tryz.checked) (X:=fun w _=>laidMetH Tryz.prog lstG w) (fun _ _ _ hh h=>h.of_heap hh) own4 started (by kernel_rfl) Tryz.func8
  (ChangeSpec.witness_shaped (enc:=enc) (C:=Tryz.checked) (os:=os) (X:=fun w _=>laidMetH Tryz.prog lstG w) false (World.doorLaid Tryz.prog 400 os) #[.slice none 0 0] 8 rfl (World.shaped_of_RefB (by kernel_rfl) (by kernel_rfl)) (by kernel_rfl) (by kernel_rfl) (by kernel_rfl) (doorG os _)) ?_
 intro W base args ds gs before hval0 hW _ _ hL _
 have hval: ∀(j:Nat) t v,Tryz.f8.params[j]?=some t->args[j]?=some v->Value.okWide Tryz.prog W .any base t v:=hval0
 have hW':=hW
 obtain⟨p,q,hA0,hV,rfl,hfz,hnd⟩:=hW
 have hA:DataW.TrodAll enc Tryz.prog W 0 (fun _=>true) true Tryz.f8.params.toList args.toList ds p:=hA0
 rw[Tryz.params8] at hA hval
 obtain⟨v0,d0,rfl,rfl,h0⟩:=trodAll_one hA
 obtain⟨rfl,rfl⟩:=trodVars_none hV
 simp only[List.append_nil] at hW'
 have hGV:=Tb hL
 have hlt: ∀x∈p,x.block<W.heap.size:=fun x hx=>by simpa using hW'.lt x (by simpa using hx)
 have hargs: ∀(W':World),Bw W W'->DataW.Trod enc Tryz.prog W' 0 (fun b=>decide (b<W.heap.size)) true 36 v0 d0 p:=
  fun W' hn=>Below.trod Vy (by kernel_rfl) (of_decide_eq_true (by kernel_rfl)) h0 hn (fun x hx=>hlt x (by simp[hx]))
 have h0k:=h0
 obtain⟨sla,capa,gba,goa,xsa,rfl,k1a,k2a,k3a,k4a,k5a,k6a⟩:=open_by (by have:=hGV.sz;omega) (hval 0 36 v0 rfl rfl) h0k
 obtain⟨m1a,m2a,m3a⟩:=min_pre 200 xsa
 clear hA0 hval0
 have hwalk:=grpDigests_any sla xsa.length capa _ _ W m1a m2a k1a k2a (in_pre 200 k1a k3a k4a k5a) (fun x hx=>k6a x (List.mem_of_mem_take hx)) (by omega) (gPa0 W hGV.v) (gExp W hGV.t) (gIs W hGV.t) (gChk W) (gMem W hGV.v) (gSca W hGV.v)
 refine hwalk.mono fun e W' ⟨he,bel⟩=>?_
 subst he
 exact⟨_,rfl,_,_,_,[],_,[],hW',trodAll_mk1 (shut_bool Tryz.underlying4 _),trodAll_mk1 (hargs _ bel),rfl,bel.frame _,fun h=>by cases h⟩
theorem grpDigests_holds:Rows.GrpDigestsSaid:=
 OpenClaim.holds_of_wide 8 Tryz.f8 rfl rfl rfl rfl rfl rfl rfl ⟨rfl,rfl,rfl,rfl,rfl⟩ rfl rfl rfl rfl rfl (by kernel_rfl) Tryz.func8 (by kernel_rfl)
  (of_decide_eq_true (by kernel_rfl)) (by unfold Func.isWrapper;first | (rw[if_pos (by decide+kernel)];kernel_rfl) | (rw[if_neg (by decide+kernel)];exact⟨rfl,rfl⟩))
  (fun os started H enc _=>grpDigests_lifted os started H enc)
theorem grpDigests_card:Rows.GrpDigestsCardSaid:=
 Claim7.holds_tied_plain_at .later [] [.data,.data,.data,.data,.data] true (true, "c23cea0777dd7d4ec82a202e3326ab7f6e52c60381327f7b88e1805c4f269827") true
  grpDigests_holds (fun _ h=>by cases h) (by kernel_rfl) (fun _ h=>by cases h) grpDigests_row_tie rfl ⟨rfl,rfl⟩ (by kernel_rfl) rfl
  (fun f fn hf hfn=>by
   obtain rfl:f=8:=Option.some.inj ((show Tryz.prog.funcNamed "seneschal/seneschallaw09.GrpDigests" =some 8 by kernel_rfl).symm.trans hf)|>.symm
   obtain rfl:fn=Tryz.f8:=(Option.some.inj (Tryz.func8.symm.trans hfn)).symm
   exact⟨by kernel_rfl,fun j t ht=>by
    rw[Tryz.params8] at ht
    have hm:t∈[36]:=by simpa using Array.mem_of_getElem? ht
    have hall:([36].all fun u=>!Tryz.prog.wantsStandIn u)=true:=by kernel_rfl
    exact(show Tryz.prog.wantsStandIn t=false by simpa using List.all_eq_true.1 hall t hm)⟩)
  (by kernel_rfl)
#print axioms grpDigests_card
end
end Go.Proofs.YtknpepgonhdbgaaGreatDoor
