import Derived.Test.YtoffgfhilkpdpaaGreatDoorXX
namespace Go.Proofs.YtoffgfhilkpdpaaGreatDoor
set_option linter.unusedVariables false
set_option linter.unusedSimpArgs false
set_option maxRecDepth 100000
set_option maxHeartbeats 4000000
open Go.RowKit
theorem bdZ8(w:World):(Instr.build 235 ([]:List (Nat×Value)).toArray).run Tryz.prog w= .ok (.agg (U32 z8).toArray) w:=by kernel_rfl
theorem bs8u(a b c d e f g h:Nat)(w:World):(Instr.buildSlice 121 8 ([0,1,2,3,4,5,6,7].zip [iU (a:Int),iU (b:Int),iU (c:Int),iU (d:Int),iU (e:Int),iU (f:Int),iU (g:Int),iU (h:Int)]).toArray).run Tryz.prog w= .ok (.slice (some ⟨w.heap.size,0,none⟩) 8 8) (w.alloc (.cells (U64 [a,b,c,d,e,f,g,h]).toArray 22)):=by kernel_rfl
theorem Um{l:List Nat}{zs:List Value}{j:Nat}(h:j<l.length):(U64 l++zs)[j]?=some (iU ((l.getD j 0:Nat):Int)):=by
 rw[List.getElem?_append_left (by rw[Y8];exact h),Y0 l j h]
set_option maxHeartbeats 8000000 in
theorem cBlockR_core(ss bs S:List Nat)(rF oF:Nat->List Nat)(w:World)(hss8:ss.length=8)(hbl:bs.length=64)(hSlen:S.length=64)(hbb:Hid (∀j,bs.getD j 0<256))(hsl:Hid (∀j,ss.getD j 0<M32))(hSl:Hid (∀j,S.getD j 0<M32))(hA:Hid (∀i,i<16->S.getD i 0=wd bs i))(hB:Hid (∀t,16<=t->t<64->S.getD t 0=spS S t))(hr0:Hid (rF 0=ss))(hrs:Hid (∀t,rF (t+1)=st8 (rF t) (kcs.getD t 0) (S.getD t 0)))(hrW:Hid (∀t,WW 8 (rF t)))(ho0:Hid (oF 0=z8))(hos:Hid (∀i,oF (i+1)=(oF i).set i (((rF 64).getD i 0+ss.getD i 0)%4294967296)))(hoW:Hid (∀i,WW 8 (oF i))):
 CC 170 #[.agg (U32 ss).toArray,.agg (U8 bs).toArray] w (.agg (U32 (oF 8)).toArray):=by
 go_enter Tryz.func170,Tryz.ntmps170
 go_upto_region 1 with fail
 generalize hC:(((w.alloc (.cells (U32 ss:List Value).toArray 235)).alloc (.cells (U8 bs:List Value).toArray 225)).alloc (.cells (Z8w:List Value).toArray 235))=v0 at *
 have HB0:Bw w v0:=by rw[<-hC];exact Z5 (Z5 (Z5 (Zf w) _) _) _
 have K0:Bk w.heap.size v0 [(true,w.heap.size,U32 ss),(true,w.heap.size+1,U8 bs),(true,w.heap.size+1+1,U32 z8)]:=by rw[<-hC];exact(Bk.nil _ w).ad.ad.ad
 clear hC
 obtain⟨ti,hti,htm⟩:=Option.map_eq_some_iff.1 infoU
 simp only[Prod.mk.injEq] at htm
 obtain⟨hzv,hsz,hby⟩:=htm
 have hlt_ba:=(K0.lt 2)
 refine Rf K0 HB0 [] [] [] [] [] [⟨0,24,some 1,PZ v0.heap.size⟩,⟨1,5,none,PZ v0.heap.size⟩] [] (hst:=(.cons (fun _ _ _ h1 h2=>h2.stab h1)<| .cons (fun _ _ _ h1 h2=>h2.stab h1)<|Stab.nil)) (Oc2 (g_bs 0 (PZ v0.heap.size) bs0u (fun u hu=>PZ.new hu)) (g_sE 0 1 (PZ v0.heap.size))) fun u1 v1_0 hv1_0 v1_1 hv1_1 HB1 _ K1=>?_
 simp only[sQ] at K1⊢
 obtain⟨ba,rfl,ho1ba,ho2ba⟩:=hv1_1 rfl
 have K1_1:Bk w.heap.size u1 [(false,w.heap.size,U32 ss),(false,w.heap.size+1,U8 bs),(false,w.heap.size+1+1,U32 z8),(false,ba,[])]:=⟨.c (K1.lt 0) (K1.cv 0)<| .c (K1.lt 1) (K1.cv 1)<| .c (K1.lt 2) (K1.cv 2)<| .c ho2ba (fun j v h=>by simp at h)<|trivial,by simp;omega⟩
 go_upto_region 2 with fail
 refine Rn K1_1 HB1 [(0,6,_)] (Oc1 g_as) fun u2 HB2 _ K2=>?_
 simp only[sQ] at K2⊢
 go_wp2_with fail
 go_loopw [6,5] (fun s6 s5 wr=> ∃(i b5 c5:Nat) (zs:List Value),i<=16/\s6=iI ((4*i:Nat):Int)/\s5= .slice (some ⟨b5,0,none⟩) i c5/\i<=c5/\zs.length=c5 -i/\w.heap.size+3<=b5/\b5<wr.heap.size/\Hid (CV wr b5 (U64 (S.take i)++zs))/\Hid (CV wr (w.heap.size+1) (U8 bs))/\Hid (CV wr (w.heap.size) (U32 ss))/\Hid (CV wr (w.heap.size+1+1) (U32 z8))/\Bw w wr) (fun s6 _ _=>64 -(intOf s6).toNat)
 case atStart=>exact⟨0,ba,0,[],Z1,rfl,rfl,Z1,rfl,Z1,(K2.lt 3),(fun j v h=>by simp[U64] at h),(K2.cv 1),(K2.cv 0),(K2.cv 2),HB2⟩
 case round=>
  clear ho1ba ho2ba
  obtain⟨i,b5,c5,zs,hi,rfl,rfl,hcc,hzl,hb5,hl5,Kv,Kb,Ks,Kr,HBr⟩:=hrel
  by_cases hj:i<16
  ·have hl1:decide (((4*i:Nat):Int)<64)=true:=by simp;omega
   have hw:=hA.out i hj
   have g0:=Yv bs (4*i) Z1
   have g1:=Yv bs (4*i+1) Z1
   have g2:=Yv bs (4*i+2) Z1
   have g3:=Yv bs (4*i+3) Z1
   have y0:=hbb.out (4*i)
   have y1:=hbb.out (4*i+1)
   have y2:=hbb.out (4*i+2)
   have y3:=hbb.out (4*i+3)
   unfold wd at hw
   obtain⟨sv,esv⟩:=Z3 (S.getD i 0)
   rw[esv] at hw
   obtain⟨x0,ex0⟩:=Z3 (bs.getD (4*i) 0)
   rw[ex0] at g0 y0 hw
   clear ex0
   obtain⟨x1,ex1⟩:=Z3 (bs.getD (4*i+1) 0)
   rw[ex1] at g1 y1 hw
   clear ex1
   obtain⟨x2,ex2⟩:=Z3 (bs.getD (4*i+2) 0)
   rw[ex2] at g2 y2 hw
   clear ex2
   obtain⟨x3,ex3⟩:=Z3 (bs.getD (4*i+3) 0)
   rw[ex3] at g3 y3 hw
   clear ex3
   have hw:Hid _:=hw
   have hnK:=K2.n
   simp at hnK
   have K2_2:Bk w.heap.size wr [(false,w.heap.size,U32 ss),(false,w.heap.size+1,U8 bs),(false,w.heap.size+1+1,U32 z8),(true,b5,U64 (S.take i)++zs)]:=⟨.c Z1 Ks.out<| .c Z1 Kb.out<| .c Z1 Kr.out<| .o hl5 Z1 Kv.out<|trivial,by simp;omega⟩
   go_upto_region 3 with fail
   refine Rn K2_2 HBr [(0,25,_),(1,26,_)] (Oc2 g_mv (g_bn (fun uZ=>Za _ _ ((4*i:Nat):Int) 64 _ uZ hl1))) fun u3 HB3 sz3 K3=>?_
   simp only[sQ] at K3⊢
   go_upto_region 5 with fail
   refine Re K3 HB3 [.no,.no,.no,.all 27 ([])] [] (cG 0 29 [_,_,_,_,_,_,_,_,_,_,_,_,_,_,_,_,_,_,_,_,_,_,_,_,_,_] []) [(28,0),(28,27)] [(28,5)] [⟨26,55,some 27,P1 [iU ((sv:Nat):Int)]⟩,⟨27,56,some 28,PH u3.heap.size b5 ti.size (i+1) (U64 (S.take i)++[iU ((sv:Nat):Int)])⟩,⟨28,5,none,PH u3.heap.size b5 ti.size (i+1) (U64 (S.take i)++[iU ((sv:Nat):Int)])⟩] [true,true,true,false] (Od8 g_mv g_mv (g_ix (fun uZ=>x64b (w.heap.size+1) (4*i) uZ Z1)) (g_lw 1 (4*i) l8 g0) (g_op (fun ev uZ he=>cv864 uZ y0 rfl (he _ _ rfl))) (g_bn (fun uZ=>mul64 _ _ x0 16777216 (x0*16777216) uZ rfl Z1)) g_mv (g_bn (fun uZ=>Zu _ _ ((4*i:Nat):Int) 1 ((4*i+1:Nat):Int) uZ Z1 Z1 Z1))<|Od8 (g_ix (fun uZ=>x64b (w.heap.size+1) (4*i+1) uZ Z1)) (g_lw 1 (4*i+1) l8 g1) (g_op (fun ev uZ he=>cv864 uZ y1 rfl (he _ _ rfl))) (g_bn (fun uZ=>mul64 _ _ x1 65536 (x1*65536) uZ rfl Z1)) (g_bn (fun uZ=>U6 _ _ (x0*16777216) (x1*65536) (x0*16777216+x1*65536) uZ rfl Z1)) g_mv (g_bn (fun uZ=>Zu _ _ ((4*i:Nat):Int) 2 ((4*i+2:Nat):Int) uZ Z1 Z1 Z1)) (g_ix (fun uZ=>x64b (w.heap.size+1) (4*i+2) uZ Z1))<|Od8 (g_lw 1 (4*i+2) l8 g2) (g_op (fun ev uZ he=>cv864 uZ y2 rfl (he _ _ rfl))) (g_bn (fun uZ=>mul64 _ _ x2 256 (x2*256) uZ rfl Z1)) (g_bn (fun uZ=>U6 _ _ (x0*16777216+x1*65536) (x2*256) (x0*16777216+x1*65536+x2*256) uZ rfl Z1)) g_mv (g_bn (fun uZ=>Zu _ _ ((4*i:Nat):Int) 3 ((4*i+3:Nat):Int) uZ Z1 Z1 Z1)) (g_ix (fun uZ=>x64b (w.heap.size+1) (4*i+3) uZ Z1)) (g_lw 1 (4*i+3) l8 g3)<|Oc5 (g_op (fun ev uZ he=>cv864 uZ y3 rfl (he _ _ rfl))) (g_bn (fun uZ=>U6 _ _ (x0*16777216+x1*65536+x2*256) x3 sv uZ hw.out.symm (by have:=hw.out;omega))) (g_bR 0 (P1 [iU ((sv:Nat):Int)]) [0] [iU ((sv:Nat):Int)] [iU ((sv:Nat):Int)] (bs1u sv) (fun u hu=>P1.new _ _ u)) (g_pE 3 0 1 (P1 [iU ((sv:Nat):Int)]) (U64 (S.take i)) zs [iU ((sv:Nat):Int)] Tryz.underlying121 hti hzv (by rw[hsz];rfl) rfl P1.nwu one_u (by rw[hsz];rfl) (by rw[hsz,Y8,List.length_take];omega) (by rw[hsz];omega) hcc (by rw[hby];omega) Z1) (g_sE 1 2 (PH u3.heap.size b5 ti.size (i+1) (U64 (S.take i)++[iU ((sv:Nat):Int)])))) fun u4 v4_26 hv4_26 v4_27 hv4_27 v4_28 hv4_28 HB4 sz4 K4=>?_
   simp only[sQ] at K4⊢
   obtain⟨b6,c6,zs6,rfl,hb6,hl6,hc6,hz6,Kv6⟩:=hv4_28 rfl
   rw[hsz] at hz6
   rw[show U64 (S.take i)++[iU ((sv:Nat):Int)]=U64 (S.take (i+1)) by rw[<-esv];exact U64_one Z1] at Kv6
   have Kv6:Hid _:=Kv6
   have K4_3:Bk w.heap.size u4 [(false,w.heap.size,U32 ss),(false,w.heap.size+1,U8 bs),(false,w.heap.size+1+1,U32 z8),(false,b6,U64 (S.take (i+1))++zs6)]:=⟨.c (K4.lt 0) (K4.cv 0)<| .c (K4.lt 1) (K4.cv 1)<| .c (K4.lt 2) (K4.cv 2)<| .c hl6 Kv6.out<|trivial,by simp;omega⟩
   go_upto_region 4 with fail
   refine Rp K4_3 HB4 [] [] [(0,27,_),(1,28,_),(2,6,_)] [(2,0)] [(2,6)] [] (Oc3 g_mv (g_bn (fun uZ=>Zu _ _ ((4*i:Nat):Int) 4 ((4*(i+1):Nat):Int) uZ Z1 Z1 Z1)) g_as) fun u5 HB5 sz5 K5=>?_
   simp only[sQ] at K5⊢
   go_wp2
   refine⟨⟨i+1,b6,c6,zs6,Z1,rfl,rfl,hc6,Z1,Z1,(K5.lt 3),(K5.cv 3),(K5.cv 1),(K5.cv 0),(K5.cv 2),HB5⟩,?_⟩
   simp[intOf]<;>omega
  ·have hl1:decide (((4*i:Nat):Int)<64)=false:=by simp;omega
   have hi16:i=16:=Z1
   subst hi16
   have hnK:=K2.n
   simp at hnK
   have K2_2:Bk w.heap.size wr [(false,w.heap.size,U32 ss),(false,w.heap.size+1+1,U32 z8),(false,b5,U64 (S.take 16)++zs)]:=⟨.c Z1 Ks.out<| .c Z1 Kr.out<| .c hl5 Kv.out<|trivial,by simp;omega⟩
   go_upto_region 3 with fail
   refine Rn K2_2 HBr [(0,25,_),(1,26,_)] (Oc2 g_mv (g_bn (fun uZ=>Za _ _ ((4*16:Nat):Int) 64 _ uZ hl1))) fun u3 HB3 sz3 K3=>?_
   simp only[sQ] at K3⊢
   go_upto_region 6 with fail
   refine Rn K3 HB3 [(0,7,_)] (Oc1 g_as) fun u4 HB4 sz4 K4=>?_
   simp only[sQ] at K4⊢
   go_wp2_with fail
   go_loopw [7,5] (fun s7 s5 wr=> ∃(t b5 c5:Nat) (zs:List Value),16<=t/\t<=64/\s7=iI ((t:Nat):Int)/\s5= .slice (some ⟨b5,0,none⟩) t c5/\t<=c5/\zs.length=c5 -t/\w.heap.size+3<=b5/\b5<wr.heap.size/\Hid (CV wr b5 (U64 (S.take t)++zs))/\Hid (CV wr (w.heap.size) (U32 ss))/\Hid (CV wr (w.heap.size+1+1) (U32 z8))/\Bw w wr) (fun s7 _ _=>64 -(intOf s7).toNat)
   case atStart=>exact⟨16,b5,c5,zs,Z1,Z1,rfl,rfl,hcc,hzl,hb5,(K4.lt 2),(K4.cv 2),(K4.cv 0),(K4.cv 1),HB4⟩
   case round=>
    clear hcc hzl hb5 hl5 Kv Kb Ks Kr HBr hl1
    obtain⟨t,b5,c5,zs,ht16,ht,rfl,rfl,hcc,hzl,hb5,hl5,Kv,Ks,Kr,HBr⟩:=hrel
    by_cases hj:t<64
    ·have hl1:decide ((t:Int)<64)=true:=by simp;omega
     have hw:=hB.out t ht16 hj
     unfold spS at hw
     rw[<-mod4] at hw
     obtain⟨sv,esv⟩:=Z3 (S.getD t 0)
     rw[esv] at hw
     have gx:(U64 (S.take t)++zs)[t -15]?=_:=U64_tk (zs:=zs) (show t -15<t by omega) (show t<=S.length by omega)
     have lx:=hSl.out (t -15)
     obtain⟨x,ex⟩:=Z3 (S.getD (t -15) 0)
     rw[ex] at gx lx hw
     clear ex
     have gy:(U64 (S.take t)++zs)[t -2]?=_:=U64_tk (zs:=zs) (show t -2<t by omega) (show t<=S.length by omega)
     have ly:=hSl.out (t -2)
     obtain⟨y,ey⟩:=Z3 (S.getD (t -2) 0)
     rw[ey] at gy ly hw
     clear ey
     have ga:(U64 (S.take t)++zs)[t -7]?=_:=U64_tk (zs:=zs) (show t -7<t by omega) (show t<=S.length by omega)
     have la:=hSl.out (t -7)
     obtain⟨a,ea⟩:=Z3 (S.getD (t -7) 0)
     rw[ea] at ga la hw
     clear ea
     have gc:(U64 (S.take t)++zs)[t -16]?=_:=U64_tk (zs:=zs) (show t -16<t by omega) (show t<=S.length by omega)
     have lc:=hSl.out (t -16)
     obtain⟨c,ec⟩:=Z3 (S.getD (t -16) 0)
     rw[ec] at gc lc hw
     clear ec
     have z0:=ls0_lt lx
     have z1:=ls1_lt ly
     obtain⟨q3,eq3⟩:=Z3 (ls1 y+a+ls0 x+c)
     rw[eq3] at hw
     have hq3:q3<18446744073709551616:=by have h1:ls0 x<4294967296:=z0;have h2:ls1 y<4294967296:=z1;have h3:a<4294967296:=la;have h4:c<4294967296:=lc;omega
     have hw:Hid _:=hw.symm
     have hnK:=K4.n
     simp at hnK
     have K4_3:Bk w.heap.size wr [(false,w.heap.size,U32 ss),(false,w.heap.size+1+1,U32 z8),(true,b5,U64 (S.take t)++zs)]:=⟨.c Z1 Ks.out<| .c Z1 Kr.out<| .o hl5 Z1 Kv.out<|trivial,by simp;omega⟩
     go_upto_region 7 with fail
     refine Rn K4_3 HBr [(0,57,_),(1,58,_)] (Oc2 g_mv (g_bn (fun uZ=>Za _ _ (t:Int) 64 _ uZ hl1))) fun u5 HB5 sz5 K5=>?_
     simp only[sQ] at K5⊢
     go_upto_region 9 with fail
     refine Rm K5 HB5 (cG 0 61 [_,_,_,_,_,_,_,_,_,_] [(10,8,_),(11,9,_)]) (Od8 g_mv g_mv (g_bn (fun uZ=>Xi _ _ (t:Int) 15 ((t -15:Nat):Int) uZ Z1 Z1 Z1)) (g_ix (fun uZ=>ixU0 b5 t c5 (t -15) Z1 uZ)) (g_lw 2 (t -15) l64 gx) g_mv g_mv (g_bn (fun uZ=>Xi _ _ (t:Int) 2 ((t -2:Nat):Int) uZ Z1 Z1 Z1))<|Oc4 (g_ix (fun uZ=>ixU0 b5 t c5 (t -2) Z1 uZ)) (g_lw 2 (t -2) l64 gy) g_as g_as) fun u6 HB6 sz6 K6=>?_
     simp only[sQ] at K6⊢
     go_upto_region 10 with fail
     refine Rn K6 HB6 (cG 0 71 [_,_,_,_,_,_,_,_] [(8,10,_)]) (Oc9 g_mv (g_cl Zd (fun uZ=>cTurn x 7 uZ lx Z2)) g_mv (g_cl Zd (fun uZ=>cTurn x 18 uZ lx Z2)) (g_bn (fun uZ=>xor64 _ _ (rotr x 7) (rotr x 18) uZ (Zv lx) (Zv lx))) g_mv (g_cl Ys (fun uZ=>cRightR x 3 uZ Z2)) (g_bn (fun uZ=>xor64 _ _ (rotr x 7^^^rotr x 18) (x>>>3) uZ (Xh (Zv lx) (Zv lx)) (shr_lt lx))) g_as) fun u7 HB7 sz7 K7=>?_
     simp only[sQ] at K7⊢
     go_upto_region 11 with fail
     refine Rn K7 HB7 (cG 0 79 [_,_,_,_,_,_,_,_] [(8,11,_)]) (Oc9 g_mv (g_cl Zd (fun uZ=>cTurn y 17 uZ ly Z2)) g_mv (g_cl Zd (fun uZ=>cTurn y 19 uZ ly Z2)) (g_bn (fun uZ=>xor64 _ _ (rotr y 17) (rotr y 19) uZ (Zv ly) (Zv ly))) g_mv (g_cl Ys (fun uZ=>cRightR y 10 uZ Z2)) (g_bn (fun uZ=>xor64 _ _ (rotr y 17^^^rotr y 19) (y>>>10) uZ (Xh (Zv ly) (Zv ly)) (shr_lt ly))) g_as) fun u8 HB8 sz8 K8=>?_
     simp only[sQ] at K8⊢
     go_upto_region 12 with fail
     refine Re K8 HB8 [.no,.no,.all 18 ([])] [] (cG 0 87 [_,_,_,_,_,_,_,_,_,_,_,_,_,_,_,_,_] []) [(19,0),(19,2),(19,10),(19,18),(18,6),(18,14),(17,14),(16,14),(15,14),(17,6),(16,6),(15,6),(9,6),(7,6)] [(19,5)] [⟨17,104,some 18,P1 [iU ((sv:Nat):Int)]⟩,⟨18,105,some 19,PH u8.heap.size b5 ti.size (t+1) (U64 (S.take t)++[iU ((sv:Nat):Int)])⟩,⟨19,5,none,PH u8.heap.size b5 ti.size (t+1) (U64 (S.take t)++[iU ((sv:Nat):Int)])⟩] [true,true,false] (Od8 g_mv g_mv g_mv g_mv (g_bn (fun uZ=>Xi _ _ (t:Int) 7 ((t -7:Nat):Int) uZ Z1 Z1 Z1)) (g_ix (fun uZ=>ixU0 b5 t c5 (t -7) Z1 uZ)) (g_lw 2 (t -7) l64 ga) (g_bn (fun uZ=>U6 _ _ (ls1 y) a (ls1 y+a) uZ rfl Z1))<|Od8 g_mv (g_bn (fun uZ=>U6 _ _ (ls1 y+a) (ls0 x) (ls1 y+a+ls0 x) uZ rfl Z1)) g_mv g_mv (g_bn (fun uZ=>Xi _ _ (t:Int) 16 ((t -16:Nat):Int) uZ Z1 Z1 Z1)) (g_ix (fun uZ=>ixU0 b5 t c5 (t -16) Z1 uZ)) (g_lw 2 (t -16) l64 gc) (g_bn (fun uZ=>U6 _ _ (ls1 y+a+ls0 x) c q3 uZ eq3 Z1))<|Oc4 (g_cl Zj (fun uZ=>cWrapE q3 sv uZ hq3 hw.out)) (g_bR 0 (P1 [iU ((sv:Nat):Int)]) [0] [iU ((sv:Nat):Int)] [iU ((sv:Nat):Int)] (bs1u sv) (fun u hu=>P1.new _ _ u)) (g_pE 2 0 1 (P1 [iU ((sv:Nat):Int)]) (U64 (S.take t)) zs [iU ((sv:Nat):Int)] Tryz.underlying121 hti hzv (by rw[hsz];rfl) rfl P1.nwu one_u (by rw[hsz];rfl) (by rw[hsz,Y8,List.length_take];omega) (by rw[hsz];omega) hcc (by rw[hby];omega) Z1) (g_sE 1 2 (PH u8.heap.size b5 ti.size (t+1) (U64 (S.take t)++[iU ((sv:Nat):Int)])))) fun u9 v9_17 hv9_17 v9_18 hv9_18 v9_19 hv9_19 HB9 sz9 K9=>?_
     simp only[sQ] at K9⊢
     obtain⟨b6,c6,zs6,rfl,hb6,hl6,hc6,hz6,Kv6⟩:=hv9_19 rfl
     rw[hsz] at hz6
     rw[show U64 (S.take t)++[iU ((sv:Nat):Int)]=U64 (S.take (t+1)) by rw[<-esv];exact U64_one Z1] at Kv6
     have Kv6:Hid _:=Kv6
     have K9_4:Bk w.heap.size u9 [(false,w.heap.size,U32 ss),(false,w.heap.size+1+1,U32 z8),(false,b6,U64 (S.take (t+1))++zs6)]:=⟨.c (K9.lt 0) (K9.cv 0)<| .c (K9.lt 1) (K9.cv 1)<| .c hl6 Kv6.out<|trivial,by simp;omega⟩
     go_upto_region 8 with fail
     refine Rp K9_4 HB9 [] [] [(0,59,_),(1,60,_),(2,7,_)] [(2,0)] [(2,7)] [] (Oc3 g_mv (g_bn (fun uZ=>Zu _ _ ((t:Nat):Int) 1 ((t+1:Nat):Int) uZ Z1 Z1 Z1)) g_as) fun u10 HB10 sz10 K10=>?_
     simp only[sQ] at K10⊢
     go_wp2
     refine⟨⟨t+1,b6,c6,zs6,Z1,Z1,rfl,rfl,hc6,Z1,Z1,(K10.lt 2),(K10.cv 2),(K10.cv 0),(K10.cv 1),HB10⟩,?_⟩
     simp[intOf]<;>omega
    ·have hl1:decide ((t:Int)<64)=false:=by simp;omega
     have ht64:t=64:=Z1
     subst ht64
     have hnK:=K4.n
     simp at hnK
     have K4_3:Bk w.heap.size wr [(false,w.heap.size,U32 ss),(false,w.heap.size+1+1,U32 z8),(false,b5,U64 (S.take 64)++zs)]:=⟨.c Z1 Ks.out<| .c Z1 Kr.out<| .c hl5 Kv.out<|trivial,by simp;omega⟩
     go_upto_region 7 with fail
     refine Rn K4_3 HBr [(0,57,_),(1,58,_)] (Oc2 g_mv (g_bn (fun uZ=>Za _ _ ((64:Nat):Int) 64 _ uZ hl1))) fun u5 HB5 sz5 K5=>?_
     simp only[sQ] at K5⊢
     have hlt5b:=(K5.lt 2)
     have hlt_bc:=(K5.lt 1)
     go_upto_region 13 with fail
     refine Rf K5 HB5 [] [] [] [] [] [⟨0,106,some 1,PZ u5.heap.size⟩,⟨1,12,none,PZ u5.heap.size⟩] [] (hst:=(.cons (fun _ _ _ h1 h2=>h2.stab h1)<| .cons (fun _ _ _ h1 h2=>h2.stab h1)<|Stab.nil)) (Oc2 (g_bs 0 (PZ u5.heap.size) bs0u (fun u hu=>PZ.new hu)) (g_sE 0 1 (PZ u5.heap.size))) fun u6 v6_0 hv6_0 v6_1 hv6_1 HB6 sz6 K6=>?_
     simp only[sQ] at K6⊢
     obtain⟨bc,rfl,ho1bc,ho2bc⟩:=hv6_1 rfl
     have K6_4:Bk w.heap.size u6 [(false,w.heap.size,U32 ss),(false,w.heap.size+1+1,U32 z8),(false,b5,U64 (S.take 64)++zs),(false,bc,[])]:=⟨.c (K6.lt 0) (K6.cv 0)<| .c (K6.lt 1) (K6.cv 1)<| .c (K6.lt 2) (K6.cv 2)<| .c ho2bc (fun j v h=>by simp at h)<|trivial,by simp;omega⟩
     go_upto_region 14 with fail
     refine Rn K6_4 HB6 [(0,13,_)] (Oc1 g_as) fun u7 HB7 sz7 K7=>?_
     simp only[sQ] at K7⊢
     go_wp2_with fail
     obtain⟨zw,ezw⟩:=Z3 zs
     go_loopw [13,12] (fun s13 s12 wr=> ∃(i bs2 cs2:Nat) (zs:List Value),i<=8/\s13=iI ((i:Nat):Int)/\s12= .slice (some ⟨bs2,0,none⟩) i cs2/\i<=cs2/\zs.length=cs2 -i/\w.heap.size+3<=bs2/\bs2≠b5/\bs2<wr.heap.size/\Hid (CV wr bs2 (U64 (ss.take i)++zs))/\b5<wr.heap.size/\Hid (CV wr b5 (U64 (S.take 64)++zw))/\Hid (CV wr (w.heap.size) (U32 ss))/\Hid (CV wr (w.heap.size+1+1) (U32 z8))/\Bw w wr) (fun s13 _ _=>8 -(intOf s13).toNat)
     case atStart=>exact⟨0,bc,0,[],Z1,rfl,rfl,Z1,rfl,Z1,Z1,(K7.lt 3),(fun j v h=>by simp[U64] at h),(K7.lt 2),(by rw[<-ezw];exact(K7.cv 2)),(K7.cv 0),(K7.cv 1),HB7⟩
     case round=>
      clear ho1bc ho2bc hl5 Kv Ks Kr HBr hl1 ezw hzl hcc
      obtain⟨i,bs2,cs2,zs,hi,rfl,rfl,hcc,hzl,hbs2,hne5,hls2,Kv,hl5,Kw,Ks,Kr,HBr⟩:=hrel
      by_cases hj:i<8
      ·have hl1:decide ((i:Int)<8)=true:=by simp;omega
       have gs:=U32_get ss i Z1
       have lsv:=hsl.out i
       obtain⟨sv,esv⟩:=Z3 (ss.getD i 0)
       rw[esv] at gs lsv
       have hnK:=K7.n
       simp at hnK
       have K7_5:Bk w.heap.size wr [(false,w.heap.size,U32 ss),(false,w.heap.size+1+1,U32 z8),(false,b5,U64 (S.take 64)++zw),(true,bs2,U64 (ss.take i)++zs)]:=⟨.c Z1 Ks.out<| .c Z1 Kr.out<| .c hl5 Kw.out<| .o hls2 Z1 Kv.out<|trivial,by simp;omega⟩
       go_upto_region 15 with fail
       refine Rn K7_5 HBr [(0,107,_),(1,108,_)] (Oc2 g_mv (g_bn (fun uZ=>Za _ _ (i:Int) 8 _ uZ hl1))) fun u8 HB8 sz8 K8=>?_
       simp only[sQ] at K8⊢
       go_upto_region 17 with fail
       refine Rf K8 HB8 [.no,.no,.no,.all 6 ([])] [] (cG 0 111 [_,_,_,_,_] []) [(7,0),(7,6)] [(7,12)] [⟨5,116,some 6,P1 [iU ((sv:Nat):Int)]⟩,⟨6,117,some 7,PH u8.heap.size bs2 ti.size (i+1) (U64 (ss.take i)++[iU ((sv:Nat):Int)])⟩,⟨7,12,none,PH u8.heap.size bs2 ti.size (i+1) (U64 (ss.take i)++[iU ((sv:Nat):Int)])⟩] [true,true,true,false] (Oc8 g_mv g_mv (g_ix (fun uZ=>x8 (w.heap.size) i uZ hj)) (g_lw 0 i l32 gs) (g_op (fun ev uZ he=>cv3264 uZ lsv rfl (he _ _ rfl))) (g_bR 0 (P1 [iU ((sv:Nat):Int)]) [0] [iU ((sv:Nat):Int)] [iU ((sv:Nat):Int)] (bs1u sv) (fun u hu=>P1.new _ _ u)) (g_pE 3 0 1 (P1 [iU ((sv:Nat):Int)]) (U64 (ss.take i)) zs [iU ((sv:Nat):Int)] Tryz.underlying121 hti hzv (by rw[hsz];rfl) rfl P1.nwu one_u (by rw[hsz];rfl) (by rw[hsz,Y8,List.length_take];omega) (by rw[hsz];omega) hcc (by rw[hby];omega) Z1) (g_sE 1 2 (PH u8.heap.size bs2 ti.size (i+1) (U64 (ss.take i)++[iU ((sv:Nat):Int)])))) fun u9 v9_5 hv9_5 v9_6 hv9_6 v9_7 hv9_7 HB9 sz9 K9=>?_
       simp only[sQ] at K9⊢
       obtain⟨b6,c6,zs6,rfl,hb6,hl6,hc6,hz6,Kv6⟩:=hv9_7 rfl
       rw[hsz] at hz6
       rw[show U64 (ss.take i)++[iU ((sv:Nat):Int)]=U64 (ss.take (i+1)) by rw[<-esv];exact U64_one Z1] at Kv6
       have Kv6:Hid _:=Kv6
       have K9_6:Bk w.heap.size u9 [(false,w.heap.size,U32 ss),(false,w.heap.size+1+1,U32 z8),(false,b5,U64 (S.take 64)++zw),(false,b6,U64 (ss.take (i+1))++zs6)]:=⟨.c (K9.lt 0) (K9.cv 0)<| .c (K9.lt 1) (K9.cv 1)<| .c (K9.lt 2) (K9.cv 2)<| .c hl6 Kv6.out<|trivial,by simp;omega⟩
       go_upto_region 16 with fail
       refine Rp K9_6 HB9 [] [] [(0,109,_),(1,110,_),(2,13,_)] [(2,0)] [(2,13)] [] (Oc3 g_mv (g_bn (fun uZ=>Zu _ _ ((i:Nat):Int) 1 ((i+1:Nat):Int) uZ Z1 Z1 Z1)) g_as) fun u10 HB10 sz10 K10=>?_
       simp only[sQ] at K10⊢
       go_wp2
       refine⟨⟨i+1,b6,c6,zs6,Z1,rfl,rfl,hc6,Z1,Z1,Z1,(K10.lt 3),(K10.cv 3),(K10.lt 2),(K10.cv 2),(K10.cv 0),(K10.cv 1),HB10⟩,?_⟩
       simp[intOf]<;>omega
      ·have hl1:decide ((i:Int)<8)=false:=by simp;omega
       have hi8:i=8:=Z1
       subst hi8
       have ess:ss.take 8=rF 0:=by rw[List.take_of_length_le Z1,hr0.out]
       rw[ess] at Kv
       have hnK:=K7.n
       simp at hnK
       have K7_5:Bk w.heap.size wr [(false,w.heap.size,U32 ss),(false,w.heap.size+1+1,U32 z8),(false,b5,U64 (S.take 64)++zw),(false,bs2,U64 (rF 0)++zs)]:=⟨.c Z1 Ks.out<| .c Z1 Kr.out<| .c hl5 Kw.out<| .c hls2 Kv.out<|trivial,by simp;omega⟩
       go_upto_region 15 with fail
       refine Rn K7_5 HBr [(0,107,_),(1,108,_)] (Oc2 g_mv (g_bn (fun uZ=>Za _ _ ((8:Nat):Int) 8 _ uZ hl1))) fun u8 HB8 sz8 K8=>?_
       simp only[sQ] at K8⊢
       have hlt3:=(K8.lt 2)
       have hlt4:=(K8.lt 3)
       have hlo3:=HB8.size
       go_upto_region 18 with fail
       refine Rf K8 HB8 [] [] [] [] [] [⟨0,118,some 1,PS u8.heap.size 64 (U64 kcs)⟩,⟨1,14,none,PS u8.heap.size 64 (U64 kcs)⟩] [] (hst:=(.cons (fun _ _ _ h1 h2=>h2.stab h1)<| .cons (fun _ _ _ h1 h2=>h2.stab h1)<|Stab.nil)) (Oc2 (g_cE 0 (PS u8.heap.size 64 (U64 kcs)) Xj (fun u hB hs=>(cConstants u).mono fun e u2 ⟨v,e1,h1,h2⟩=>⟨v,e1,h1.mono hs,h2⟩)) (g_sE 0 1 (PS u8.heap.size 64 (U64 kcs)))) fun u9 v9_0 hv9_0 v9_1 hv9_1 HB9 sz9 K9=>?_
       simp only[sQ] at K9⊢
       obtain⟨bk,ck,rfl,hok1,hok2,hokc,hokC⟩:=hv9_1 rfl
       have K9_6:Bk w.heap.size u9 [(false,w.heap.size,U32 ss),(false,w.heap.size+1+1,U32 z8),(false,b5,U64 (S.take 64)++zw),(false,bs2,U64 (rF 0)++zs),(false,bk,U64 kcs)]:=⟨.c (K9.lt 0) (K9.cv 0)<| .c (K9.lt 1) (K9.cv 1)<| .c (K9.lt 2) (K9.cv 2)<| .c (K9.lt 3) (K9.cv 3)<| .c hok2 hokC<|trivial,by simp;omega⟩
       go_upto_region 19 with fail
       refine Rn K9_6 HB9 [(0,15,_)] (Oc1 g_as) fun u10 HB10 sz10 K10=>?_
       simp only[sQ] at K10⊢
       go_wp2_with fail
       go_loopw [15,12] (fun s15 s12 wr=> ∃(t bs2 cs2:Nat) (zs:List Value),t<=64/\s15=iI ((t:Nat):Int)/\s12= .slice (some ⟨bs2,0,none⟩) 8 cs2/\w.heap.size+3<=bs2/\bs2≠b5/\bs2≠bk/\bs2<wr.heap.size/\Hid (CV wr bs2 (U64 (rF t)++zs))/\b5<wr.heap.size/\Hid (CV wr b5 (U64 (S.take 64)++zw))/\bk<wr.heap.size/\Hid (CV wr bk (U64 kcs))/\Hid (CV wr (w.heap.size) (U32 ss))/\Hid (CV wr (w.heap.size+1+1) (U32 z8))/\Bw w wr) (fun s15 _ _=>64 -(intOf s15).toNat)
       case atStart=>exact⟨0,bs2,cs2,zs,Z1,rfl,rfl,hbs2,hne5,Z1,(K10.lt 3),(K10.cv 3),(K10.lt 2),(K10.cv 2),(K10.lt 4),(K10.cv 4),(K10.cv 0),(K10.cv 1),HB10⟩
       case round=>
        clear hl5 Kv Kw Ks Kr HBr hl1 hcc hzl hls2 hok2 hokC ess
        have hbk5:w.heap.size+3<=bk/\bk≠b5:=Z1
        clear hbs2 hne5
        obtain⟨t,bs2,cs2,zs,ht,rfl,rfl,hbs2,hne5,hnek,hls2,Kv,hl5,Kw,hlk,Kk,Ks,Kr,HBr⟩:=hrel
        by_cases hj:t<64
        ·have hl1:decide ((t:Int)<64)=true:=by simp;omega
         have hst:=hrs.out t
         have hrl:=(hrW.out t).len
         unfold st8 tw1 tw2 at hst
         have gk:(U64 kcs)[t]?=_:=Y0 kcs t (show t<kcs.length from hj)
         have gw:(U64 (S.take 64)++zw)[t]?=_:=U64_tk (zs:=zw) hj (show 64<=S.length by omega)
         have lk:=kcs_lt t hj
         have lw:=hSl.out t
         obtain⟨kk,ekk⟩:=Z3 (kcs.getD t 0)
         obtain⟨wt,ewt⟩:=Z3 (S.getD t 0)
         rw[ekk] at gk lk hst
         rw[ewt] at gw lw hst
         clear ekk ewt
         have g0:(U64 (rF t)++zs)[0]?=_:=Um (zs:=zs) (show 0<(rF t).length by omega)
         have l0:=(hrW.out t).lt 0
         obtain⟨s0,es0⟩:=Z3 ((rF t).getD 0 0)
         rw[es0] at g0 l0 hst
         clear es0
         have g1:(U64 (rF t)++zs)[1]?=_:=Um (zs:=zs) (show 1<(rF t).length by omega)
         have l1:=(hrW.out t).lt 1
         obtain⟨s1,es1⟩:=Z3 ((rF t).getD 1 0)
         rw[es1] at g1 l1 hst
         clear es1
         have g2:(U64 (rF t)++zs)[2]?=_:=Um (zs:=zs) (show 2<(rF t).length by omega)
         have l2:=(hrW.out t).lt 2
         obtain⟨s2,es2⟩:=Z3 ((rF t).getD 2 0)
         rw[es2] at g2 l2 hst
         clear es2
         have g3:(U64 (rF t)++zs)[3]?=_:=Um (zs:=zs) (show 3<(rF t).length by omega)
         have l3:=(hrW.out t).lt 3
         obtain⟨s3,es3⟩:=Z3 ((rF t).getD 3 0)
         rw[es3] at g3 l3 hst
         clear es3
         have g4:(U64 (rF t)++zs)[4]?=_:=Um (zs:=zs) (show 4<(rF t).length by omega)
         have l4:=(hrW.out t).lt 4
         obtain⟨s4,es4⟩:=Z3 ((rF t).getD 4 0)
         rw[es4] at g4 l4 hst
         clear es4
         have g5:(U64 (rF t)++zs)[5]?=_:=Um (zs:=zs) (show 5<(rF t).length by omega)
         have l5:=(hrW.out t).lt 5
         obtain⟨s5,es5⟩:=Z3 ((rF t).getD 5 0)
         rw[es5] at g5 l5 hst
         clear es5
         have g6:(U64 (rF t)++zs)[6]?=_:=Um (zs:=zs) (show 6<(rF t).length by omega)
         have l6:=(hrW.out t).lt 6
         obtain⟨s6,es6⟩:=Z3 ((rF t).getD 6 0)
         rw[es6] at g6 l6 hst
         clear es6
         have g7:(U64 (rF t)++zs)[7]?=_:=Um (zs:=zs) (show 7<(rF t).length by omega)
         have l7:=(hrW.out t).lt 7
         obtain⟨s7,es7⟩:=Z3 ((rF t).getD 7 0)
         rw[es7] at g7 l7 hst
         clear es7
         rw[<-mod5 s7 (gs1 s4) (chN s4 s5 s6) kk wt] at hst
         have z1:gs1 s4<4294967296:=gs1_lt l4
         have z2:chN s4 s5 s6<4294967296:=ch_lt l5 l6
         have z3:gs0 s0<4294967296:=gs0_lt l0
         have z4:maN s0 s1 s2<4294967296:=ma_lt l1 l2
         have l7b:s7<4294967296:=l7
         have l3b:s3<4294967296:=l3
         have l4b:s4<4294967296:=l4
         have lkb:kk<4294967296:=lk
         have lwb:wt<4294967296:=lw
         obtain⟨q4,eq4⟩:=Z3 (s7+gs1 s4+chN s4 s5 s6+kk+wt)
         obtain⟨q5,eq5⟩:=Z3 (gs0 s0+maN s0 s1 s2)
         have hq4:q4<18446744073709551616:=Z1
         have hq5:q5<18446744073709551616:=Z1
         rw[eq4,eq5] at hst
         obtain⟨T1,eT1⟩:=Z3 (q4%4294967296)
         obtain⟨T2,eT2⟩:=Z3 (q5%4294967296)
         have hT1:T1<4294967296:=by rw[<-eT1];exact Nat.mod_lt _ Z2
         have hT2:T2<4294967296:=by rw[<-eT2];exact Nat.mod_lt _ Z2
         rw[eT1,eT2] at hst
         obtain⟨n0,en0⟩:=Z3 ((T1+T2)%4294967296)
         obtain⟨n4,en4⟩:=Z3 ((s3+T1)%4294967296)
         rw[en0,en4] at hst
         have hst:Hid _:=hst
         have hnK:=K10.n
         simp at hnK
         have K10_7:Bk w.heap.size wr [(false,w.heap.size,U32 ss),(false,w.heap.size+1+1,U32 z8),(false,b5,U64 (S.take 64)++zw),(false,bk,U64 kcs),(false,bs2,U64 (rF t)++zs)]:=⟨.c Z1 Ks.out<| .c Z1 Kr.out<| .c hl5 Kw.out<| .c hlk Kk.out<| .c hls2 Kv.out<|trivial,by simp;omega⟩
         go_upto_region 20 with fail
         refine Rn K10_7 HBr [(0,119,_),(1,120,_)] (Oc2 g_mv (g_bn (fun uZ=>Za _ _ (t:Int) 64 _ uZ hl1))) fun u11 HB11 sz11 K11=>?_
         simp only[sQ] at K11⊢
         go_upto_region 22 with fail
         refine Rm K11 HB11 (cG 0 123 [_,_,_,_,_,_] [(6,16,_),(7,17,_)]) (Oc8 g_mv (g_ix (fun uZ=>ixU0 bs2 8 cs2 0 Z2 uZ)) (g_lw 4 (0) l64 g0) g_mv (g_ix (fun uZ=>ixU0 bs2 8 cs2 4 Z2 uZ)) (g_lw 4 (4) l64 g4) g_as g_as) fun u12 HB12 sz12 K12=>?_
         simp only[sQ] at K12⊢
         go_upto_region 23 with fail
         refine Rm K12 HB12 (cG 0 129 [_,_,_,_,_,_,_,_,_,_,_,_] [(12,18,_)]) (Od8 g_mv g_mv (g_ix (fun uZ=>ixU0 bs2 8 cs2 5 Z2 uZ)) (g_lw 4 (5) l64 g5) (g_bn (fun uZ=>and64 _ _ s4 s5 uZ l4 l5)) g_mv (g_bn (fun uZ=>sub64 _ _ 4294967295 s4 uZ Z1 Z2)) g_mv<|Oc5 (g_ix (fun uZ=>ixU0 bs2 8 cs2 6 Z2 uZ)) (g_lw 4 (6) l64 g6) (g_bn (fun uZ=>and64 _ _ (4294967295 -s4) s6 uZ (show 4294967295 -s4<4294967296 by omega) l6)) (g_bn (fun uZ=>(xor64 _ _ (s4&&&s5) ((4294967295 -s4)&&&s6) uZ (Wq l5) (Wq l6)).trans (by rw[choice_is l4]))) g_as) fun u13 HB13 sz13 K13=>?_
         simp only[sQ] at K13⊢
         go_upto_region 24 with fail
         refine Rm K13 HB13 (cG 0 141 [_,_,_,_,_,_,_,_,_,_,_,_,_,_,_,_,_,_,_] [(19,19,_)]) (Od8 g_mv g_mv (g_ix (fun uZ=>ixU0 bs2 8 cs2 1 Z2 uZ)) (g_lw 4 (1) l64 g1) (g_bn (fun uZ=>and64 _ _ s0 s1 uZ l0 l1)) g_mv g_mv (g_ix (fun uZ=>ixU0 bs2 8 cs2 2 Z2 uZ))<|Od8 (g_lw 4 (2) l64 g2) (g_bn (fun uZ=>and64 _ _ s0 s2 uZ l0 l2)) (g_bn (fun uZ=>xor64 _ _ (s0&&&s1) (s0&&&s2) uZ (Wq l1) (Wq l2))) g_mv (g_ix (fun uZ=>ixU0 bs2 8 cs2 1 Z2 uZ)) (g_lw 4 (1) l64 g1) g_mv (g_ix (fun uZ=>ixU0 bs2 8 cs2 2 Z2 uZ))<|Oc4 (g_lw 4 (2) l64 g2) (g_bn (fun uZ=>and64 _ _ s1 s2 uZ l1 l2)) (g_bn (fun uZ=>xor64 _ _ ((s0&&&s1)^^^(s0&&&s2)) (s1&&&s2) uZ (Xh (Wq l1) (Wq l2)) (Wq l2))) g_as) fun u14 HB14 sz14 K14=>?_
         simp only[sQ] at K14⊢
         go_upto_region 25 with fail
         refine Rm K14 HB14 (cG 0 160 [_,_,_,_,_,_,_,_,_,_,_,_,_,_,_,_,_,_,_,_,_,_,_,_,_] [(25,20,_)]) (Od8 g_mv (g_ix (fun uZ=>ixU0 bs2 8 cs2 7 Z2 uZ)) (g_lw 4 (7) l64 g7) g_mv (g_cl Zd (fun uZ=>cTurn s4 6 uZ l4 Z2)) g_mv (g_cl Zd (fun uZ=>cTurn s4 11 uZ l4 Z2)) (g_bn (fun uZ=>xor64 _ _ (rotr s4 6) (rotr s4 11) uZ (Zv l4) (Zv l4)))<|Od8 g_mv (g_cl Zd (fun uZ=>cTurn s4 25 uZ l4 Z2)) (g_bn (fun uZ=>xor64 _ _ (rotr s4 6^^^rotr s4 11) (rotr s4 25) uZ (Xh (Zv l4) (Zv l4)) (Zv l4))) (g_bn (fun uZ=>U6 _ _ s7 (gs1 s4) (s7+gs1 s4) uZ rfl Z1)) g_mv (g_bn (fun uZ=>U6 _ _ (s7+gs1 s4) (chN s4 s5 s6) (s7+gs1 s4+chN s4 s5 s6) uZ rfl Z1)) g_mv g_mv<|Oc10 (g_ix (ixU0 bk 64 ck t hj)) (g_lw 3 t l64 gk) (g_bn (fun uZ=>U6 _ _ (s7+gs1 s4+chN s4 s5 s6) kk (s7+gs1 s4+chN s4 s5 s6+kk) uZ rfl Z1)) g_mv g_mv (g_ix (ixU0 b5 64 c5 t hj)) (g_lw 2 t l64 gw) (g_bn (fun uZ=>U6 _ _ (s7+gs1 s4+chN s4 s5 s6+kk) wt q4 uZ eq4 hq4)) (g_cl Zj (fun uZ=>cWrapE q4 T1 uZ hq4 eT1)) g_as) fun u15 HB15 sz15 K15=>?_
         simp only[sQ] at K15⊢
         go_upto_region 26 with fail
         refine Rn K15 HB15 (cG 0 185 [_,_,_,_,_,_,_,_,_,_,_] [(11,21,_)]) (Od8 g_mv (g_cl Zd (fun uZ=>cTurn s0 2 uZ l0 Z2)) g_mv (g_cl Zd (fun uZ=>cTurn s0 13 uZ l0 Z2)) (g_bn (fun uZ=>xor64 _ _ (rotr s0 2) (rotr s0 13) uZ (Zv l0) (Zv l0))) g_mv (g_cl Zd (fun uZ=>cTurn s0 22 uZ l0 Z2)) (g_bn (fun uZ=>xor64 _ _ (rotr s0 2^^^rotr s0 13) (rotr s0 22) uZ (Xh (Zv l0) (Zv l0)) (Zv l0)))<|Oc4 g_mv (g_bn (fun uZ=>U6 _ _ (gs0 s0) (maN s0 s1 s2) q5 uZ eq5 hq5)) (g_cl Zj (fun uZ=>cWrapE q5 T2 uZ hq5 eT2)) g_as) fun u16 HB16 sz16 K16=>?_
         simp only[sQ] at K16⊢
         go_upto_region 27 with fail
         refine Re K16 HB16 [] [] (cG 0 196 [_,_,_,_,_,_,_,_,_,_,_,_,_,_,_,_,_,_,_,_,_,_,_,_,_,_,_,_] []) [(29,4),(29,7),(29,10),(29,13),(29,19),(29,22),(29,25)] [(29,12)] [⟨28,224,some 29,PS u16.heap.size 8 (U64 [n0,s0,s1,s2,n4,s4,s5,s6])⟩,⟨29,12,none,PS u16.heap.size 8 (U64 [n0,s0,s1,s2,n4,s4,s5,s6])⟩] [] (Od8 g_mv g_mv (g_bn (fun uZ=>U6 _ _ T1 T2 (T1+T2) uZ rfl Z1)) (g_cl Zj (fun uZ=>cWrapE (T1+T2) n0 uZ Z1 en0)) g_mv (g_ix (fun uZ=>ixU0 bs2 8 cs2 0 Z2 uZ)) (g_lw 4 (0) l64 g0) g_mv<|Od8 (g_ix (fun uZ=>ixU0 bs2 8 cs2 1 Z2 uZ)) (g_lw 4 (1) l64 g1) g_mv (g_ix (fun uZ=>ixU0 bs2 8 cs2 2 Z2 uZ)) (g_lw 4 (2) l64 g2) g_mv (g_ix (fun uZ=>ixU0 bs2 8 cs2 3 Z2 uZ)) (g_lw 4 (3) l64 g3)<|Od8 g_mv (g_bn (fun uZ=>U6 _ _ s3 T1 (s3+T1) uZ rfl Z1)) (g_cl Zj (fun uZ=>cWrapE (s3+T1) n4 uZ Z1 en4)) g_mv (g_ix (fun uZ=>ixU0 bs2 8 cs2 4 Z2 uZ)) (g_lw 4 (4) l64 g4) g_mv (g_ix (fun uZ=>ixU0 bs2 8 cs2 5 Z2 uZ))<|Oc6 (g_lw 4 (5) l64 g5) g_mv (g_ix (fun uZ=>ixU0 bs2 8 cs2 6 Z2 uZ)) (g_lw 4 (6) l64 g6) (g_bR 0 (PS u16.heap.size 8 (U64 [n0,s0,s1,s2,n4,s4,s5,s6])) [0,1,2,3,4,5,6,7] [iU ((n0:Nat):Int),iU ((s0:Nat):Int),iU ((s1:Nat):Int),iU ((s2:Nat):Int),iU ((n4:Nat):Int),iU ((s4:Nat):Int),iU ((s5:Nat):Int),iU ((s6:Nat):Int)] (U64 [n0,s0,s1,s2,n4,s4,s5,s6]) (bs8u _ _ _ _ _ _ _ _) (fun u hu=>PS.new 8 _ _ u hu)) (g_sE 0 1 (PS u16.heap.size 8 (U64 [n0,s0,s1,s2,n4,s4,s5,s6])))) fun u17 v17_28 hv17_28 v17_29 hv17_29 HB17 _ K17=>?_
         simp only[sQ] at K17⊢
         skip
         obtain⟨b6,c6,rfl,hb6,hl6,hc6,Kv6⟩:=hv17_29 rfl
         rw[<-hst.out] at Kv6
         have Kv6:Hid _:=Kv6
         have K17_8:Bk w.heap.size u17 [(false,w.heap.size,U32 ss),(false,w.heap.size+1+1,U32 z8),(false,b5,U64 (S.take 64)++zw),(false,bk,U64 kcs),(false,b6,U64 (rF (t+1)))]:=⟨.c (K17.lt 0) (K17.cv 0)<| .c (K17.lt 1) (K17.cv 1)<| .c (K17.lt 2) (K17.cv 2)<| .c (K17.lt 3) (K17.cv 3)<| .c hl6 Kv6.out<|trivial,by simp;omega⟩
         go_upto_region 21 with fail
         refine Rp K17_8 HB17 [] [] [(0,121,_),(1,122,_),(2,15,_)] [(2,0)] [(2,15)] [] (Oc3 g_mv (g_bn (fun uZ=>Zu _ _ ((t:Nat):Int) 1 ((t+1:Nat):Int) uZ Z1 Z1 Z1)) g_as) fun u18 HB18 _ K18=>?_
         simp only[sQ] at K18⊢
         go_wp2
         refine⟨⟨t+1,b6,c6,[],Z1,rfl,rfl,Z1,Z1,Z1,(K18.lt 4),(by rw[List.append_nil];exact(K18.cv 4)),(K18.lt 2),(K18.cv 2),(K18.lt 3),(K18.cv 3),(K18.cv 0),(K18.cv 1),HB18⟩,?_⟩
         simp[intOf]<;>omega
        ·have hl1:decide ((t:Int)<64)=false:=by simp;omega
         have ht64:t=64:=Z1
         subst ht64
         have hvl:=(hrW.out 64).len
         have hvW:=(hrW.out 64).lt
         obtain⟨vs,evs⟩:=Z3 (rF 64)
         have hos:=hos.out
         rw[evs] at Kv hvl hvW hos
         have hos:Hid _:=hos
         clear evs
         have hnK:=K10.n
         simp at hnK
         have K10_7:Bk w.heap.size wr [(false,w.heap.size,U32 ss),(true,w.heap.size+1+1,U32 z8),(false,bs2,U64 (vs)++zs)]:=⟨.c Z1 Ks.out<| .o Z1 Z1 Kr.out<| .c hls2 Kv.out<|trivial,by simp;omega⟩
         go_upto_region 20 with fail
         refine Rn K10_7 HBr [(0,119,_),(1,120,_)] (Oc2 g_mv (g_bn (fun uZ=>Za _ _ ((64:Nat):Int) 64 _ uZ hl1))) fun u11 HB11 sz11 K11=>?_
         simp only[sQ] at K11⊢
         go_upto_region 28 with fail
         refine Rp K11 HB11 [] [(1,22,U32 z8,some (2,U32 z8))] [(0,225,_)] [(2,1)] [] [] (Oc3 (g_bd bdZ8) (g_al 0 Th) (g_sn 0 Zy (h1:=T6 _) (hm:=by rw[Ye,(show z8.length=8 from rfl)]) (hl:=by first | rw[Ye,Ye,(show z8.length=8 from rfl),(show z8.length=8 from rfl)] | rfl))) fun u12 b12_1 HB12 sz12 K12=>?_
         simp only[sQ] at K12⊢
         go_upto_region 29 with fail
         refine Rn K12 HB12 [(0,23,_)] (Oc1 g_as) fun u13 HB13 sz13 K13=>?_
         simp only[sQ] at K13⊢
         have hnd:=K13.n
         simp at hnd
         have hloo:=K13.lo 3
         go_wp2_with fail
         go_loopw [23] (fun s23 wr=> ∃(i:Nat),i<=8/\s23=iI ((i:Nat):Int)/\b12_1<wr.heap.size/\Hid (CV wr b12_1 (U32 (oF i)))/\bs2<wr.heap.size/\Hid (CV wr bs2 (U64 (vs)++zs))/\Hid (CV wr (w.heap.size) (U32 ss))/\Hid (CV wr (w.heap.size+1+1) (U32 z8))/\Bw w wr) (fun s23 _=>8 -(intOf s23).toNat)
         case atStart=>exact⟨0,Z1,rfl,(K13.lt 3),(by rw[ho0.out];exact(K13.cv 3)),(K13.lt 2),(K13.cv 2),(K13.cv 0),(K13.cv 1),HB13⟩
         case round=>
          clear Kv Ks Kr HBr hl1 hls2
          obtain⟨i,hi,rfl,hlo,Ko,hls2,Kv,Ks,Kr,HBr⟩:=hrel
          by_cases hj:i<8
          ·have hl1:decide ((i:Int)<8)=true:=by simp;omega
           have hS:=hos.out i
           have hoW:=(hoW.out i).len
           have gv:(U64 vs++zs)[i]?=_:=Um (zs:=zs) (show i<vs.length by omega)
           have lv:=hvW i
           have gs:=U32_get ss i Z1
           have lsv:=hsl.out i
           obtain⟨ol,eol⟩:=Z3 (oF i)
           obtain⟨x,ex⟩:=Z3 (vs.getD i 0)
           obtain⟨y,ey⟩:=Z3 (ss.getD i 0)
           rw[eol] at hS hoW Ko
           rw[ex] at hS gv lv
           rw[ey] at hS gs lsv
           have go:=U32_get ol i Z1
           obtain⟨y2,ey2⟩:=Z3 (ol.getD i 0)
           rw[ey2] at go
           have lv2:x<4294967296:=lv
           have lsv2:y<4294967296:=lsv
           obtain⟨z,ez⟩:=Z3 ((x+y)%4294967296)
           have hz:z<M32:=by rw[<-ez];exact Nat.mod_lt _ Z2
           rw[ez] at hS
           have hS:Hid _:=hS
           clear eol ex ey ey2
           have hnK:=K13.n
           simp at hnK
           have hoK3:=K13.lo 3
           have K13_8:Bk w.heap.size wr [(false,w.heap.size,U32 ss),(false,w.heap.size+1+1,U32 z8),(false,bs2,U64 (vs)++zs),(true,b12_1,U32 ol)]:=⟨.c Z1 Ks.out<| .c Z1 Kr.out<| .c hls2 Kv.out<| .o hlo Z1 Ko.out<|trivial,by simp;omega⟩
           go_upto_region 30 with fail
           refine Rn K13_8 HBr [(0,226,_),(1,227,_)] (Oc2 g_mv (g_bn (fun uZ=>Za _ _ (i:Int) 8 _ uZ hl1))) fun u14 HB14 sz14 K14=>?_
           simp only[sQ] at K14⊢
           go_upto_region 32 with fail
           refine Rd K14 HB14 [.no,.no,.no,.all 13 (U32 (ol.set i z))] [] (cG 0 230 [_,_,_,_,_,_,_,_,_,_,_,_,_] []) [] [] [] (Od8 g_mv g_mv g_mv (g_ix (ixU0 bs2 8 cs2 i hj)) (g_lw 2 i l64 gv) g_mv (g_ix (fun uZ=>x8 (w.heap.size) i uZ hj)) (g_lw 0 i l32 gs)<|Oc6 (g_op (fun ev uZ he=>cv3264 uZ lsv rfl (he _ _ rfl))) (g_bn (fun uZ=>U6 _ _ x y (x+y) uZ rfl Z1)) (g_cl Zj (fun uZ=>cWrapE (x+y) z uZ Z1 ez)) (g_op (fun ev uZ he=>cv6432 uZ hz rfl (he _ _ rfl))) (g_ix (fun uZ=>x8 b12_1 i uZ hj)) (g_sw 3 i s32 go (U32_set _ _ _))) fun u15 HB15 sz15 K15=>?_
           simp only[sQ] at K15⊢
           go_upto_region 31 with fail
           refine Rp K15 HB15 [] [] [(0,228,_),(1,229,_),(2,23,_)] [(2,0)] [(2,23)] [] (Oc3 g_mv (g_bn (fun uZ=>Zu _ _ ((i:Nat):Int) 1 ((i+1:Nat):Int) uZ Z1 Z1 Z1)) g_as) fun u16 HB16 sz16 K16=>?_
           simp only[sQ] at K16⊢
           go_wp2
           refine⟨⟨i+1,Z1,rfl,(K16.lt 3),(by rw[hS.out];exact(K16.cv 3)),(K16.lt 2),(K16.cv 2),(K16.cv 0),(K16.cv 1),HB16⟩,?_⟩
           simp[intOf]<;>omega
          ·have hl1:decide ((i:Int)<8)=false:=by simp;omega
           have hi8:i=8:=Z1
           subst hi8
           have hol:=(hoW.out 8).len
           have hnK:=K13.n
           simp at hnK
           have hoK3:=K13.lo 3
           have K13_8:Bk w.heap.size wr [(true,w.heap.size+1+1,U32 z8),(false,b12_1,U32 (oF 8))]:=⟨.o Z1 (K13.lo 1) Kr.out<| .c hlo Ko.out<|trivial,by simp;omega⟩
           go_upto_region 30 with fail
           refine Rn K13_8 HBr [(0,226,_),(1,227,_)] (Oc2 g_mv (g_bn (fun uZ=>Za _ _ ((8:Nat):Int) 8 _ uZ hl1))) fun u14 HB14 sz14 K14=>?_
           simp only[sQ] at K14⊢
           go_upto_region 33 with fail
           refine Rp K14 HB14 [.all 1 (U32 (oF 8))] [] [(0,243,_)] [] [] [] (Oc2 (g_lR 1 0 (cs:=U32 (oF 8)) (fun j v h=>by rw[Nat.zero_add];exact h) Tryz.underlying235 (by rw[Ye,hol];exact Zy)) (g_st 0 Zy (h1:=T6 _) (hm:=by rw[Ye,hol]) (hl:=by first | rw[Ye,Ye,hol,(show z8.length=8 from rfl)] | rfl))) fun u15 HB15 sz15 K15=>?_
           simp only[sQ] at K15⊢
           go_wp2
           refine bodyPost_ret (Xq Tryz.results170 rfl (K15.cv 0) Tryz.underlying235 rfl (by rw[Ye,hol];exact Zy)) rfl ⟨rfl,HB15⟩
theorem cBlockR(ss bs:List Nat)(w:World)(hs:WW 8 ss)(hb:BB 64 bs):CC 170 #[.agg (U32 ss).toArray,.agg (U8 bs).toArray] w (.agg (U32 (blk ss bs)).toArray):=by
 have hS:=spread_W bs hb.lt
 have h:=cBlockR_core ss bs (Vo bs) (rds ss (Vo bs)) (sms0 ss (rds ss (Vo bs) 64)) w hs.len hb.len hS.len hb.lt hs.lt hS.lt (fun i hi=>spread_wd bs i hb.lt hi) (fun t h1 h2=>spread_sp bs t hb.lt h1 h2) rfl (fun _=>rfl) (rds_W hs _) rfl (fun _=>rfl) (sms0_W _ _)
 rw[sms0_is hs] at h
 exact h
end Go.Proofs.YtoffgfhilkpdpaaGreatDoor
