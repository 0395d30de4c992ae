import Derived.Test.YtoffgfhilkpdpaaGreatDoorRB2
namespace Go.Proofs.YtoffgfhilkpdpaaGreatDoor
set_option linter.unusedVariables false
set_option linter.unusedSimpArgs false
set_option maxRecDepth 100000
set_option maxHeartbeats 4000000
open Go.RowKit
theorem Yf:EnT 166:=fun _ _=>by kernel_rfl
theorem bdZ32(w:World):(Instr.build 215 ([]:List (Nat×Value)).toArray).run Tryz.prog w= .ok (.agg (U8 z32).toArray) w:=by kernel_rfl
theorem rem32(p q:Operand)(x y:Nat)(w:World)(h1:x<4294967296)(h2:0<y):(do eqGuard .rem 196 p q (.int .u32 x) (.int .u32 y);binOp .rem 196 (.int .u32 x) (.int .u32 y):Sem Value).run Tryz.prog w= .ok (.int .u32 ((x%y:Nat):Int)) w:=by
 have e0:((x:Int)).tmod y=((x%y:Nat):Int):=by rw[Int.tmod_eq_emod_of_nonneg (Int.natCast_nonneg _)];simp
 have hle:x%y<=x:=Nat.mod_le _ _
 obtain⟨z,hz⟩:=Z3 (x%y)
 rw[hz] at e0 hle⊢
 have e:IntKind.u32.wrap (z:Int)=(z:Int):=wraps_u32 _ Z1 Z1
 have hy:(y:Int)≠0:=Z1
 have hy2: ¬y=0:=Z1
 go_simp
theorem quo32(p q:Operand)(x y:Nat)(w:World)(h1:x<4294967296)(h2:0<y):(do eqGuard .quo 196 p q (.int .u32 x) (.int .u32 y);binOp .quo 196 (.int .u32 x) (.int .u32 y):Sem Value).run Tryz.prog w= .ok (.int .u32 ((x/y:Nat):Int)) w:=by
 have e0:((x:Int)).tdiv y=((x/y:Nat):Int):=by rw[Int.tdiv_eq_ediv_of_nonneg (Int.natCast_nonneg _)];simp
 have hle:x/y<=x:=Nat.div_le_self _ _
 obtain⟨z,hz⟩:=Z3 (x/y)
 rw[hz] at e0 hle⊢
 have e:IntKind.u32.wrap (z:Int)=(z:Int):=wraps_u32 _ Z1 Z1
 have hy:(y:Int)≠0:=Z1
 have hy2: ¬y=0:=Z1
 go_simp
set_option maxHeartbeats 8000000 in
theorem cSumR_core(v:Value)(N nb:Nat)(ps:List Nat)(sF:Nat->List Nat)(fF:Nat->Nat->List Nat)(dF:Nat->List Nat)(w:World)(hpl:ps.length=N)(hN:N<=200000)(hnb:64*nb=N)(hs0:Hid (sF 0=fst8))(hsW:Hid (∀k,WW 8 (sF k)))(hss:Hid (∀k,k<nb->True))(hf0:Hid (∀k,fF k 0=z64))(hfs:Hid (∀k i,fF k (i+1)=(fF k i).set i (ps.getD (64*k+i) 0)))(hfB:Hid (∀k i,BB 64 (fF k i)))(hd0:Hid (dF 0=z32))(hds:Hid (∀m,dF (m+1)=(dF m).set (4*(m/4)+3 -m%4) (((sF nb).getD (m/4) 0>>>(8*(m%4)))%256)))(hdB:Hid (∀m,BB 32 (dF m)))
 (hPd:Hid (∀(u:World),Bw w u->Calls Tryz.prog 169 #[v] u fun e u'=> ∃v,e= .returned v/\PG u.heap.size 1 N (U8 ps) u' v/\Bw u u'))
 (hBl:Hid (∀k,k<nb-> ∀(u:World),CC 170 #[.agg (U32 (sF k)).toArray,.agg (U8 (fF k 64)).toArray] u (.agg (U32 (sF (k+1))).toArray))):
 CC 166 #[v] w (.agg (U8 (dF 32)).toArray):=by
 go_enter Tryz.func166,Tryz.ntmps166
 go_upto_region 1 with fail
 generalize hC:(w.alloc (.cells (Z32b:List Value).toArray 215))=v0 at *
 have HB0:Bw w v0:=by rw[<-hC];exact Z5 (Zf w) _
 have K0:Bk w.heap.size v0 [(true,w.heap.size,U8 z32)]:=by rw[<-hC];exact(Bk.nil _ w).ad
 clear hC
 refine Rp K0 HB0 [] [(1,3,U32 z8,some (2,U32 fst8))] [(0,12,_)] [(2,1)] [] [] (Oc3 (g_cl Wa cFirst) (g_al 0 Th) (g_sn 0 Zy (h1:=T6 _) (hm:=by rw[Ye,(show fst8.length=8 from rfl)]) (hl:=by first | rw[Ye,Ye,(show fst8.length=8 from rfl),(show z8.length=8 from rfl)] | rfl))) fun u1 b1_1 HB1 _ K1=>?_
 simp only[sQ] at K1⊢
 have hlt3:=(K1.lt 1)
 have hlo3:=HB1.size
 have hnd3:=K1.n
 simp at hnd3
 have hlo3b:=K1.lo 1
 go_upto_region 2 with fail
 refine Rf K1 HB1 [] [] [(0,13,v)] [] [] [⟨1,14,some 2,PG u1.heap.size 1 N (U8 ps)⟩,⟨2,4,none,PG u1.heap.size 1 N (U8 ps)⟩] [] (hst:=(.cons (fun _ _ _ h1 h2=>h2.stab h1)<| .cons (fun _ _ _ h1 h2=>h2.stab h1)<|Stab.nil)) (Oc3 g_mv (g_cE 0 (PG u1.heap.size 1 N (U8 ps)) Wu (fun u hB hs=>(hPd.out u hB).mono fun e u2 ⟨v,e1,h1,h2⟩=>⟨v,e1,h1.mono hs,h2⟩)) (g_sE 0 1 (PG u1.heap.size 1 N (U8 ps)))) fun u2 v2_1 hv2_1 v2_2 hv2_2 HB2 _ K2=>?_
 simp only[sQ] at K2⊢
 obtain⟨b4,c4,zs,rfl,ho1,ho2,hc4,hz4,hoC⟩:=hv2_2 rfl
 have K2_1:Bk w.heap.size u2 [(false,w.heap.size,U8 z32),(false,b1_1,U32 fst8),(false,b4,U8 (ps)++zs)]:=⟨.c (K2.lt 0) (K2.cv 0)<| .c (K2.lt 1) (K2.cv 1)<| .c ho2 hoC<|trivial,by simp;omega⟩
 go_upto_region 3 with fail
 refine Rn K2_1 HB2 [(0,5,_)] (Oc1 g_as) fun u3 HB3 _ K3=>?_
 simp only[sQ] at K3⊢
 have hb4:b1_1+1<=b4:=Z1
 go_wp2_with fail
 go_loopw [5] (fun s5 wr=> ∃(k:Nat),k<=nb/\s5=iI ((64*k:Nat):Int)/\Hid (CV wr b1_1 (U32 (sF k)))/\b4<wr.heap.size/\Hid (CV wr b4 (U8 (ps)++zs))/\Hid (CV wr (w.heap.size) (U8 z32))/\Bw w wr) (fun s5 _=>N -(intOf s5).toNat)
 case atStart=>exact⟨0,Z1,rfl,(by rw[hs0.out];exact(K3.cv 1)),(K3.lt 2),(K3.cv 2),(K3.cv 0),HB3⟩
 case round=>
  clear ho2 hoC
  obtain⟨k,hk,rfl,Ks,hl4,Ka,Kr,HBr⟩:=hrel
  by_cases hj:k<nb
  ·have hl1:decide (((64*k:Nat):Int)<(N:Int))=true:=by simp;omega
   have hSk:=hsW.out k
   have hSs:=hss.out k hj
   have hfB:=hfB.out k
   have hf0:=hf0.out k
   have hfs:=hfs.out k
   have hBk:=hBl.out k hj
   obtain⟨sk,esk⟩:=Z3 (sF k)
   obtain⟨sn,esn⟩:=Z3 (sF (k+1))
   obtain⟨fl,efl⟩:=Z3 (fF k)
   rw[esk] at Ks hSk hBk
   rw[esn] at hBk
   rw[efl] at hfB hf0 hfs hBk
   have hskl:=hSk.len
   have hsnl:sn.length=8:=by rw[<-esn];exact(hsW.out (k+1)).len
   have hBk:Hid _:=hBk
   have hf0:Hid _:=hf0
   have hfs:Hid _:=hfs
   have hfB:Hid _:=hfB
   have esn:Hid _:=esn
   clear esk efl hSs hSk
   have hnK:=K3.n
   simp at hnK
   have K3_2:Bk w.heap.size wr [(false,w.heap.size,U8 z32),(true,b1_1,U32 sk),(false,b4,U8 (ps)++zs)]:=⟨.c Z1 Kr.out<| .o Z1 Z1 Ks.out<| .c hl4 Ka.out<|trivial,by simp;omega⟩
   go_upto_region 4 with fail
   refine Rn K3_2 HBr (cG 0 15 [_,_,_,_] []) (Oc4 g_mv g_mv (g_ln Tryz.underlying133) (g_bn (fun uZ=>Za _ _ ((64*k:Nat):Int) (N:Int) _ uZ hl1))) fun u4 HB4 sz4 K4=>?_
   simp only[sQ] at K4⊢
   have hl4b:=(K4.lt 2)
   go_upto_region 6 with fail
   refine Rp K4 HB4 [] [(1,6,U8 z64,some (2,U8 z64))] [(0,21,_)] [(2,1)] [] [] (Oc3 (g_bd bdZ) (g_al 0 al__64_uint8) (g_sn 0 Vr (h1:=Uk _) (hm:=by rw[Zk,(show z64.length=64 from rfl)]) (hl:=by first | rw[Zk,Zk,(show z64.length=64 from rfl),(show z64.length=64 from rfl)] | rfl))) fun u5 b5_1 HB5 sz5 K5=>?_
   simp only[sQ] at K5⊢
   go_upto_region 7 with fail
   refine Rn K5 HB5 [(0,7,_)] (Oc1 g_as) fun u6 HB6 sz6 K6=>?_
   simp only[sQ] at K6⊢
   have hnd6:=K6.n
   simp at hnd6
   have hlo6:=K6.lo 3
   go_wp2_with fail
   go_loopw [7] (fun s7 ws=> ∃(i:Nat),i<=64/\s7=iI ((i:Nat):Int)/\b5_1<ws.heap.size/\Hid (CV ws b5_1 (U8 (fl i)))/\Hid (CV ws b1_1 (U32 sk))/\b4<ws.heap.size/\Hid (CV ws b4 (U8 (ps)++zs))/\Hid (CV ws (w.heap.size) (U8 z32))/\Bw w ws) (fun s7 _=>64 -(intOf s7).toNat)
   case atStart=>exact⟨0,Z1,rfl,(K6.lt 3),(by rw[hf0.out];exact(K6.cv 3)),(K6.cv 1),(K6.lt 2),(K6.cv 2),(K6.cv 0),HB6⟩
   case round=>
    clear Ks Ka Kr HBr hl1 hl4
    obtain⟨i,hi,rfl,hl6,Kf,Ks,hl4,Ka,Kr,HBr⟩:=hrel
    by_cases hj2:i<64
    ·have hl1:decide ((i:Int)<64)=true:=by simp;omega
     have hS:=hfs.out i
     have hfl:=(hfB.out i).len
     obtain⟨bl,ebl⟩:=Z3 (fl i)
     rw[ebl] at Kf hS hfl
     have gp:(U8 ps++zs)[64*k+i]?=some (.int .u8 ((ps.getD (64*k+i) 0:Nat):Int)):=by rw[List.getElem?_append_left (by rw[Zk];omega),Yv ps _ Z1]
     have gb:=Yv bl i Z1
     obtain⟨x,ex⟩:=Z3 (ps.getD (64*k+i) 0)
     obtain⟨y,ey⟩:=Z3 (bl.getD i 0)
     rw[ex] at gp hS
     rw[ey] at gb
     have hS:Hid _:=hS
     clear ebl ex ey
     have hnK:=K6.n
     simp at hnK
     have hoK1:=K6.lo 1
     have hoK3:=K6.lo 3
     have K6_3:Bk w.heap.size wr [(false,w.heap.size,U8 z32),(false,b1_1,U32 sk),(false,b4,U8 (ps)++zs),(true,b5_1,U8 bl)]:=⟨.c Z1 Kr.out<| .c Z1 Ks.out<| .c hl4 Ka.out<| .o hl6 Z1 Kf.out<|trivial,by simp;omega⟩
     go_upto_region 8 with fail
     refine Rn K6_3 HBr [(0,22,_),(1,23,_)] (Oc2 g_mv (g_bn (fun uZ=>Za _ _ (i:Int) 64 _ uZ hl1))) fun u7 HB7 sz7 K7=>?_
     simp only[sQ] at K7⊢
     go_upto_region 10 with fail
     refine Rp K7 HB7 [.no,.no,.no,.all 8 (U8 (bl.set i x))] [] (cG 0 26 [_,_,_,_,_,_,_,_] []) [] [] [] (Oc9 g_mv g_mv g_mv g_mv (g_bn (fun uZ=>Zu _ _ ((64*k:Nat):Int) (i:Int) ((64*k+i:Nat):Int) uZ Z1 Z1 Z1)) (g_ix (fun uZ=>ixB0 b4 N c4 (64*k+i) Z1 uZ)) (g_lw 2 (64*k+i) l8 gp) (g_ix (fun uZ=>x64b b5_1 i uZ hj2)) (g_sw 3 i s8 gb (Uj _ _ _))) fun u8 HB8 sz8 K8=>?_
     simp only[sQ] at K8⊢
     go_upto_region 9 with fail
     refine Rp K8 HB8 [] [] [(0,24,_),(1,25,_),(2,7,_)] [(2,0)] [(2,7)] [] (Oc3 g_mv (g_bn (fun uZ=>Zu _ _ ((i:Nat):Int) 1 ((i+1:Nat):Int) uZ Z1 Z1 Z1)) g_as) fun u9 HB9 sz9 K9=>?_
     simp only[sQ] at K9⊢
     go_wp2
     refine⟨⟨i+1,Z1,rfl,(K9.lt 3),(by rw[hS.out];exact(K9.cv 3)),(K9.cv 1),(K9.lt 2),(K9.cv 2),(K9.cv 0),HB9⟩,?_⟩
     simp[intOf]<;>omega
    ·have hl1:decide ((i:Int)<64)=false:=by simp;omega
     have hi64:i=64:=Z1
     subst hi64
     have hfl:=(hfB.out 64).len
     have hnK:=K6.n
     simp at hnK
     have hoK1:=K6.lo 1
     have hoK3:=K6.lo 3
     have K6_3:Bk w.heap.size wr [(false,w.heap.size,U8 z32),(true,b1_1,U32 sk),(false,b4,U8 (ps)++zs),(false,b5_1,U8 (fl 64))]:=⟨.c Z1 Kr.out<| .o Z1 (K6.lo 1) Ks.out<| .c hl4 Ka.out<| .c hl6 Kf.out<|trivial,by simp;omega⟩
     go_upto_region 8 with fail
     refine Rn K6_3 HBr [(0,22,_),(1,23,_)] (Oc2 g_mv (g_bn (fun uZ=>Za _ _ ((64:Nat):Int) 64 _ uZ hl1))) fun u7 HB7 sz7 K7=>?_
     simp only[sQ] at K7⊢
     go_upto_region 11 with fail
     refine Rp K7 HB7 [.no,.all 3 (U32 sn)] [] (cG 0 34 [_,_,_] []) [(3,0)] [] [] (Oc4 (g_lR 1 0 (cs:=U32 sk) (fun j v h=>by rw[Nat.zero_add];exact h) Tryz.underlying235 (by rw[Ye,hskl];exact Zy)) (g_lR 3 0 (cs:=U8 (fl 64)) (fun j v h=>by rw[Nat.zero_add];exact h) Tryz.underlying225 (by rw[Zk,hfl];exact Vr)) (g_cl Wb hBk.out) (g_st 1 Zy (h1:=T6 _) (hm:=by rw[Ye,hsnl]) (hl:=by first | rw[Ye,Ye,hsnl,hskl] | rfl))) fun u8 HB8 sz8 K8=>?_
     simp only[sQ] at K8⊢
     go_upto_region 5 with fail
     refine Rp K8 HB8 [] [] [(0,19,_),(1,20,_),(2,5,_)] [(2,0)] [(2,5)] [] (Oc3 g_mv (g_bn (fun uZ=>Zu _ _ ((64*k:Nat):Int) 64 ((64*(k+1):Nat):Int) uZ Z1 Z1 Z1)) g_as) fun u9 HB9 sz9 K9=>?_
     simp only[sQ] at K9⊢
     go_wp2
     refine⟨⟨k+1,Z1,rfl,(by rw[esn.out];exact(K9.cv 1)),(K9.lt 2),(K9.cv 2),(K9.cv 0),HB9⟩,?_⟩
     simp[intOf]<;>omega
  ·have hl1:decide (((64*k:Nat):Int)<(N:Int))=false:=by simp;omega
   have hkn:k=nb:=Z1
   subst hkn
   have hskW:=hsW.out k
   have hd0:=hd0.out
   have hds:=hds.out
   have hdB:=hdB.out
   obtain⟨sk,esk⟩:=Z3 (sF k)
   rw[esk] at Ks hskW hds
   have hskl:=hskW.len
   have hskt:=hskW.lt
   have hds:Hid _:=hds
   have hd0:Hid _:=hd0
   have hdB:Hid _:=hdB
   have hskt:Hid _:=hskt
   clear esk hskW
   have hnK:=K3.n
   simp at hnK
   have K3_2:Bk w.heap.size wr [(true,w.heap.size,U8 z32),(false,b1_1,U32 sk),(false,b4,U8 (ps)++zs)]:=⟨.o Z1 Z1 Kr.out<| .c Z1 Ks.out<| .c hl4 Ka.out<|trivial,by simp;omega⟩
   go_upto_region 4 with fail
   refine Rn K3_2 HBr (cG 0 15 [_,_,_,_] []) (Oc4 g_mv g_mv (g_ln Tryz.underlying133) (g_bn (fun uZ=>Za _ _ ((64*k:Nat):Int) (N:Int) _ uZ hl1))) fun u4 HB4 sz4 K4=>?_
   simp only[sQ] at K4⊢
   go_upto_region 12 with fail
   refine Rp K4 HB4 [] [(1,8,U8 z32,some (2,U8 z32))] [(0,37,_)] [(2,1)] [] [] (Oc3 (g_bd bdZ32) (g_al 0 Ve) (g_sn 0 Zo (h1:=Uk _) (hm:=by rw[Zk,(show z32.length=32 from rfl)]) (hl:=by first | rw[Zk,Zk,(show z32.length=32 from rfl),(show z32.length=32 from rfl)] | rfl))) fun u5 b5_1 HB5 sz5 K5=>?_
   simp only[sQ] at K5⊢
   go_upto_region 13 with fail
   refine Rn K5 HB5 [(0,9,_)] (Oc1 g_as) fun u6 HB6 sz6 K6=>?_
   simp only[sQ] at K6⊢
   have hnd8:=K6.n
   simp at hnd8
   have hlo8:=K6.lo 3
   go_wp2_with fail
   go_loopw [9] (fun s9 wr=> ∃(i:Nat),i<=8/\s9=iI ((i:Nat):Int)/\b5_1<wr.heap.size/\Hid (CV wr b5_1 (U8 (dF (4*i))))/\b1_1<wr.heap.size/\Hid (CV wr b1_1 (U32 sk))/\Hid (CV wr (w.heap.size) (U8 z32))/\Bw w wr) (fun s9 _=>8 -(intOf s9).toNat)
   case atStart=>exact⟨0,Z1,rfl,(K6.lt 3),(by rw[show 4*0=0 from rfl,hd0.out];exact(K6.cv 3)),(K6.lt 1),(K6.cv 1),(K6.cv 0),HB6⟩
   case round=>
    clear Ks Ka Kr HBr hl1 hl4
    obtain⟨i,hi,rfl,hl8,Kd,hl3,Ks,Kr,HBr⟩:=hrel
    by_cases hj:i<8
    ·have hl1:decide ((i:Int)<8)=true:=by simp;omega
     have gs:=U32_get sk i Z1
     have hx:=hskt.out i
     obtain⟨x,ex⟩:=Z3 (sk.getD i 0)
     rw[ex] at gs hx
     have hx:x<4294967296:=hx
     have hnK:=K6.n
     simp at hnK
     have hoK3:=K6.lo 3
     have K6_3:Bk w.heap.size wr [(false,w.heap.size,U8 z32),(false,b1_1,U32 sk),(false,b5_1,U8 (dF (4*i)))]:=⟨.c Z1 Kr.out<| .c hl3 Ks.out<| .c hl8 Kd.out<|trivial,by simp;omega⟩
     go_upto_region 14 with fail
     refine Rn K6_3 HBr [(0,38,_),(1,39,_)] (Oc2 g_mv (g_bn (fun uZ=>Za _ _ (i:Int) 8 _ uZ hl1))) fun u7 HB7 sz7 K7=>?_
     simp only[sQ] at K7⊢
     go_upto_region 16 with fail
     refine Rn K7 HB7 (cG 0 42 [_,_,_] [(3,10,_)]) (Oc4 g_mv (g_ix (fun uZ=>x8 b1_1 i uZ hj)) (g_lw 1 i l32 gs) g_as) fun u8 HB8 sz8 K8=>?_
     simp only[sQ] at K8⊢
     go_upto_region 17 with fail
     refine Rn K8 HB8 [(0,11,_)] (Oc1 g_as) fun u9 HB9 sz9 K9=>?_
     simp only[sQ] at K9⊢
     go_wp2_with fail
     go_loopw [11,10] (fun s11 s10 ws=> ∃(j:Nat),j<=4/\s11=iI (3 -(j:Int))/\s10= .int .u32 ((x>>>(8*j):Nat):Int)/\b5_1<ws.heap.size/\Hid (CV ws b5_1 (U8 (dF (4*i+j))))/\b1_1<ws.heap.size/\Hid (CV ws b1_1 (U32 sk))/\Hid (CV ws (w.heap.size) (U8 z32))/\Bw w ws) (fun s11 _ _=>(intOf s11+1).toNat)
     case atStart=>exact⟨0,Z1,rfl,rfl,(K9.lt 2),(K9.cv 2),(K9.lt 1),(K9.cv 1),(K9.cv 0),HB9⟩
     case round=>
      clear Ks Kd Kr HBr hl1 hl8 hl3
      obtain⟨j,hj4,rfl,rfl,hl8,Kd,hl3,Ks,Kr,HBr⟩:=hrel
      by_cases hj2:j<4
      ·have hS:=hds.out (4*i+j)
       have hdl:=(hdB.out (4*i+j)).len
       rw[show (4*i+j)/4=i by omega,show (4*i+j)%4=j by omega,ex] at hS
       have e3:(3:Int) -(j:Int)=((3 -j:Nat):Int):=Z1
       have hl1:decide ((0:Int)<=((3 -j:Nat):Int))=true:=by simp
       try rw[e3]
       have e31:((3 -j:Nat):Int) -1=3 -((j+1:Nat):Int):=Z1
       have hnx:=shr_next x j
       obtain⟨q,eq⟩:=Z3 (x>>>(8*j))
       have hq:q<4294967296:=by rw[<-eq,Nat.shiftRight_eq_div_pow];exact Nat.lt_of_le_of_lt (Nat.div_le_self _ _) hx
       rw[eq] at hS hnx
       try rw[eq]
       obtain⟨dl,edl⟩:=Z3 (dF (4*i+j))
       rw[edl] at hS Kd hdl
       have gi:=Yv dl (4*i+3 -j) Z1
       obtain⟨y,ey⟩:=Z3 (dl.getD (4*i+3 -j) 0)
       rw[ey] at gi
       have e256:q%256%256=q%256:=Z1
       have hS:Hid _:=hS
       have hnx:Hid _:=hnx
       clear eq edl ey
       have hnK:=K9.n
       simp at hnK
       have K9_4:Bk w.heap.size wr [(false,w.heap.size,U8 z32),(false,b1_1,U32 sk),(true,b5_1,U8 dl)]:=⟨.c Z1 Kr.out<| .c hl3 Ks.out<| .o hl8 Z1 Kd.out<|trivial,by simp;omega⟩
       go_upto_region 18 with fail
       refine Rn K9_4 HBr [(0,45,_),(1,46,_)] (Oc2 g_mv (g_bn (fun uZ=>Xm _ _ ((3 -j:Nat):Int) 0 _ uZ hl1))) fun u10 HB10 sz10 K10=>?_
       simp only[sQ] at K10⊢
       go_upto_region 20 with fail
       refine Rp K10 HB10 [.no,.no,.all 8 (U8 (dl.set (4*i+3 -j) (q%256)))] [] (cG 0 49 [_,_,_,_,_,_,_,_] []) [] [] [] (Oc9 g_mv (g_bn (fun uZ=>mul_i _ _ 4 (i:Int) ((4*i:Nat):Int) uZ Z1 Z1 Z1)) g_mv (g_bn (fun uZ=>Zu _ _ ((4*i:Nat):Int) ((3 -j:Nat):Int) ((4*i+3 -j:Nat):Int) uZ Z1 Z1 Z1)) g_mv (g_bn (fun uZ=>rem32 _ _ q 256 uZ hq Z2)) (g_op (fun ev uZ he=>(cv328 uZ rfl (he _ _ rfl)).trans (by rw[e256]))) (g_ix (fun uZ=>x32 b5_1 (4*i+3 -j) uZ Z1)) (g_sw 2 (4*i+3 -j) s8 gi (Uj _ _ _))) fun u11 HB11 sz11 K11=>?_
       simp only[sQ] at K11⊢
       go_upto_region 21 with fail
       refine Rp K11 HB11 [] [] [(0,57,_),(1,58,_),(2,10,_)] [(2,0)] [(2,10)] [] (Oc3 g_mv (g_bn (fun uZ=>quo32 _ _ q 256 uZ hq Z2)) g_as) fun u12 HB12 _ K12=>?_
       simp only[sQ] at K12⊢
       go_upto_region 19 with fail
       refine Rp K12 HB12 [] [] [(0,47,_),(1,48,_),(2,11,_)] [(2,0)] [(2,11)] [] (Oc3 g_mv (g_bn (fun uZ=>Xi _ _ ((3 -j:Nat):Int) 1 (3 -((j+1:Nat):Int)) uZ e31 Z1 Z1)) g_as) fun u13 HB13 _ K13=>?_
       simp only[sQ] at K13⊢
       go_wp2
       refine⟨⟨j+1,Z1,rfl,(by rw[<-hnx.out]),(K13.lt 2),(by rw[<-Nat.add_assoc,hS.out];exact(K13.cv 2)),(K13.lt 1),(K13.cv 1),(K13.cv 0),HB13⟩,?_⟩
       simp[intOf]<;>omega
      ·have hj4:j=4:=Z1
       subst hj4
       have hl1:decide ((0:Int)<=3 -((4:Nat):Int))=false:=Z2
       have hnK:=K9.n
       simp at hnK
       have K9_4:Bk w.heap.size wr [(false,w.heap.size,U8 z32),(false,b1_1,U32 sk),(false,b5_1,U8 (dF (4*i+4)))]:=⟨.c Z1 Kr.out<| .c hl3 Ks.out<| .c hl8 Kd.out<|trivial,by simp;omega⟩
       go_upto_region 18 with fail
       refine Rn K9_4 HBr [(0,45,_),(1,46,_)] (Oc2 g_mv (g_bn (fun uZ=>Xm _ _ (3 -((4:Nat):Int)) 0 _ uZ hl1))) fun u10 HB10 sz10 K10=>?_
       simp only[sQ] at K10⊢
       go_upto_region 15 with fail
       refine Rp K10 HB10 [] [] [(0,40,_),(1,41,_),(2,9,_)] [(2,0)] [(2,9)] [] (Oc3 g_mv (g_bn (fun uZ=>Zu _ _ ((i:Nat):Int) 1 ((i+1:Nat):Int) uZ Z1 Z1 Z1)) g_as) fun u11 HB11 sz11 K11=>?_
       simp only[sQ] at K11⊢
       go_wp2
       refine⟨⟨i+1,Z1,rfl,(K11.lt 2),(by rw[show 4*(i+1)=4*i+4 by omega];exact(K11.cv 2)),(K11.lt 1),(K11.cv 1),(K11.cv 0),HB11⟩,?_⟩
       simp[intOf]<;>omega
    ·have hl1:decide ((i:Int)<8)=false:=by simp;omega
     have hi8:i=8:=Z1
     subst hi8
     have hdl:=(hdB.out 32).len
     have Kd:Hid (CV wr b5_1 (U8 (dF 32))):=Kd
     have hnK:=K6.n
     simp at hnK
     have hoK3:=K6.lo 3
     have K6_3:Bk w.heap.size wr [(true,w.heap.size,U8 z32),(false,b5_1,U8 (dF 32))]:=⟨.o Z1 (K6.lo 0) Kr.out<| .c hl8 Kd.out<|trivial,by simp;omega⟩
     go_upto_region 14 with fail
     refine Rn K6_3 HBr [(0,38,_),(1,39,_)] (Oc2 g_mv (g_bn (fun uZ=>Za _ _ ((8:Nat):Int) 8 _ uZ hl1))) fun u7 HB7 sz7 K7=>?_
     simp only[sQ] at K7⊢
     go_upto_region 22 with fail
     refine Rp K7 HB7 [.all 1 (U8 (dF 32))] [] [(0,59,_)] [] [] [] (Oc2 (g_lR 1 0 (cs:=U8 (dF 32)) (fun j v h=>by rw[Nat.zero_add];exact h) Tryz.underlying215 (by rw[Zk,hdl];exact Zo)) (g_st 0 Zo (h1:=Uk _) (hm:=by rw[Zk,hdl]) (hl:=by first | rw[Zk,Zk,hdl,(show z32.length=32 from rfl)] | rfl))) fun u8 HB8 sz8 K8=>?_
     simp only[sQ] at K8⊢
     go_wp2
     refine bodyPost_ret (Xq Tryz.results166 rfl (K8.cv 0) Tryz.underlying215 rfl (by rw[Zk,hdl];exact Zo)) rfl ⟨rfl,HB8⟩
theorem fill_B2(ps:List Nat)(o:Nat)(h: ∀j,ps.getD j 0<256): ∀j,BB 64 (fill ps o j)
 | 0=>BB_rep 64
 | j+1=>(fill_B2 ps o h j).set _ _ (h _)
theorem cSumR(xs:List Nat)(v:Value)(w:World)(hin:IN w w.heap.size v xs)(hx: ∀x∈xs,x<256)(hl:xs.length<=100000):
 CC 166 #[v] w (.agg (U8 (dig xs)).toArray):=by
 have h64:(pad xs).length%64=0:=by rw[pad_len];unfold nou;omega
 have hpl:=pad_len xs
 have hno:=nou_lt xs.length
 have hnb:64*((pad xs).length/64)=(pad xs).length:=Nat.mul_div_cancel' (Nat.dvd_of_mod_eq_zero h64)
 have hdg:=dig_blkS xs _ hnb
 have hpb:=by_getD (pad_B xs hx)
 have hPd: ∀(u:World),Bw w u->Calls Tryz.prog 169 #[v] u fun e u'=> ∃v,e= .returned v/\PG u.heap.size 1 (pad xs).length (U8 (pad xs)) u' v/\Bw u u':=fun u hB=>cPadR xs v u ((hin.below hB).mono hB.size) hl
 rw[hdg]
 obtain⟨ps,eps⟩:=Z3 (pad xs)
 rw[eps] at h64 hpl hnb hpb hPd⊢
 obtain⟨N,eN⟩:=Z3 ps.length
 rw[eN] at h64 hpl hnb hPd⊢
 obtain⟨nb,enb⟩:=Z3 (N/64)
 rw[enb] at hnb⊢
 clear eps hdg enb
 rw[<-tD_told]
 refine cSumR_core v N nb ps (blkS ps) (fun k=>fill ps (64*k)) (tD (blkS ps nb)) w eN Z1 hnb rfl (blkS_W ps) (fun _ _=>trivial) (fun _=>rfl) (fun _ _=>rfl) (fun k=>fill_B2 ps _ hpb) rfl (fun _=>rfl) (tD_B _) hPd (fun k hk u=>?_)
 have e:blkS ps (k+1)=blk (blkS ps k) (fill ps (64*k) 64):=by rw[fill_all ps (64*k) Z1];rfl
 rw[e]
 exact cBlockR _ _ u (blkS_W ps k) (fill_B2 ps _ hpb 64)
end Go.Proofs.YtoffgfhilkpdpaaGreatDoor
