import Derived.Test.YtoffgfhilkpdpaaGreatDoorD0
namespace Go.Proofs.YtoffgfhilkpdpaaGreatDoor
set_option linter.unusedVariables false
set_option linter.unusedSimpArgs false
set_option maxRecDepth 100000
set_option maxHeartbeats 4000000
open Go.RowKit
abbrev Z12:List Value:=[iU 0,iU 0,iU 0,iU 0,iU 0,iU 0,iU 0,iU 0,iU 0,iU 0,iU 0,iU 0]
def z12:List Nat:=List.replicate 12 0
def zn4:List Nat:=List.replicate 4 0
theorem Wp(w:World):(Instr.alloc 172 true (.tuple #[])).run Tryz.prog w= .ok (.pointer (some ⟨w.heap.size,0,none⟩)) (w.alloc (.cells (U64 z12).toArray 172)):=by kernel_rfl
theorem Yh:(Tryz.prog.info? 172).map (·.size)=some 12:=by kernel_rfl
abbrev Lq:List Value:=[iU 0,iU 0,iU 0,iU 0]
theorem uQ:Tryz.prog.underlying 24=some (.array 4 22):=Tryz.underlying24
theorem iQ:(Tryz.prog.info? 24).map (·.size)=some 4:=by kernel_rfl
theorem Wk:(Tryz.prog.info? 24).map (·.size)=some 4:=iQ
theorem aQ(w:World):(Instr.alloc 24 true (.tuple #[])).run Tryz.prog w= .ok (.pointer (some ⟨w.heap.size,0,none⟩)) (w.alloc (.cells Lq.toArray 24)):=by kernel_rfl
theorem xb12(b k:Nat)(w:World)(h:k<12):(Instr.indexAt 172 (.pointer (some ⟨b,0,none⟩)) (iI k)).run Tryz.prog w= .ok (.pointer (some ⟨b,k,none⟩)) w:=by
 have h2:(k:Int)<12:=Z1
 go_simp
theorem xbW(b k:Nat)(w:World)(h:k<8):(Instr.indexAt 91 (.pointer (some ⟨b,0,none⟩)) (iI k)).run Tryz.prog w= .ok (.pointer (some ⟨b,k,none⟩)) w:=by
 have h2:(k:Int)<8:=Z1
 go_simp
theorem xbN(b k:Nat)(w:World)(h:k<4):(Instr.indexAt 24 (.pointer (some ⟨b,0,none⟩)) (iI k)).run Tryz.prog w= .ok (.pointer (some ⟨b,k,none⟩)) w:=by
 have h2:(k:Int)<4:=Z1
 go_simp
theorem Ul(l:List Nat)(c z:Nat):U64 (l.set c z)=(U64 l).set c (iU (z:Int)):=by unfold U64;rw[List.map_set]
theorem U64_a1: ∀l:List Nat,Ws (U64 l)=true
 | []=>rfl
 | x::l=>by
  have:=U64_a1 l
  unfold U64 at this⊢
  rw[List.map_cons,Ws,this];rfl
theorem lift_core(xs:List Nat)(n k r:Nat)(yF:Nat->List Nat)(w:World)(hxl:xs.length=8)(hk:k<=3)(hr:r<=63)(hq:Hid (∀p q u,(do eqGuard .quo 3 p q (iI (n:Int)) (iI 64);binOp .quo 3 (iI (n:Int)) (iI 64):Sem Value).run Tryz.prog u= .ok (iI (k:Int)) u))(hm:Hid (∀p q u,(do eqGuard .rem 3 p q (iI (n:Int)) (iI 64);binOp .rem 3 (iI (n:Int)) (iI 64):Sem Value).run Tryz.prog u= .ok (iI (r:Int)) u))(hxs:Hid (∀i,xs.getD i 0<18446744073709551616))(hY0:Hid (yF 0=z12))(hYl:Hid (∀i,(yF i).length=12))(hYb:Hid (∀i j,(yF i).getD j 0<18446744073709551616))(hYs:Hid (∀i,i<8->yF (i+1)=((yF i).set (i+k) ((yF i).getD (i+k) 0 ||| (xs.getD i 0<<<r)%18446744073709551616)).set (i+k+1) ((yF i).getD (i+k+1) 0 ||| xs.getD i 0>>>(64 -r)))):
 CC 119 #[.agg (U64 xs).toArray,iI (n:Int)] w (.agg (U64 (yF 8)).toArray):=by
 go_enter Tryz.func119,Tryz.ntmps119
 go_upto_region 1 with fail
 generalize hC:((w.alloc (.cells (U64 xs:List Value).toArray 91)).alloc (.cells (Z12:List Value).toArray 172))=v0 at *
 have HB0:Bw w v0:=by rw[<-hC];exact Z5 (Z5 (Zf w) _) _
 have K0:Bk w.heap.size v0 [(true,w.heap.size,U64 xs),(true,w.heap.size+1,U64 z12)]:=by rw[<-hC];exact(Bk.nil _ w).ad.ad
 clear hC
 go_upto_region 1 with fail
 refine Rp K0 HB0 [] [(0,5,U64 z12,none)] [] [] [] [] (Oc1 (g_al 0 Wp)) fun u1 b1_0 HB1 _ K1=>?_
 simp only[sQ] at K1⊢
 clear K0 HB0
 go_upto_region 2 with fail
 refine Rn K1 HB1 (cG 0 9 [_,_,_,_] [(4,6,_),(5,7,_)]) (Oc6 g_mv (g_bn (hq.out _ _)) g_mv (g_bn (hm.out _ _)) g_as g_as) fun u2 HB2 _ K2=>?_
 simp only[sQ] at K2⊢
 clear K1 HB1
 go_upto_region 3 with fail
 refine Rn K2 HB2 [(0,13,_)] (Oc1 g_mv) fun u3 HB3 _ K3=>?_
 simp only[sQ] at K3⊢
 clear K2 HB2
 go_wp2_with fail
 go_loopw [13] (fun s13 wr=> ∃(i:Nat),i<=8/\s13=iI (i:Int)/\Bw w wr/\CV wr (w.heap.size) (U64 xs)/\w.heap.size<wr.heap.size/\CV wr (w.heap.size+1) (U64 z12)/\w.heap.size+1<wr.heap.size/\CV wr b1_0 (U64 (yF i))/\b1_0<wr.heap.size) (fun s13 _=>8 -(intOf s13).toNat)
 case atStart=>exact⟨0,Z1,rfl,HB3,(K3.cv 0),(K3.lt 0),(K3.cv 1),(K3.lt 1),by rw[hY0.out];exact(K3.cv 2),(K3.lt 2)⟩
 case round=>
  obtain⟨i,hk,rfl,HBr,C0,lC0,C1,lC1,C2,lC2⟩:=hrel
  clear HB3
  have hnK:=K3.n
  simp at hnK
  have hoK2:=K3.lo 2
  by_cases hj:i<8
  ·have hl:decide ((i:Int)<8)=true:=by simp;omega
   have hx:=hxs.out i
   have hgx:=Y0 xs i Z1
   have hyl:=hYl.out i
   have hg1:=Y0 (yF i) (i+k) Z1
   have hg2:=Y0 ((yF i).set (i+k) ((yF i).getD (i+k) 0 ||| (xs.getD i 0<<<r)%18446744073709551616)) (i+k+1) (by rw[List.length_set];omega)
   have hs:=hYs.out i hj
   have hb1:=hYb.out i (i+k)
   have hb2:((yF i).set (i+k) ((yF i).getD (i+k) 0 ||| (xs.getD i 0<<<r)%18446744073709551616)).getD (i+k+1) 0=(yF i).getD (i+k+1) 0:=by
    rw[Wh _ _ _ _ Z1,if_neg Z1]
   have hb3:=hYb.out i (i+k+1)
   rw[hb2] at hg2
   obtain⟨ys,ey⟩:=Z3 (yF i)
   rw[ey] at hyl hg1 hg2 hs hb1 hb3 C2
   obtain⟨x,ex⟩:=Z3 (xs.getD i 0)
   rw[ex] at hx hgx hg2 hs
   obtain⟨y,ey1⟩:=Z3 (ys.getD (i+k) 0)
   rw[ey1] at hg1 hg2 hb1 hs
   obtain⟨z,ez⟩:=Z3 (ys.getD (i+k+1) 0)
   rw[ez] at hg2 hb3 hs
   have hb5:x>>>(64 -r)<18446744073709551616:=Nat.lt_of_le_of_lt (Nat.shiftRight_le x _) hx
   have hs:Hid _:=hs
   clear ey ex ey1 ez hb2
   have K3_1:Bk w.heap.size wr [(false,w.heap.size,U64 xs),(true,w.heap.size+1,U64 z12),(true,b1_0,U64 ys)]:=⟨.c lC0 C0<| .o lC1 (K3.lo 1) C1<| .o lC2 (K3.lo 2) C2<|trivial,by simp<;>omega⟩
   go_upto_region 4 with fail
   refine Rn K3_1 HBr [(0,14,_)] (Oc1 (g_bn (fun uZ=>Za _ _ (i:Int) 8 _ uZ hl))) fun u4 HB4 sz4 K4=>?_
   simp only[sQ] at K4⊢
   go_upto_region 5 with fail
   refine Rn K4 HB4 [(0,15,_),(1,8,_)] (Oc2 g_mv g_as) fun u5 HB5 sz5 K5=>?_
   simp only[sQ] at K5⊢
   clear K4 HB4
   go_upto_region 6 with fail
   refine Rd K5 HB5 [.no,.no,.all 12 (U64 (ys.set (i+k) (y ||| (x<<<r)%18446744073709551616)))] [] (cG 0 16 [_,_,_,_,_,_,_,_,_,_,_,_] []) [(12,4)] [] [] (Od8 g_mv g_mv (g_bn (fun uZ=>Zu _ _ (i:Int) (k:Int) ((i+k:Nat):Int) uZ Z1 Z1 Z1)) (g_ix (fun uZ=>xb12 b1_0 (i+k) uZ Z1)) (g_lw 2 (i+k) l64 hg1) g_mv (g_ix (fun uZ=>xbW (w.heap.size) i uZ hj)) (g_lw 0 i l64 hgx)<|Oc5 g_mv (g_bn (fun uZ=>shl64i _ _ x r uZ Z1)) (g_bn (fun uZ=>or64 _ _ y ((x<<<r)%18446744073709551616) uZ hb1 (Nat.mod_lt _ Z2))) (g_ix (fun uZ=>xb12 b1_0 (i+k) uZ Z1)) (g_sw 2 (i+k) s64 hg1 (Ul _ _ _))) fun u6 HB6 _ K6=>?_
   simp only[sQ] at K6⊢
   clear K5 HB5
   go_upto_region 7 with fail
   refine Rd K6 HB6 [.no,.no,.all 14 (U64 ((ys.set (i+k) (y ||| (x<<<r)%18446744073709551616)).set (i+k+1) (z ||| x>>>(64 -r))))] [] (cG 0 28 [_,_,_,_,_,_,_,_,_,_,_,_,_,_] []) [(14,5)] [] [] (Od8 g_mv g_mv (g_bn (fun uZ=>Zu _ _ (i:Int) (k:Int) ((i+k:Nat):Int) uZ Z1 Z1 Z1)) (g_bn (fun uZ=>Zu _ _ ((i+k:Nat):Int) 1 ((i+k+1:Nat):Int) uZ Z1 Z1 Z1)) (g_ix (fun uZ=>xb12 b1_0 (i+k+1) uZ Z1)) (g_lw 2 (i+k+1) l64 hg2) g_mv (g_ix (fun uZ=>xbW (w.heap.size) i uZ hj))<|Oc7 (g_lw 0 i l64 hgx) g_mv (g_bn (fun uZ=>Xi _ _ 64 (r:Int) ((64 -r:Nat):Int) uZ Z1 Z1 Z1)) (g_bn (fun uZ=>shr64i _ _ x (64 -r) uZ Z1)) (g_bn (fun uZ=>or64 _ _ z (x>>>(64 -r)) uZ hb3 hb5)) (g_ix (fun uZ=>xb12 b1_0 (i+k+1) uZ Z1)) (g_sw 2 (i+k+1) s64 hg2 (Ul _ _ _))) fun u7 HB7 _ K7=>?_
   simp only[sQ] at K7⊢
   clear K6 HB6
   go_upto_region 8 with fail
   refine Rp K7 HB7 [] [] [(0,42,_),(1,13,_)] [(1,0)] [(1,13)] [] (Oc2 (g_bn (fun uZ=>Zu _ _ (i:Int) 1 ((i+1:Nat):Int) uZ Z1 Z1 Z1)) g_mv) fun u8 HB8 _ K8=>?_
   simp only[sQ] at K8⊢
   clear K7 HB7
   go_wp2
   refine⟨⟨i+1,Z1,rfl,HB8,(K8.cv 0),(K8.lt 0),(K8.cv 1),(K8.lt 1),by rw[hs.out];exact(K8.cv 2),(K8.lt 2)⟩,?_⟩
   simp[intOf]<;>omega
  ·have hl:decide ((i:Int)<8)=false:=by simp;omega
   have hi8:i=8:=Z1
   subst hi8
   have hyl:=hYl.out 8
   have K3_1:Bk w.heap.size wr [(false,w.heap.size,U64 xs),(true,w.heap.size+1,U64 z12),(true,b1_0,U64 (yF 8))]:=⟨.c lC0 C0<| .o lC1 (K3.lo 1) C1<| .o lC2 (K3.lo 2) C2<|trivial,by simp<;>omega⟩
   go_upto_region 4 with fail
   refine Rn K3_1 HBr [(0,14,_)] (Oc1 (g_bn (fun uZ=>Za _ _ ((8:Nat):Int) 8 _ uZ hl))) fun u4 HB4 sz4 K4=>?_
   simp only[sQ] at K4⊢
   go_upto_region 9 with fail
   refine Rp K4 HB4 [.no,.all 1 (U64 (yF 8))] [] [(0,43,_)] [] [] [] (Oc2 (g_lR 2 0 (cs:=U64 (yF 8)) (fun j v h=>by rw[Nat.zero_add];exact h) Tryz.underlying172 (by rw[Y8,hyl];exact Yh)) (g_st 1 Yh (h1:=U64_a1 _) (hm:=by rw[Y8,hyl]) (hl:=by first | rw[Y8,Y8,hyl,show z12.length=12 from rfl] | rfl))) fun u5 HB5 sz5 K5=>?_
   simp only[sQ] at K5⊢
   clear K4 HB4
   go_wp2
   refine bodyPost_ret (Xq Tryz.results119 rfl (K5.cv 1) Tryz.underlying172 rfl (by rw[Y8,hyl];exact Yh)) rfl ⟨rfl,HB5⟩
theorem cLift(n u:Nat)(w:World)(hn:n<18446744073709551616^8)(hu:u<=255):CC 119 #[.agg (U64 (dgs 8 n)).toArray,iI (u:Int)] w (.agg (U64 (dgs 12 (n*2^u))).toArray):=by
 have H:=lift_core (dgs 8 n) u (u/64) (u%64) (fun i=>dgs 12 (n%18446744073709551616^i*2^u)) w (Yz _ _) Z1 Z1 (fun p q x=>quo_n p q u 64 x Z1 Z2) (fun p q x=>rem_n p q u 64 x Z1 Z2) (fun i=>dgs_lt _ _ _) (by
  show dgs 12 (n%18446744073709551616^0*2^u)=z12
  rw[Nat.pow_zero,Nat.mod_one,Nat.zero_mul];decide) (fun _=>Yz _ _) (fun _ _=>dgs_lt _ _ _) (fun i hi=>by rw[Ym hi];exact lift_st Z1)
 simp only[Nat.mod_eq_of_lt hn] at H
 exact H
theorem lower_core(xs:List Nat)(n k r:Nat)(yF:Nat->List Nat)(w:World)(hxl:xs.length=4)(hk:k<=3)(hr:r<=63)(hq:Hid (∀p q u,(do eqGuard .quo 3 p q (iI (n:Int)) (iI 64);binOp .quo 3 (iI (n:Int)) (iI 64):Sem Value).run Tryz.prog u= .ok (iI (k:Int)) u))(hm:Hid (∀p q u,(do eqGuard .rem 3 p q (iI (n:Int)) (iI 64);binOp .rem 3 (iI (n:Int)) (iI 64):Sem Value).run Tryz.prog u= .ok (iI (r:Int)) u))(hxs:Hid (∀i,xs.getD i 0<18446744073709551616))(hY0:Hid (yF 0=zn4))(hYl:Hid (∀i,(yF i).length=4))(hY1:Hid (∀i,i+k+1<4->yF (i+1)=((yF i).set i (xs.getD (i+k) 0>>>r)).set i (xs.getD (i+k) 0>>>r ||| (xs.getD (i+k+1) 0<<<(64 -r))%18446744073709551616)))(hY2:Hid (∀i,i+k+1=4->yF (i+1)=(yF i).set i (xs.getD (i+k) 0>>>r))):
 CC 121 #[.agg (U64 xs).toArray,iI (n:Int)] w (.agg (U64 (yF (4 -k))).toArray):=by
 go_enter Tryz.func121,Tryz.ntmps121
 go_upto_region 1 with fail
 obtain⟨v0,hC,HB0,K0⟩:=bx2 w (U64 xs) 24 Lq 24
 rw[hC]
 clear hC
 go_upto_region 1 with fail
 refine Rp K0 HB0 [] [(0,5,Lq,none)] [] [] [] [] (Oc1 (g_al 0 aQ)) fun u1 b1_0 HB1 _ K1=>?_
 simp only[sQ] at K1⊢
 clear K0 HB0
 go_upto_region 2 with fail
 refine Rn K1 HB1 (cG 0 9 [_,_,_,_] [(4,6,_),(5,7,_)]) (Oc6 g_mv (g_bn (hq.out _ _)) g_mv (g_bn (hm.out _ _)) g_as g_as) fun u2 HB2 _ K2=>?_
 simp only[sQ] at K2⊢
 clear K1 HB1
 go_upto_region 3 with fail
 refine Rn K2 HB2 (cG 0 13 [_,_,_] []) (Oc3 g_mv (g_bn (fun uZ=>Xi _ _ 4 (k:Int) ((4 -k:Nat):Int) uZ Z1 Z1 Z1)) g_mv) fun u3 HB3 _ K3=>?_
 simp only[sQ] at K3⊢
 clear K2 HB2
 go_wp2_with fail
 go_loopw [15] (fun s15 wr=> ∃(i:Nat),i<=4 -k/\s15=iI (i:Int)/\Bw w wr/\CV wr (w.heap.size) (U64 xs)/\w.heap.size<wr.heap.size/\CV wr (w.heap.size+1) (U64 zn4)/\w.heap.size+1<wr.heap.size/\CV wr b1_0 (U64 (yF i))/\b1_0<wr.heap.size) (fun s15 _=>4 -k -(intOf s15).toNat)
 case atStart=>exact⟨0,Z1,rfl,HB3,(K3.cv 0),(K3.lt 0),(K3.cv 1),(K3.lt 1),by rw[hY0.out];exact(K3.cv 2),(K3.lt 2)⟩
 case round=>
  obtain⟨i,hk,rfl,HBr,C0,lC0,C1,lC1,C2,lC2⟩:=hrel
  clear HB3
  have hnK:=K3.n
  simp at hnK
  have hoK2:=K3.lo 2
  by_cases hj:i<4 -k
  ·have hl:decide ((i:Int)<((4 -k:Nat):Int))=true:=by simp;omega
   have hgx:=Y0 xs (i+k) Z1
   have hx:=hxs.out (i+k)
   have hyl:=hYl.out i
   have hg1:=Y0 (yF i) i Z1
   obtain⟨ys,ey⟩:=Z3 (yF i)
   obtain⟨x,ex⟩:=Z3 (xs.getD (i+k) 0)
   obtain⟨y,ey1⟩:=Z3 (ys.getD i 0)
   have hg2:=Y0 (ys.set i (x>>>r)) i (by rw[List.length_set,<-ey];omega)
   rw[Wh _ _ _ _ (by rw[<-ey];omega),if_pos rfl] at hg2
   rw[ey] at hyl hg1 C2
   rw[ex] at hgx hx
   rw[ey1] at hg1
   have hxr:x>>>r<18446744073709551616:=Nat.lt_of_le_of_lt (Nat.shiftRight_le x _) hx
   by_cases hc:i+k+1<4
   ·have hgz:=Y0 xs (i+k+1) Z1
    obtain⟨z,ez⟩:=Z3 (xs.getD (i+k+1) 0)
    have hs:=hY1.out i hc
    rw[ey,ex,ez] at hs
    rw[ez] at hgz
    have hs:Hid _:=hs
    clear ey ex ey1 ez
    have K3_1:Bk w.heap.size wr [(false,w.heap.size,U64 xs),(true,w.heap.size+1,U64 zn4),(true,b1_0,U64 ys)]:=⟨.c lC0 C0<| .o lC1 (K3.lo 1) C1<| .o lC2 (K3.lo 2) C2<|trivial,by simp<;>omega⟩
    go_upto_region 4 with fail
    refine Rn K3_1 HBr [(0,16,_)] (Oc1 (g_bn (fun uZ=>Za _ _ (i:Int) ((4 -k:Nat):Int) _ uZ hl))) fun u4 HB4 sz4 K4=>?_
    simp only[sQ] at K4⊢
    go_upto_region 5 with fail
    refine Rn K4 HB4 [(0,17,_),(1,8,_)] (Oc2 g_mv g_as) fun u5 HB5 sz5 K5=>?_
    simp only[sQ] at K5⊢
    clear K4 HB4
    go_upto_region 6 with fail
    refine Rp K5 HB5 [.no,.no,.all 9 (U64 (ys.set i (x>>>r)))] [] (cG 0 18 [_,_,_,_,_,_,_,_,_] []) [] [] [] (Oc10 g_mv g_mv g_mv (g_bn (fun uZ=>Zu _ _ (i:Int) (k:Int) ((i+k:Nat):Int) uZ Z1 Z1 Z1)) (g_ix (fun uZ=>xbN (w.heap.size) (i+k) uZ Z1)) (g_lw 0 (i+k) l64 hgx) g_mv (g_bn (fun uZ=>shr64i _ _ x r uZ Z1)) (g_ix (fun uZ=>xbN b1_0 i uZ Z1)) (g_sw 2 i s64 hg1 (Ul _ _ _))) fun u6 HB6 sz6 K6=>?_
    simp only[sQ] at K6⊢
    clear K5 HB5
    go_upto_region 7 with fail
    refine Rn K6 HB6 (cG 0 27 [_,_,_,_,_] []) (Oc5 g_mv g_mv (g_bn (fun uZ=>Zu _ _ (i:Int) (k:Int) ((i+k:Nat):Int) uZ Z1 Z1 Z1)) (g_bn (fun uZ=>Zu _ _ ((i+k:Nat):Int) 1 ((i+k+1:Nat):Int) uZ Z1 Z1 Z1)) (g_bn (fun uZ=>Za _ _ ((i+k+1:Nat):Int) 4 true uZ (by simp;omega)))) fun u7 HB7 sz7 K7=>?_
    simp only[sQ] at K7⊢
    clear K6 HB6
    go_upto_region 8 with fail
    refine Rd K7 HB7 [.no,.no,.all 14 (U64 ((ys.set i (x>>>r)).set i (x>>>r ||| (z<<<(64 -r))%18446744073709551616)))] [] (cG 0 32 [_,_,_,_,_,_,_,_,_,_,_,_,_,_] []) [(14,2)] [] [] (Od8 g_mv (g_ix (fun uZ=>xbN b1_0 i uZ Z1)) (g_lw 2 i l64 hg2) g_mv g_mv (g_bn (fun uZ=>Zu _ _ (i:Int) (k:Int) ((i+k:Nat):Int) uZ Z1 Z1 Z1)) (g_bn (fun uZ=>Zu _ _ ((i+k:Nat):Int) 1 ((i+k+1:Nat):Int) uZ Z1 Z1 Z1)) (g_ix (fun uZ=>xbN (w.heap.size) (i+k+1) uZ hc))<|Oc7 (g_lw 0 (i+k+1) l64 hgz) g_mv (g_bn (fun uZ=>Xi _ _ 64 (r:Int) ((64 -r:Nat):Int) uZ Z1 Z1 Z1)) (g_bn (fun uZ=>shl64i _ _ z (64 -r) uZ Z1)) (g_bn (fun uZ=>or64 _ _ (x>>>r) ((z<<<(64 -r))%18446744073709551616) uZ hxr (Nat.mod_lt _ Z2))) (g_ix (fun uZ=>xbN b1_0 i uZ Z1)) (g_sw 2 i s64 hg2 (Ul _ _ _))) fun u8 HB8 sz8 K8=>?_
    simp only[sQ] at K8⊢
    clear K7 HB7
    go_upto_region 9 with fail
    refine Rp K8 HB8 [] [] [(0,46,_),(1,15,_)] [(1,0)] [(1,15)] [] (Oc2 (g_bn (fun uZ=>Zu _ _ (i:Int) 1 ((i+1:Nat):Int) uZ Z1 Z1 Z1)) g_mv) fun u9 HB9 _ K9=>?_
    simp only[sQ] at K9⊢
    clear K8 HB8
    go_wp2
    refine⟨⟨i+1,Z1,rfl,HB9,(K9.cv 0),(K9.lt 0),(K9.cv 1),(K9.lt 1),by rw[hs.out];exact(K9.cv 2),(K9.lt 2)⟩,?_⟩
    simp[intOf]<;>omega
   ·have hs:=hY2.out i Z1
    rw[ey,ex] at hs
    have hs:Hid _:=hs
    clear ey ex ey1
    have K3_1:Bk w.heap.size wr [(false,w.heap.size,U64 xs),(true,w.heap.size+1,U64 zn4),(true,b1_0,U64 ys)]:=⟨.c lC0 C0<| .o lC1 (K3.lo 1) C1<| .o lC2 (K3.lo 2) C2<|trivial,by simp<;>omega⟩
    go_upto_region 4 with fail
    refine Rn K3_1 HBr [(0,16,_)] (Oc1 (g_bn (fun uZ=>Za _ _ (i:Int) ((4 -k:Nat):Int) _ uZ hl))) fun u4 HB4 sz4 K4=>?_
    simp only[sQ] at K4⊢
    go_upto_region 5 with fail
    refine Rn K4 HB4 [(0,17,_),(1,8,_)] (Oc2 g_mv g_as) fun u5 HB5 sz5 K5=>?_
    simp only[sQ] at K5⊢
    clear K4 HB4
    go_upto_region 6 with fail
    refine Rp K5 HB5 [.no,.no,.all 9 (U64 (ys.set i (x>>>r)))] [] (cG 0 18 [_,_,_,_,_,_,_,_,_] []) [] [] [] (Oc10 g_mv g_mv g_mv (g_bn (fun uZ=>Zu _ _ (i:Int) (k:Int) ((i+k:Nat):Int) uZ Z1 Z1 Z1)) (g_ix (fun uZ=>xbN (w.heap.size) (i+k) uZ Z1)) (g_lw 0 (i+k) l64 hgx) g_mv (g_bn (fun uZ=>shr64i _ _ x r uZ Z1)) (g_ix (fun uZ=>xbN b1_0 i uZ Z1)) (g_sw 2 i s64 hg1 (Ul _ _ _))) fun u6 HB6 sz6 K6=>?_
    simp only[sQ] at K6⊢
    clear K5 HB5
    go_upto_region 7 with fail
    refine Rn K6 HB6 (cG 0 27 [_,_,_,_,_] []) (Oc5 g_mv g_mv (g_bn (fun uZ=>Zu _ _ (i:Int) (k:Int) ((i+k:Nat):Int) uZ Z1 Z1 Z1)) (g_bn (fun uZ=>Zu _ _ ((i+k:Nat):Int) 1 ((i+k+1:Nat):Int) uZ Z1 Z1 Z1)) (g_bn (fun uZ=>Za _ _ ((i+k+1:Nat):Int) 4 false uZ (by simp;omega)))) fun u7 HB7 sz7 K7=>?_
    simp only[sQ] at K7⊢
    clear K6 HB6
    go_upto_region 9 with fail
    refine Rp K7 HB7 [] [] [(0,46,_),(1,15,_)] [(1,0)] [(1,15)] [] (Oc2 (g_bn (fun uZ=>Zu _ _ (i:Int) 1 ((i+1:Nat):Int) uZ Z1 Z1 Z1)) g_mv) fun u8 HB8 sz8 K8=>?_
    simp only[sQ] at K8⊢
    clear K7 HB7
    go_wp2
    refine⟨⟨i+1,Z1,rfl,HB8,(K8.cv 0),(K8.lt 0),(K8.cv 1),(K8.lt 1),by rw[hs.out];exact(K8.cv 2),(K8.lt 2)⟩,?_⟩
    simp[intOf]<;>omega
  ·have hl:decide ((i:Int)<((4 -k:Nat):Int))=false:=by simp;omega
   have hi8:i=4 -k:=Z1
   subst hi8
   have hyl:=hYl.out (4 -k)
   have K3_1:Bk w.heap.size wr [(false,w.heap.size,U64 xs),(true,w.heap.size+1,U64 zn4),(true,b1_0,U64 (yF (4 -k)))]:=⟨.c lC0 C0<| .o lC1 (K3.lo 1) C1<| .o lC2 (K3.lo 2) C2<|trivial,by simp<;>omega⟩
   go_upto_region 4 with fail
   refine Rn K3_1 HBr [(0,16,_)] (Oc1 (g_bn (fun uZ=>Za _ _ ((4 -k:Nat):Int) ((4 -k:Nat):Int) _ uZ hl))) fun u4 HB4 sz4 K4=>?_
   simp only[sQ] at K4⊢
   go_upto_region 10 with fail
   refine Rp K4 HB4 [.no,.all 1 (U64 (yF (4 -k)))] [] [(0,47,_)] [] [] [] (Oc2 (g_lR 2 0 (cs:=U64 (yF (4 -k))) (fun j v h=>by rw[Nat.zero_add];exact h) Tryz.underlying24 (by rw[Y8,hyl];exact Wk)) (g_st 1 Wk (h1:=U64_a1 _) (hm:=by rw[Y8,hyl]) (hl:=by first | rw[Y8,Y8,hyl,show zn4.length=4 from rfl] | rfl))) fun u5 HB5 sz5 K5=>?_
   simp only[sQ] at K5⊢
   clear K4 HB4
   go_wp2
   refine bodyPost_ret (Xq Tryz.results121 rfl (K5.cv 1) Tryz.underlying24 rfl (by rw[Y8,hyl];exact Wk)) rfl ⟨rfl,HB5⟩
def upD(m n:Nat):Nat->List Nat
 | 0=>List.replicate m 0
 | i+1=>(upD m n i).set i (dgq n i)
theorem upD_len(m n:Nat): ∀i,(upD m n i).length=m
 | 0=>List.length_replicate ..
 | i+1=>by rw[upD,List.length_set];exact upD_len m n i
theorem upD_get(m n:Nat): ∀i,i<=m-> ∀j,(upD m n i).getD j 0=if j<i then dgq n j else 0
 | 0,_,j=>by rw[upD,if_neg Z1,List.getD_eq_getElem?_getD,List.getElem?_replicate];split<;>rfl
 | i+1,h,j=>by
  rw[upD,Wh _ _ _ _ (by rw[upD_len];omega),upD_get m n i Z1 j]
  by_cases h1:j=i
  ·subst h1;rw[if_pos rfl,if_pos Z1]
  ·rw[if_neg h1];by_cases h2:j<i
   ·rw[if_pos h2,if_pos Z1]
   ·rw[if_neg h2,if_neg Z1]
theorem upD_all{m n k:Nat}(hk:k<=m)(h:n<18446744073709551616^k):upD m n k=dgs m n:=list_ext (n:=m) (upD_len _ _ _) (Yz _ _) fun j hj=>by
 rw[upD_get m n k hk,Ym hj]
 split
 ·rfl
 ·rw[dgt_0 (Nat.lt_of_lt_of_le h (Nat.pow_le_pow_right Z2 Z1))]
theorem set_set(l:List Nat)(i x y:Nat):(l.set i x).set i y=l.set i y:=List.set_set ..
theorem cLower(n u:Nat)(w:World)(hn:n<18446744073709551616^4)(hu:u<=255):CC 121 #[.agg (U64 (dgs 4 n)).toArray,iI (u:Int)] w (.agg (U64 (dgs 4 (n/2^u))).toArray):=by
 have hlt:n/2^u<18446744073709551616^(4 -u/64):=by
  rw[pw_split u]
  refine Nat.div_lt_of_lt_mul ?_
  have h1:18446744073709551616^(u/64)*18446744073709551616^(4 -u/64)=18446744073709551616^4:=by rw[<-Nat.pow_add];congr 1;omega
  refine Nat.lt_of_lt_of_le hn ?_
  rw[<-h1,Nat.mul_right_comm]
  exact Nat.le_mul_of_pos_right _ (Nat.two_pow_pos _)
 have H:=lower_core (dgs 4 n) u (u/64) (u%64) (upD 4 (n/2^u)) w (Yz _ _) Z1 Z1 (fun p q x=>quo_n p q u 64 x Z1 Z2) (fun p q x=>rem_n p q u 64 x Z1 Z2) (fun i=>dgs_lt _ _ _) rfl (upD_len _ _) (fun i hi=>by
  rw[upD,set_set,Ym Z1,Ym Z1,lower_dg]) (fun i hi=>by
  rw[upD,Ym Z1,lower_dg,show dgq n (i+u/64+1)=0 by rw[hi];exact dgt_0 hn,Nat.zero_shiftLeft,Nat.zero_mod,Nat.or_zero])
 rw[upD_all Z1 hlt] at H
 exact H
end Go.Proofs.YtoffgfhilkpdpaaGreatDoor
