import Derived.Test.YtclafkfelkmigaaGreatDoorCTD
namespace Go.Proofs.YtclafkfelkmigaaGreatDoor
set_option linter.unusedVariables false
set_option linter.unusedSimpArgs false
set_option maxRecDepth 100000
set_option maxHeartbeats 4000000
section
open Go.RowKit
abbrev SZ:Value:= .agg L0h.toArray
theorem bdSh(n s t:Int)(w:World):(Instr.build 38 [(0,iI n),(1,NV s),(2,NV t)].toArray).run Tryz.prog w= .ok (SX n s t) w:=by kernel_rfl
theorem fdS0(b:Nat)(w:World):(Instr.fieldAt 38 (.pointer (some ⟨b,0,none⟩)) 0).run Tryz.prog w= .ok (.pointer (some ⟨b,0,none⟩)) w:=by go_simp
theorem fdS1(b:Nat)(w:World):(Instr.fieldAt 38 (.pointer (some ⟨b,0,none⟩)) 1).run Tryz.prog w= .ok (.pointer (some ⟨b,1,none⟩)) w:=by go_simp
theorem fdS2(b:Nat)(w:World):(Instr.fieldAt 38 (.pointer (some ⟨b,0,none⟩)) 2).run Tryz.prog w= .ok (.pointer (some ⟨b,5,none⟩)) w:=by go_simp
theorem Yh:EnT 17:=fun _ _=>by kernel_rfl
theorem V9:EnT 32:=fun _ _=>by kernel_rfl
theorem ent_K3:EnT 33:=fun _ _=>by kernel_rfl
theorem ent_K4:EnT 64:=fun _ _=>by kernel_rfl
theorem ent_K5:EnT 19:=fun _ _=>by kernel_rfl
theorem ent_K6:EnT 41:=fun _ _=>by kernel_rfl
theorem xshr_k(p q g h nd x y e1 e2:Int)(sa sb:Option Addr)(n m ca cb:Nat)(w:World)(h0:0<=nd)(h1:nd<=16)(hC:Hid (∀u,CC 16 #[GX p q g h] u (iI 0)))(hS:Hid (∀u,CC 17 #[.slice sa n ca,.slice sb m cb] u (.bool true)))(hN:Hid (∀u,CC 18 #[iI nd] u (.bool true)))(hE1:Hid (∀u,Bw w u->CC 19 #[NV q,.slice sa n ca,NV nd] u (.tuple #[NV x,iI e1])))(hE2:Hid (∀u,Bw w u->CC 19 #[NV q,.slice sb m cb,NV nd] u (.tuple #[NV y,iI e2]))):
 CC 7 #[GX p q g h,iI nd,.slice sa n ca,.slice sb m cb] w (.tuple #[SX nd x y,iI 0]):=by
 go_enter Tryz.func7,Tryz.ntmps7
 go_upto_region 1 with fail
 obtain⟨v0,hC,HB0,K0⟩:=bx2 w (GE p q g h) 43 L0h 38
 rw[hC]
 clear hC
 refine Rn K0 HB0 (cG 0 14 [_,_,_] []) (Oc3 (g_ld 0 Tryz.underlying43 Z0) (g_cl ent_K1 hC.out) (g_bn (fun uZ=>Ys _ _ _ 0 0 _ uZ rfl))) fun u1 HB1 _ K1=>?_
 simp only[sQ] at K1⊢
 go_upto_region 3 with fail
 refine Rn K1 HB1 (cG 0 18 [_,_,_,_] []) (Oc4 g_mv g_mv (g_cl Yh hS.out) (g_un W1)) fun u2 HB2 _ K2=>?_
 simp only[sQ] at K2⊢
 go_upto_region 5 with fail
 refine Rn K2 HB2 (cG 0 23 [_,_,_] []) (Oc3 g_mv (g_cl Zi hN.out) (g_un W1)) fun u3 HB3 _ K3=>?_
 simp only[sQ] at K3⊢
 go_upto_region 7 with fail
 refine Rp K3 HB3 [] [(10,10,L0s,some (11,LN x))] (cG 0 28 [_,_,_,_,_,_,_] [(7,27,_),(8,35,_),(9,36,_),(12,11,_)]) [(11,10)] [] [] (Od8 (g_fd (fdG1 _)) (g_lo 0 4 uN iN) g_mv g_mv (g_op (fun ev uZ he=>cviP uZ h0 (by omega) rfl (he _ _ rfl))) (g_bd (fun uZ=>bdNk nd h0 (by omega) uZ)) (g_cb ent_K5 hE1.out) g_mv<|Oc5 g_ex g_ex (g_al 0 aN) (g_sn 0 iN) g_as) fun u4 b4_10 HB4 _ K4=>?_
 simp only[sQ] at K4⊢
 go_upto_region 8 with fail
 refine Rp K4 HB4 [] [(10,12,L0s,some (11,LN y))] (cG 0 38 [_,_,_,_,_,_,_] [(7,37,_),(8,45,_),(9,46,_),(12,13,_)]) [(11,10)] [] [] (Od8 (g_fd (fdG1 _)) (g_lo 0 4 uN iN) g_mv g_mv (g_op (fun ev uZ he=>cviP uZ h0 (by omega) rfl (he _ _ rfl))) (g_bd (fun uZ=>bdNk nd h0 (by omega) uZ)) (g_cb ent_K5 hE2.out) g_mv<|Oc5 g_ex g_ex (g_al 0 aN) (g_sn 0 iN) g_as) fun u5 b5_10 HB5 _ K5=>?_
 simp only[sQ] at K5⊢
 go_upto_region 9 with fail
 refine Rp K5 HB5 [.no,.all 4 (SE nd x y)] [] (cG 0 47 [_,_,_,_] [(5,9,_)]) [] [] [] (Oc6 g_mv (g_ld 2 uN iN) (g_ld 3 uN iN) (g_bd (bdSh nd x y)) (g_st 1 Zr) g_as) fun u6 HB6 _ K6=>?_
 simp only[sQ] at K6⊢
 have c8_0:=((K6.cv 1) 0 _ rfl).1
 have c8_1:=((K6.cv 1) 1 _ rfl).1
 have c8_2:=((K6.cv 1) 2 _ rfl).1
 have c8_3:=((K6.cv 1) 3 _ rfl).1
 have c8_4:=((K6.cv 1) 4 _ rfl).1
 have c8_5:=((K6.cv 1) 5 _ rfl).1
 have c8_6:=((K6.cv 1) 6 _ rfl).1
 have c8_7:=((K6.cv 1) 7 _ rfl).1
 have c8_8:=((K6.cv 1) 8 _ rfl).1
 go_wp2
 refine bodyPost_ret (v:= .tuple #[SX nd x y,iI 0]) (by simp[results,Tryz.results7,go_sem,c8_0,c8_1,c8_2,c8_3,c8_4,c8_5,c8_6,c8_7,c8_8]) rfl ⟨rfl,HB6⟩
def shO(p q nd:Int)(ss ts:List Int):Int:=if gOk p q then (if shB ss.length ts.length then (if ndB nd then 0 else 2) else 110) else 90
def shV(p q nd:Int)(ss ts:List Int):Value:=if shO p q nd ss ts=0 then SX nd (hoN q nd ss ss.length) (hoN q nd ts ts.length) else SZ
theorem ndB_iff{n:Int}:ndB n=true↔1<=n/\n<=16:=decide_eq_true_iff
theorem shB_iff{n m:Nat}:shB n m=true↔n=m/\1<=n/\n<=6:=decide_eq_true_iff
theorem xShareG(p q g h nd:Int)(ss ts:List Int)(v v2:Value)(w:World)(hp:In p)(hq:In q)(hv:NL w v ss)(hv2:NL w v2 ts)(hs: ∀z∈ss,In z)(ht: ∀z∈ts,In z)(hl:ss.length<=256)(hl2:ts.length<=256)(c1:gOk p q)(c2:shB ss.length ts.length=true)(c3:ndB nd=true):CC 7 #[GX p q g h,iI nd,v,v2] w (.tuple #[shV p q nd ss ts,iI (shO p q nd ss ts)]):=by
 have a':=hv
 have b':=hv2
 obtain⟨sa,ga,oa,ca,rfl,_⟩:=hv
 obtain⟨sb,gb,ob,cb,rfl,_⟩:=hv2
 have hC:=fun u=>Uj p q g h u hp hq c1
 have hS:=fun u=>xShaped sa sb ss.length ts.length ca cb u
 have hN:=fun u=>xNode nd u
 rw[c2] at hS
 rw[c3] at hN
 have hb:=ndB_iff.1 c3
 have hb2:=shB_iff.1 c2
 have hq3:=c1.q3
 have e0:shO p q nd ss ts=0:=by simp[shO,c1,c2,c3]
 rw[shV,if_pos e0,e0]
 exact xshr_k p q g h nd _ _ _ _ sa sb _ _ ca cb w (by omega) (by omega) hC hS hN (fun u hB=>xEvalK q nd ss _ u hq ⟨by omega,by omega⟩ (a'.up hB) hs hl (by omega) (by omega)) (fun u hB=>xEvalK q nd ts _ u hq ⟨by omega,by omega⟩ (b'.up hB) ht hl2 (by omega) (by omega))
def atO(p q nd:Int)(ns:List Int):Nat->Int
 | 0=>1
 | k+1=>(atO p q nd ns k*(ns.getD k 0^(pwN q nd k).toNat%p))%p
theorem atO_In{p q nd:Int}{ns:List Int}(hp:In p)(hp0:p≠0): ∀k,In (atO p q nd ns k)
 | 0=>In_1
 | k+1=>Zg hp hp0
theorem xat_k(p q g h d nd:Int)(sl:Option Addr)(gb go cap:Nat)(ns:List Int)(w:World)(hK:Hid (∀u,Bw w u->CC 63 #[GX p q g h,DX d (.slice sl ns.length cap)] u (iI 0)))(hN:Hid (∀u,CC 18 #[iI nd] u (.bool true)))(hp:In p)(hq:In q)(hp0:p≠0)(hq0:q≠0)(h0:0<=nd)(h1:nd<=16)(hix:Hid (∀j,j<ns.length-> ∀W,(Instr.indexAt 27 (.slice sl ns.length cap) (iI j)).run Tryz.prog W= .ok (.pointer (some ⟨gb,go+4*j,none⟩)) W))(hg:ns.length=0\/gb<w.heap.size)(hS:Hid (SN w gb go ns))(hn:Hid (∀k,k<ns.length->In (ns.getD k 0)))(hns:ns.length<=1000):
 CC 32 #[GX p q g h,DX d (.slice sl ns.length cap),iI nd] w (.tuple #[NV (atO p q nd ns ns.length),iI 0]):=by
 go_enter Tryz.func32,Tryz.ntmps32
 go_upto_region 1 with fail
 obtain⟨v0,hC,HB0,K0⟩:=bx3 w (GE p q g h) 43 (DE d (.slice sl ns.length cap)) 29 L0s 36
 rw[hC]
 clear hC
 refine Rn K0 HB0 (cG 0 14 [_,_,_] [(3,8,_)]) (Oc4 (g_ld 0 Tryz.underlying43 Z0) (g_ld 1 Tryz.underlying29 Z7) (g_cb W6 hK.out) g_as) fun u1 HB1 _ K1=>?_
 simp only[sQ] at K1⊢
 go_upto_region 2 with fail
 refine Rn K1 HB1 [(0,17,_),(1,18,_)] (Oc2 g_mv (g_bn (fun uZ=>Ys _ _ _ 0 0 _ uZ rfl))) fun u2 HB2 _ K2=>?_
 simp only[sQ] at K2⊢
 go_upto_region 4 with fail
 refine Rn K2 HB2 (cG 0 21 [_,_,_] []) (Oc3 g_mv (g_cl Zi hN.out) (g_un W1)) fun u3 HB3 _ K3=>?_
 simp only[sQ] at K3⊢
 go_upto_region 6 with fail
 refine Rp K3 HB3 [] [(2,9,L0s,some (4,LN 1)),(3,10,L0s,some (5,LN 1))] [(0,25,_),(1,26,_)] [(4,2),(5,3)] [] [] (Oc6 (g_bd (fun uZ=>bdNk 1 (by omega) (by omega) uZ)) (g_bd (fun uZ=>bdNk 1 (by omega) (by omega) uZ)) (g_al 0 aN) (g_al 1 aN) (g_sn 0 iN) (g_sn 1 iN)) fun u4 b4_2 b4_3 HB4 _ K4=>?_
 simp only[sQ] at K4⊢
 go_upto_region 7 with fail
 refine Rn K4 HB4 [(0,11,_)] (Oc1 g_as) fun u5 HB5 _ K5=>?_
 simp only[sQ] at K5⊢
 go_wp2_with fail
 go_loopw [11] (fun s11 wr=> ∃(k:Nat),k<=ns.length/\s11=iI (k:Int)/\Bw w wr/\CV wr (w.heap.size) (GE p q g h)/\w.heap.size<wr.heap.size/\CV wr (w.heap.size+1) (DE d (.slice sl ns.length cap))/\w.heap.size+1<wr.heap.size/\CV wr (w.heap.size+1+1) (L0s)/\w.heap.size+1+1<wr.heap.size/\CV wr b4_2 (LN (atO p q nd ns k))/\b4_2<wr.heap.size/\CV wr b4_3 (LN (pwN q nd k))/\b4_3<wr.heap.size) (fun s11 _=>ns.length -(intOf s11).toNat)
 case atStart=>exact⟨0,by omega,rfl,HB5,(K5.cv 0),(K5.lt 0),(K5.cv 1),(K5.lt 1),(K5.cv 2),(K5.lt 2),(K5.cv 3),(K5.lt 3),(K5.cv 4),(K5.lt 4)⟩
 case round=>
  obtain⟨k,hk,rfl,HBr,C0,lC0,C1,lC1,C2,lC2,C3,lC3,C4,lC4⟩:=hrel
  have hnK:=K5.n
  simp at hnK
  have hoK3:=K5.lo 3
  have hoK4:=K5.lo 4
  by_cases hj:k<ns.length
  ·have hl:decide ((k:Int)<(ns.length:Int))=true:=by simp;omega
   have hX:=hix.out _ hj
   have hX:Hid _:=hX
   have hR:=hS.out.at _ hj
   have hR:Hid _:=hR
   have ix:=hn.out k hj
   have hg':=hg.resolve_left (by omega)
   have ia:=atO_In (q:=q) (nd:=nd) (ns:=ns) hp hp0 k
   have iw:=pwN_In (x:=nd) hq hq0 k
   have ea:Hid (atO p q nd ns (k+1)=(atO p q nd ns k*(ns.getD k 0^(pwN q nd k).toNat%p))%p):=rfl
   have ew:Hid (pwN q nd (k+1)=(pwN q nd k*nd)%q):=rfl
   obtain⟨x,ex⟩: ∃x,ns.getD k 0=x:=⟨_,rfl⟩
   rw[ex] at hR ix ea
   clear ex
   obtain⟨o,eo⟩: ∃o,atO p q nd ns k=o:=⟨_,rfl⟩
   rw[eo] at ia ea C3
   clear eo
   obtain⟨y,ey⟩: ∃y,pwN q nd k=y:=⟨_,rfl⟩
   rw[ey] at iw ew ea C4
   clear ey
   have hE:Hid (∀u,CC 64 #[NV x,NV y,NV p] u (.tuple #[NV (x^y.toNat%p),iI 0])):=fun u=>xExp x y p u ix iw hp hp0
   obtain⟨z,ez⟩: ∃z,x^y.toNat%p=z:=⟨_,rfl⟩
   have iz:In z:=by rw[<-ez];exact Zg hp hp0
   rw[ez] at ea hE
   clear ez
   have K5_1:Bk w.heap.size wr [(false,w.heap.size,GE p q g h),(false,w.heap.size+1,DE d (.slice sl ns.length cap)),(true,w.heap.size+1+1,L0s),(true,b4_2,LN o),(true,b4_3,LN y)]:=⟨.c lC0 C0<| .c lC1 C1<| .o lC2 (K5.lo 2) C2<| .o lC3 (K5.lo 3) C3<| .o lC4 (K5.lo 4) C4<|trivial,by simp<;>omega⟩
   go_upto_region 8 with fail
   refine Rn K5_1 HBr (cG 0 27 [_,_,_,_,_] []) (Oc5 g_mv (g_fd (fdD1 _)) (g_lc 1 1 lSN) (g_ln Tryz.underlying27) (g_bn (fun uZ=>Z8 _ _ (k:Int) (ns.length:Int) _ uZ hl))) fun u6 HB6 sz6 K6=>?_
   simp only[sQ] at K6⊢
   go_upto_region 10 with fail
   refine Rd K6 HB6 [] [(12,12,L0s,some (13,LN z))] (cG 0 35 [_,_,_,_,_,_,_,_,_] [(9,34,_),(10,44,_),(11,45,_),(14,13,_)]) [(13,12)] [] [] (Od8 (g_fd (fdD1 _)) (g_lc 1 1 lSN) g_mv (g_ix hX.out) (g_lf hR.out hg' uN iN) (g_ld 4 uN iN) (g_fd (fdG0 _)) (g_lo 0 0 uN iN)<|Oc7 (g_cl ent_K4 hE.out) g_mv g_ex g_ex (g_al 0 aN) (g_sn 0 iN) g_as) fun u7 b7_12 HB7 sz7 K7=>?_
   simp only[sQ] at K7⊢
   go_upto_region 11 with fail
   refine Rp K7 HB7 [.no,.no,.no,.all 8 (LN (o*z%p))] [] (cG 0 47 [_,_,_,_,_] [(5,46,_),(6,52,_),(7,53,_)]) [(8,0)] [] [] (Oc9 (g_ld 3 uN iN) (g_ld 5 uN iN) (g_fd (fdG0 _)) (g_lo 0 0 uN iN) (g_cl ent_K6 (fun uZ=>xMul o z p uZ ia iz hp hp0)) g_mv g_ex g_ex (g_st 3 iN)) fun u8 HB8 _ K8=>?_
   simp only[sQ] at K8⊢
   go_upto_region 12 with fail
   refine Rp K8 HB8 [.no,.no,.no,.no,.all 10 (LN (y*nd%q))] [] (cG 0 55 [_,_,_,_,_,_,_] [(7,54,_),(8,62,_),(9,63,_)]) [(10,0)] [] [] (Od8 (g_ld 4 uN iN) g_mv (g_op (fun ev uZ he=>cviP uZ h0 (by omega) rfl (he _ _ rfl))) (g_bd (fun uZ=>bdNk nd h0 (by omega) uZ)) (g_fd (fdG1 _)) (g_lo 0 4 uN iN) (g_cl ent_K6 (fun uZ=>xMul y nd q uZ iw ⟨h0,by omega⟩ hq hq0)) g_mv<|Oc3 g_ex g_ex (g_st 4 iN)) fun u9 HB9 _ K9=>?_
   simp only[sQ] at K9⊢
   go_upto_region 9 with fail
   refine Rp K9 HB9 [] [] [(0,32,_),(1,33,_),(2,11,_)] [(2,0)] [(2,11)] [] (Oc3 g_mv (g_bn (fun uZ=>Zl _ _ (k:Int) 1 ((k+1:Nat):Int) uZ (by omega) (by omega) (by omega))) g_as) fun u10 HB10 _ K10=>?_
   simp only[sQ] at K10⊢
   go_wp2
   refine⟨⟨k+1,by omega,rfl,HB10,(K10.cv 0),(K10.lt 0),(K10.cv 1),(K10.lt 1),(K10.cv 2),(K10.lt 2),by rw[ea.out];exact(K10.cv 3),(K10.lt 3),by rw[ew.out];exact(K10.cv 4),(K10.lt 4)⟩,?_⟩
   simp[intOf]<;>omega
  ·have hl:decide ((k:Int)<(ns.length:Int))=false:=by simp;omega
   have hkn:k=ns.length:=by omega
   rw[hkn] at C3
   clear hkn
   have K5_1:Bk w.heap.size wr [(false,w.heap.size,GE p q g h),(false,w.heap.size+1,DE d (.slice sl ns.length cap)),(true,w.heap.size+1+1,L0s),(true,b4_2,LN (atO p q nd ns ns.length)),(true,b4_3,LN (pwN q nd k))]:=⟨.c lC0 C0<| .c lC1 C1<| .o lC2 (K5.lo 2) C2<| .o lC3 (K5.lo 3) C3<| .o lC4 (K5.lo 4) C4<|trivial,by simp<;>omega⟩
   go_upto_region 8 with fail
   refine Rn K5_1 HBr (cG 0 27 [_,_,_,_,_] []) (Oc5 g_mv (g_fd (fdD1 _)) (g_lc 1 1 lSN) (g_ln Tryz.underlying27) (g_bn (fun uZ=>Z8 _ _ (k:Int) (ns.length:Int) _ uZ hl))) fun u6 HB6 sz6 K6=>?_
   simp only[sQ] at K6⊢
   go_upto_region 13 with fail
   refine Rp K6 HB6 [.no,.no,.all 1 (LN (atO p q nd ns ns.length))] [] [(0,64,_),(2,7,_)] [] [] [] (Oc3 (g_ld 3 uN iN) (g_st 2 iN) g_as) fun u7 HB7 sz7 K7=>?_
   simp only[sQ] at K7⊢
   have c6:=(K7.cv 2).n4
   go_wp2
   refine bodyPost_ret (v:= .tuple #[NV (atO p q nd ns ns.length),iI 0]) (by simp[results,Tryz.results32,go_sem,c6]) rfl ⟨rfl,HB7⟩
def atE(p q d nd:Int)(ns:List Int):Int:=if dcE p q d ns=0 then (if ndB nd then 0 else 2) else dcE p q d ns
def atX(p q d nd:Int)(ns:List Int):Int:=if atE p q d nd ns=0 then atO p q nd ns ns.length else 0
theorem dcE_0{p q d:Int}{ns:List Int}(h:dcE p q d ns=0):gOk p q/\ndB d=true/\1<=ns.length/\ns.length<=6/\ns.all (isB p q)=true:=by
 unfold dcE at h
 by_cases c:gOk p q
 ·rw[if_pos c] at h
  split at h
  ·rename_i h2
   simp only[Bool.and_eq_true,decide_eq_true_eq] at h2
   exact⟨c,h2.1.1,h2.1.2.1,h2.1.2.2,h2.2⟩
  ·omega
 ·rw[if_neg c] at h;omega
theorem xAtK(p q g h d nd:Int)(ns:List Int)(v:Value)(w:World)(hp:In p)(hq:In q)(hv:NL w v ns)(hns: ∀z∈ns,In z)(hl:ns.length<=256)(e0:atE p q d nd ns=0):CC 32 #[GX p q g h,DX d v,iI nd] w (.tuple #[NV (atX p q d nd ns),iI 0]):=by
 have a':=hv
 obtain⟨sl,gb,go,cap,rfl,h2,h3,h4,h5,h6⟩:=hv
 have c:dcE p q d ns=0/\ndB nd=true:=by
  have e:=e0
  unfold atE at e
  by_cases h1:dcE p q d ns=0
  ·rw[if_pos h1] at e
   exact⟨h1,by by_cases h2:ndB nd=true;exact h2;rw[if_neg h2] at e;cases e⟩
  ·rw[if_neg h1] at e;exact absurd e h1
 obtain⟨c1,c2,c3,c4,c5⟩:=dcE_0 c.1
 have hN:=fun u=>xNode nd u
 rw[c.2] at hN
 have hb:=ndB_iff.1 c.2
 have hq3:=c1.q3
 have hp7:=c1.2
 rw[atX,if_pos e0]
 exact xat_k p q g h d nd sl gb go cap ns w (fun u hB=>xCheckDK p q g h d ns _ u hp hq (a'.up hB) hns hl c1 c2 (by omega) (all_get.1 c5)) hN hp hq (by omega) (by omega) (by omega) (by omega) (NL.ix (u:=w) h4) h5 h6 (Ye hns) (by omega)
theorem xver_k(p q g h d nd s t a b c ev:Int)(sl:Option Addr)(cap n:Nat)(w:World)(he:(ev !=0)=false)(hc:(c !=0)=false)(hA:Hid (∀u,Bw w u->CC 32 #[GX p q g h,DX d (.slice sl n cap),iI nd] u (.tuple #[NV a,iI ev])))(hM:Hid (∀u,CC 33 #[GX p q g h,NV s,NV t] u (.tuple #[NV b,iI c])))(ia:In a)(ib:In b)(hx:decide (b=a)=!false):
 CC 13 #[GX p q g h,DX d (.slice sl n cap),SX nd s t] w (iI 0):=by
 go_enter Tryz.func13,Tryz.ntmps13
 go_upto_region 1 with fail
 obtain⟨v0,hC,HB0,K0⟩:=bx3 w (GE p q g h) 43 (DE d (.slice sl n cap)) 29 (SE nd s t) 38
 rw[hC]
 clear hC
 refine Rp K0 HB0 [] [(8,7,L0s,some (9,LN a))] (cG 0 11 [_,_,_,_,_] [(5,10,_),(6,16,_),(7,17,_),(10,8,_)]) [(9,8)] [] [] (Od8 (g_ld 0 Tryz.underlying43 Z0) (g_ld 1 Tryz.underlying29 Z7) (g_fd (fdS0 _)) (g_lc 2 0 lI) (g_cb V9 hA.out) g_mv g_ex g_ex<|Oc3 (g_al 0 aN) (g_sn 0 iN) g_as) fun u1 b1_8 HB1 _ K1=>?_
 simp only[sQ] at K1⊢
 go_upto_region 2 with fail
 refine Rn K1 HB1 [(0,18,_),(1,19,_)] (Oc2 g_mv (g_bn (fun uZ=>Ys _ _ _ ev 0 _ uZ he))) fun u2 HB2 _ K2=>?_
 simp only[sQ] at K2⊢
 go_upto_region 4 with fail
 refine Rp K2 HB2 [] [(9,9,L0s,some (10,LN b))] (cG 0 22 [_,_,_,_,_,_] [(6,21,_),(7,28,_),(8,29,_),(11,8,_)]) [(10,9)] [] [] (Od8 (g_ld 0 Tryz.underlying43 Z0) (g_fd (fdS1 _)) (g_lo 2 1 uN iN) (g_fd (fdS2 _)) (g_lo 2 5 uN iN) (g_cl ent_K3 hM.out) g_mv g_ex<|Oc4 g_ex (g_al 0 aN) (g_sn 0 iN) g_as) fun u3 b3_9 HB3 _ K3=>?_
 simp only[sQ] at K3⊢
 go_upto_region 5 with fail
 refine Rn K3 HB3 [(0,30,_),(1,31,_)] (Oc2 g_mv (g_bn (fun uZ=>Ys _ _ _ c 0 _ uZ hc))) fun u4 HB4 _ K4=>?_
 simp only[sQ] at K4⊢
 go_upto_region 7 with fail
 refine Rn K4 HB4 (cG 0 32 [_,_,_] []) (Oc3 (g_ld 4 uN iN) (g_ld 3 uN iN) (g_bn (Tb _ _ ib ia false hx))) fun u5 HB5 _ K5=>?_
 simp only[sQ] at K5⊢
 go_upto_region 9 with fail
 refine Rn K5 HB5 [(0,6,_)] (Oc1 g_as) fun u6 HB6 _ K6=>?_
 simp only[sQ] at K6⊢
 go_wp2
 refine bodyPost_ret (v:=iI 0) (by simp[results,Tryz.results13,go_sem,]) rfl ⟨rfl,HB6⟩
def veE(p q g h d nd s t:Int)(ns:List Int):Int:=if atE p q d nd ns=0 then (if coE p q g h=0 then (if coX p q g h s t=atX p q d nd ns then 0 else 100) else 90) else atE p q d nd ns
theorem xVerifyG(p q g h d nd s t:Int)(ns:List Int)(v:Value)(w:World)(hp:In p)(hq:In q)(hg:In g)(hh:In h)(hs:In s)(ht:In t)(hv:NL w v ns)(hns: ∀z∈ns,In z)(hl:ns.length<=256)(c:atE p q d nd ns=0)(c1:coE p q g h=0)(c2:coX p q g h s t=atX p q d nd ns):CC 13 #[GX p q g h,DX d v,SX nd s t] w (iI 0):=by
 have a':=hv
 obtain⟨sl,gb,go,cap,rfl,_⟩:=hv
 have hA:=fun u (hB:Bw w u)=>xAtK p q g h d nd ns _ u hp hq (a'.up hB) hns hl c
 have cb:isB p q g=true/\isB p q h=true:=by
  unfold coE at c1
  split at c1
  ·rename_i h1;simpa using h1
  ·cases c1
 have hM:=fun u=>xCommitK p q g h s t u hp hq hg hh hs ht cb.1 cb.2
 have ic:In (coX p q g h s t):=by
  unfold coX;split
  ·have c2:isB p q g=true:=by rename_i h1;simp only[Bool.and_eq_true] at h1;exact h1.1
   exact Zg hp (by have:=(Vj c2).1.2;omega)
  ·exact In_0
 have ia:In (atX p q d nd ns):=by
  unfold atX;rw[if_pos c]
  have c3:dcE p q d ns=0:=by
   unfold atE at c
   by_cases h1:dcE p q d ns=0
   ·exact h1
   ·rw[if_neg h1] at c;exact c
  exact atO_In hp (by have:=(dcE_0 c3).1.2;omega) _
 exact xver_k p q g h d nd s t _ _ _ _ sl cap _ w rfl rfl hA hM ia ic (by simp[c2])
end
section
open Go.RowKit Go.Extern.Stop Go.Stop Go.Extern Go.Extern.Rtype
inductive EW (n:Int):Value->Prop
 | leaf:EW n (.iface 39 (iI n))
 | wrap (s:ByteArray) (k:Value):EW n k->EW n (.iface 129 (.agg #[.string s,k]))
theorem EW.some{n:Int}{v:Value}(h:EW n v): ∃T x,v= .iface T x:=by
 cases h with
 | leaf=>exact⟨_,_,rfl⟩
 | wrap s k _=>exact⟨_,_,rfl⟩
theorem cUnFG(s:ByteArray)(k:Value)(w:World)(hk: ∃T x,k= .iface T x):CC 192 #[.agg #[.string s,k]] w k:=by
 obtain⟨T,x,rfl⟩:=hk
 go_enter Tryz.func192,Tryz.ntmps192
 go_wp2
 exact bodyPost_ret (v:= .iface T x) (by simp[results,Tryz.results192,go_sem]) rfl ⟨rfl,Z1 (Z5 w) _⟩
theorem Tryz.noIsEG(v:Value)(xT:TypeId)(w:World):(Instr.typeAssert (.iface 39 v) xT 147 true).run Tryz.prog w= .ok (.tuple #[.nilIface,.bool false]) w:=run_typeAssert_lacksB Tryz.underlying147 (by kernel_rfl) (by kernel_rfl) v xT w
theorem Tryz.noIsFG(v:Value)(xT:TypeId)(w:World):(Instr.typeAssert (.iface 129 v) xT 147 true).run Tryz.prog w= .ok (.tuple #[.nilIface,.bool false]) w:=run_typeAssert_lacksB Tryz.underlying147 (by kernel_rfl) (by kernel_rfl) v xT w
theorem Tryz.noUnEG(v:Value)(xT:TypeId)(w:World):(Instr.typeAssert (.iface 39 v) xT 150 true).run Tryz.prog w= .ok (.tuple #[.nilIface,.bool false]) w:=run_typeAssert_lacksB Tryz.underlying150 (by kernel_rfl) (by kernel_rfl) v xT w
theorem Tryz.noUsEG(v:Value)(xT:TypeId)(w:World):(Instr.typeAssert (.iface 39 v) xT 152 true).run Tryz.prog w= .ok (.tuple #[.nilIface,.bool false]) w:=run_typeAssert_lacksB Tryz.underlying152 (by kernel_rfl) (by kernel_rfl) v xT w
theorem Tryz.unFG(v:Value)(xT:TypeId)(w:World):(Instr.typeAssert (.iface 129 v) xT 150 true).run Tryz.prog w= .ok (.tuple #[.iface 129 v,.bool true]) w:=run_typeAssert_hasB Tryz.underlying150 (by kernel_rfl) v xT w
theorem infoEG:(Tryz.prog.info? 39).map (·.comparable)=some true:=by kernel_rfl
theorem eqlEG(a b:Int)(w:World):(binOp .eql 62 (.iface 39 (iI a)) (.iface 39 (iI b))).run Tryz.prog w= .ok (.bool (a==b)) w:=by
 obtain⟨i,hi,hc⟩:=Option.map_eq_some_iff.1 infoEG
 have h1:=run_underlying (w:=w) Tryz.underlying62
 have h2:=run_underlying (w:=w) Tryz.underlying39
 have h3: ∀d,(Op.equalIn (d+2) 62 (.iface 39 (iI a)) (.iface 39 (iI b))).run Tryz.prog w= .ok (a==b) w:=fun d=>by
  simp[Op.equalIn,h1,h2,typeInfo,hi,hc]
 simp only[binOp]
 simp[Op.equal,Op.maxDepth,h3 9998]
theorem cIs0G(t n:Int)(w:World)(v:Value)(h:EW n v)(r:Bool)(er:(n==t)=r):
 CC 74 #[v,.iface 39 (iI t),.bool true] w (.bool r):=by
 have nE:=Tryz.noIsEG
 have nF:=Tryz.noIsFG
 have uE:=Tryz.noUnEG
 have sE:=Tryz.noUsEG
 have uF:=Tryz.unFG
 have qE:=fun(a:Int) (u:World)=>eqlEG a t u
 have qF:=fun(x:Value) (u:World)=>run_eql_iface_types (P:=Tryz.prog) 129 39 x (iI t) Tryz.underlying62 (by decide) u
 go_enter Tryz.func74,Tryz.ntmps74
 go_wp2_with fail
 go_loopw [0] (fun s0 wr=>EW n s0/\Bw w wr) (fun s0 _=>SizeOf.sizeOf s0)
 case atStart=>exact⟨h,Below.refl _ _⟩
 case round=>
  obtain⟨hv,HBr⟩:=hrel
  cases hv with
  | leaf=>
   cases r with
   | true=>
    go_wp2
    exact bodyPost_ret (v:= .bool true) (by simp[results,Tryz.results74,go_sem]) rfl ⟨rfl,HBr⟩
   | false=>
    go_wp2
    exact bodyPost_ret (v:= .bool false) (by simp[results,Tryz.results74,go_sem]) rfl ⟨rfl,HBr⟩
  | wrap s k hk=>
   obtain⟨T,x,rfl⟩:=hk.some
   have hU:=cUnFG s (.iface T x) wr ⟨_,_,rfl⟩
   have hk:Hid _:=hk
   go_wp2_with (go_at_call 192;refine hU.mono ?_;clear hU;rintro e ua ⟨rfl,hBa⟩)
   refine⟨⟨hk.out,Z2 HBr hBa⟩,?_⟩
   simp;omega
theorem Tryz.isTypeOfG(v:Value)(w:World):(Extern.ReflectliteType.typeOf #[.iface 39 v]).run Tryz.prog w= .ok (.iface 145 (.agg #[.pointer (some ⟨6,39,none⟩)])) w:=by kernel_rfl
def cmpXG:Array Value->Sem Value:=Extern.ReflectliteType.method fun t=>do noPackHeld "Comparable" t;pure (.bool (<-typeInfo t).comparable)
theorem Tryz.isComparableG(w:World):(cmpXG #[.agg #[.pointer (some ⟨6,39,none⟩)]]).run Tryz.prog w= .ok (.bool true) w:=by kernel_rfl
theorem cIsN(t:Int)(w:World):CC 47 #[.nilIface,.iface 39 (iI t)] w (.bool false):=by
 have hn:=run_eql_iface_nil_left (P:=Tryz.prog) w 39 (iI t) Tryz.underlying62
 go_enter Tryz.func47,Tryz.ntmps47
 go_wp2
 exact bodyPost_ret (v:= .bool false) (by simp[results,Tryz.results47,go_sem]) rfl ⟨rfl,Below.refl _ _⟩
theorem cIsGq(t n:Int)(w:World)(v:Value)(h:EW n v)(r:Bool)(er:(n==t)=r):CC 47 #[v,.iface 39 (iI t)] w (.bool r):=by
 have h8:= @run_callFunc_extern Tryz.prog 73 _ Extern.ReflectliteType.typeOf Tryz.func73 (by kernel_rfl) (by kernel_rfl) (by kernel_rfl) (by kernel_rfl)
 have h32:= @run_callFunc_extern Tryz.prog 195 _ cmpXG Tryz.func195 (by kernel_rfl) (by kernel_rfl) (by kernel_rfl) (by kernel_rfl)
 have tT:=Tryz.isTypeOfG
 have cT:=Tryz.isComparableG
 have hI:=cIs0G t n w v h r er
 obtain⟨T,x,rfl⟩:=h.some
 go_enter Tryz.func47,Tryz.ntmps47
 go_wp2_with (go_at_call 74;refine hI.mono ?_;clear hI;rintro e ub ⟨rfl,hBb⟩)
 exact bodyPost_ret (v:= .bool r) (by simp[results,Tryz.results47,go_sem]) rfl ⟨rfl,hBb⟩
theorem ixE0(u:World):(Instr.index 131 (.agg #[iI 2,iI 90]) (iI 0)).run Tryz.prog u= .ok (iI 2) u:=by kernel_rfl
theorem ixE1(u:World):(Instr.index 131 (.agg #[iI 2,iI 90]) (iI 1)).run Tryz.prog u= .ok (iI 90) u:=by kernel_rfl
theorem gTold_core(v:Value)(f2 f9:Bool)(m:Int)(w:World)(hv:v= .nilIface\/ ∃T x,v= .iface T x)(hm:m=if f2 then 2 else if f9 then 90 else 0)
 (hI:Hid (∀u,CC 47 #[v,.iface 39 (iI 2)] u (.bool f2)))
 (hJ:Hid (∀u,CC 47 #[v,.iface 39 (iI 90)] u (.bool f9))):
 CC 60 #[v] w (iI m):=by
 have hm:Hid _:=hm
 have u3:=Tryz.underlying39
 have a3:=Tryz.isAgg39
 have z3:=Tryz.sizeOf39
 have x0:=fun u:World=>ixE0 u
 have x1:=fun u:World=>ixE1 u
 rcases hv with rfl | ⟨T,x,rfl⟩
 all_goals
  go_enter Tryz.func60,Tryz.ntmps60
  go_wp2_with fail
  go_loopw [6] (fun s6 wr=>(s6=iI 0\/(s6=iI 1/\f2=false)\/(s6=iI 2/\f2=false/\f9=false))/\Bw w wr) (fun s6 _=>2 -(intOf s6).toNat)
  case atStart=>exact⟨.inl rfl,Below.refl _ _⟩
  case round=>
   obtain⟨h,HBr⟩:=hrel
   rcases h with rfl | ⟨rfl,hf⟩ | ⟨rfl,hf,hg⟩
   ·have hI:=hI.out wr
    cases f2 with
    | true=>
     go_wp2_with (go_at_call 47;refine hI.mono ?_;clear hI;rintro e ua ⟨rfl,hBa⟩)
     have hm2:=hm.out
     simp at hm2
     subst hm2
     exact bodyPost_ret (v:=iI 2) (by simp[results,Tryz.results60,go_sem]) rfl ⟨rfl,Z2 HBr hBa⟩
    | false=>
     go_wp2_with (go_at_call 47;refine hI.mono ?_;clear hI;rintro e ua ⟨rfl,hBa⟩)
     exact⟨⟨.inr (.inl ⟨by simp,by simp⟩),Z2 HBr hBa⟩,by simp[intOf]⟩
   ·subst hf
    have hJ:=hJ.out wr
    cases f9 with
    | true=>
     go_wp2_with (go_at_call 47;refine hJ.mono ?_;clear hJ;rintro e ua ⟨rfl,hBa⟩)
     have hm2:=hm.out
     simp at hm2
     subst hm2
     exact bodyPost_ret (v:=iI 90) (by simp[results,Tryz.results60,go_sem]) rfl ⟨rfl,Z2 HBr hBa⟩
    | false=>
     go_wp2_with (go_at_call 47;refine hJ.mono ?_;clear hJ;rintro e ua ⟨rfl,hBa⟩)
     exact⟨⟨.inr (.inr ⟨by simp,by simp,by simp⟩),Z2 HBr hBa⟩,by simp[intOf]⟩
   ·subst hf hg
    go_wp2
    have hm2:=hm.out
    simp at hm2
    subst hm2
    exact bodyPost_ret (v:=iI 0) (by simp[results,Tryz.results60,go_sem]) rfl ⟨rfl,HBr⟩
theorem gToldN(w:World):CC 60 #[.nilIface] w (iI 0):=
 gTold_core _ false false 0 w (.inl rfl) rfl (fun u=>cIsN 2 u) (fun u=>cIsN 90 u)
theorem gTold9(v:Value)(w:World)(h:EW 90 v):CC 60 #[v] w (iI 90):=
 gTold_core _ false true 90 w (.inr h.some) rfl (fun u=>cIsGq 2 90 u v h _ rfl) (fun u=>cIsGq 90 90 u v h _ rfl)
end
section
open Go.RowKit
def mlB(p q:Int)(ns:List Int):Bool:=decide (gOk p q)&&ns.all (isB p q)
def mlE(p q:Int)(ns:List Int):Int:=if mlB p q ns then 0 else 90
def mlX(p q:Int)(ns:List Int):Int:=if mlB p q ns then gat (fun a b=>(a*b)%p) (1%p) ns ns.length else 0
section
def txG(n:Int):ByteArray:=strOfNums (txl (D0 n) (D1 n) (D2 n) (D3 n) (nd (D0 n) (D1 n) (D2 n) (D3 n)))
theorem nTextG(n:Int)(w:World):CC 99 #[NV n] w (.string (txG n)):=Text_any _ _ _ _ w (W_D0 n) (W_D1 n) (W_D2 n) (W_D3 n)
theorem tx_szG(n:Int):(txG n).size<=64:=by
 unfold txG
 rw[strOfNums_size]
 unfold txl
 rw[List.length_map,List.length_range]
 have:=blen_bd _ _ _ _ (W_D0 n) (W_D1 n) (W_D2 n) (W_D3 n)
 unfold nd
 split<;>omega
structure GT(w:World):Prop where
 sz:1<w.heap.size
 tab:Lib.TabIs Tryz.prog w "internal/strconv.uint64pow10" .u64 Lib.pow10Tab
theorem gPowG:Tryz.prog.globalNamed "internal/strconv.uint64pow10" =some 1:=by kernel_rfl
theorem GT.below{w u:World}(h:GT w)(hB:Bw w u):GT u where
 sz:=Nat.lt_of_lt_of_le h.sz hB.size
 tab:=Go.Joins.tab_stays gPowG h.tab hB (Nat.le_refl _)
theorem below_growG(w:World)(k:Nat)(os:Array Obj):Bw w (Go.Sort.grow (w.drewN k) os):=by
 have h1:(w.drewN k).heap=w.heap:=rfl
 exact⟨rfl,rfl,rfl,by simp[Go.Sort.grow,h1],fun i hi=>by simp[Go.Sort.grow,h1,Array.getElem?_append_left hi]⟩
def iaG(n:Int):ByteArray:=⟨(Lib.itoa n).toArray⟩
theorem ia_szG(n:Int)(h0: -9223372036854775808<=n)(h1:n<=9223372036854775807):(iaG n).size<=21:=by
 have:=Lib.itoa_length_le n h0 h1
 simpa [iaG,ByteArray.size] using this
theorem cItoaG(n:Int)(w:World)(h0: -9223372036854775808<=n)(h1:n<=9223372036854775807)(hG:GT w):CC 46 #[iI n] w (.string (iaG n)):=by
 refine(Tryz.strconv_Itoa n h0 h1 w hG.tab).mono ?_
 rintro e u ⟨rfl,k,os,rfl⟩
 exact⟨rfl,below_growG w k os⟩
section
variable {R:Rg} {P:Program} {Q:Exit->Act->World->Prop} {ops:Array Oper} {i:Nat} {o:Oper}
theorem Ua{T:TypeId}{x:Operand}{vx v:Value}(hr: ∀w,(Instr.makeInterface T vx).run P w= .ok v w)(hop:o.op= .makeInterface T x:=by rfl)(hx:evR R i o x=some vx:=by rfl)(hv:some v=Zx i R.G:=by rfl)(hc:R.chk ops i o=true:=by rfl):OG R P ops Q i o:=
 g_op (fun ev u he=>by
  unfold execOp;rw[hop];simp only[he _ _ hx]
  rw[Sem.run_bind,hr,Result.andThen_ok,Sem.run_pure]) hv hc
end
theorem miEG(n:Int)(w:World):(Instr.makeInterface 39 (iI n)).run Tryz.prog w= .ok (.iface 39 (iI n)) w:=by kernel_rfl
theorem miFG(s:ByteArray)(T:TypeId)(x:Value)(w:World):(Instr.makeInterface 129 (.agg #[.string s,.iface T x])).run Tryz.prog w= .ok (.iface 129 (.agg #[.string s,.iface T x])) w:=by kernel_rfl
theorem bdFlG(s:ByteArray)(T:TypeId)(x:Value)(w:World):(Instr.build 129 [(0,.string s),(1,.iface T x)].toArray).run Tryz.prog w= .ok (.agg #[.string s,.iface T x]) w:=by kernel_rfl
theorem add_stG(p q:Operand)(s t:ByteArray)(w:World)(h:s.size+t.size<=1000):(do eqGuard .add 9 p q (.string s) (.string t);binOp .add 9 (.string s) (.string t):Sem Value).run Tryz.prog w= .ok (.string (s++t)) w:=by
 have h2: ¬9223372036854775807<s.size+t.size:=by omega
 go_simp
theorem neq_noG(p:Operand)(c:Value)(w:World):(do eqGuard .neq 62 p (.const c) .nilIface .nilIface;binOp .neq 62 .nilIface .nilIface:Sem Value).run Tryz.prog w= .ok (.bool false) w:=by go_simp
theorem neq_erG(p q:Operand)(T:TypeId)(x:Value)(w:World):(do eqGuard .neq 62 p q (.iface T x) .nilIface;binOp .neq 62 (.iface T x) .nilIface:Sem Value).run Tryz.prog w= .ok (.bool true) w:=by go_simp
theorem lss_z(p q:Operand)(x y:Int)(b:Bool)(w:World)(h:decide (x<y)=b):(do eqGuard .lss 3 p q (iI x) (iI y);binOp .lss 3 (iI x) (iI y):Sem Value).run Tryz.prog w= .ok (.bool b) w:=by
 subst h;go_simp
theorem geq_y(p q:Operand)(x y:Int)(b:Bool)(w:World)(h:decide (y<=x)=b):(do eqGuard .geq 3 p q (iI x) (iI y);binOp .geq 3 (iI x) (iI y):Sem Value).run Tryz.prog w= .ok (.bool b) w:=by
 subst h;go_simp
theorem neq_w8(p q:Operand)(a b c d e f g h a' b' c' d' e' f' g' h':Int)(w:World):(do eqGuard .neq 115 p q (A8 a b c d e f g h) (A8 a' b' c' d' e' f' g' h');binOp .neq 115 (A8 a b c d e f g h) (A8 a' b' c' d' e' f' g' h'):Sem Value).run Tryz.prog w= .ok (.bool (!eq8 a b c d e f g h a' b' c' d' e' f' g' h')) w:=by
 go_simp
theorem neq_ww(p q:Operand){n m:Int}(hn:In n)(hm:In m)(b:Bool)(hb:decide (n=m)=!b)(w:World):(do eqGuard .neq 115 p q (WV n) (WV m);binOp .neq 115 (WV n) (WV m):Sem Value).run Tryz.prog w= .ok (.bool b) w:=by
 have e1:D4 n=0:=by unfold D4;exact Int.ediv_eq_zero_of_lt hn.1 hn.2
 have e2:D4 m=0:=by unfold D4;exact Int.ediv_eq_zero_of_lt hm.1 hm.2
 have e3:eq8 (D0 n) (D1 n) (D2 n) (D3 n) (D0 0) (D1 0) (D2 0) (D3 0) (D0 m) (D1 m) (D2 m) (D3 m) (D0 0) (D1 0) (D2 0) (D3 0)=!b:=by
  rw[<-hb,<-eq4_N hn hm];simp[eq8,eq4]
 rw[neq_w8,e1,e2,e3,Bool.not_not]
theorem X8:EnT 99:=fun _ _=>by kernel_rfl
theorem Uq:EnT 46:=fun _ _=>by kernel_rfl
theorem Wo:EnT 75:=fun _ _=>by kernel_rfl
theorem Vt:EnT 82:=fun _ _=>by kernel_rfl
theorem Y4:EnT 59:=fun _ _=>by kernel_rfl
theorem Xx:EnT 60:=fun _ _=>by kernel_rfl
def sP1:ByteArray:=⟨#[80,32,105,115,32,111,110,108,121,32]⟩
def sX1:ByteArray:=⟨#[32,105,115,32,110,111,116,32,102,114,111,109,32,49,32,116,111,32,80,32,45,32,49]⟩
def sX2:ByteArray:=⟨#[32,116,111,32,116,104,101,32,81,32,105,115,32,110,111,116,32,49]⟩
def sM2:ByteArray:=⟨#[110,117,109,98,101,114,32]⟩
def grV(p q:Int):Value:=if p<7 then .iface 129 (.agg #[.string (sP1++txG p),(.iface 39 (iI 90))]) else if p%2=0 then .iface 129 (.agg #[.string ⟨#[80,32,105,115,32,101,118,101,110]⟩,(.iface 39 (iI 90))]) else if p/2=q then .nilIface else .iface 129 (.agg #[.string ⟨#[80,32,105,115,32,110,111,116,32,50,32,81,32,97,110,100,32,49]⟩,(.iface 39 (iI 90))])
def mbV(p q x:Int):Value:=if x=0\/p<=x then .iface 129 (.agg #[.string (txG x++sX1),(.iface 39 (iI 90))]) else if x^q.toNat%p=1 then .nilIface else .iface 129 (.agg #[.string (txG x++sX2),(.iface 39 (iI 90))])
theorem group_0(p q g h c:Int)(re:Value)(w:World)(hp:In p)(hq:In q)(i2:In 2)(iq:In (p/2))(hC:Hid (∀u,CC 98 #[NV p,NV 7] u (iI c)))(im:In (p%2))(hR:Hid (re=if decide (c<0) then .iface 129 (.agg #[.string (sP1++txG p),(.iface 39 (iI 90))]) else if decide (p%2=0) then .iface 129 (.agg #[.string ⟨#[80,32,105,115,32,101,118,101,110]⟩,(.iface 39 (iI 90))]) else if decide (p/2=q) then .nilIface else .iface 129 (.agg #[.string ⟨#[80,32,105,115,32,110,111,116,32,50,32,81,32,97,110,100,32,49]⟩,(.iface 39 (iI 90))]))):CC 75 #[GX p q g h] w re:=by
 go_enter Tryz.func75,Tryz.ntmps75
 go_upto_region 1 with fail
 obtain⟨v0,hC,HB0,K0⟩:=bx1 w (GE p q g h) 43
 rw[hC]
 clear hC
 go_upto_region 1 with fail
 refine Rp K0 HB0 [] [(9,3,L0w,some (11,LW (p/2))),(10,4,L0s,some (12,LN (p%2)))] (cG 0 7 [_,_,_,_,_] [(5,6,_),(6,12,_),(7,13,_),(8,14,_),(13,5,_)]) [(11,9),(12,10)] [] [] (Od8 (g_fd (fdG0 _)) (g_lo 0 0 uN iN) (g_cl Za (fun uZ=>Xr p uZ hp)) (g_cl Ze (fun uZ=>nOf 2 uZ (by decide) (by decide))) (g_cl Vb (fun uZ=>nDivide p 2 uZ hp.wide i2 (by decide))) g_mv g_ex g_ex<|Oc6 g_ex (g_al 0 aW) (g_al 1 aN) (g_sn 0 iW) (g_sn 1 iN) g_as) fun u1 b1_9 b1_10 HB1 _ K1=>?_
 simp only[sQ] at K1⊢
 cases hc:decide (c<0)
 ·skip
  go_upto_region 2 with fail
  refine Rm K1 HB1 (cG 0 16 [_,_,_,_,_] [(5,15,_)]) (Oc6 (g_fd (fdG0 _)) (g_lo 0 0 uN iN) (g_cl Ze (fun uZ=>nOf 7 uZ (by decide) (by decide))) (g_cl Zw hC.out) (g_bn (fun uZ=>lss_z _ _ _ _ _ uZ hc)) g_as) fun u2 HB2 sz2 K2=>?_
  simp only[sQ] at K2⊢
  cases h2:decide (p%2=0)
  ·skip
   go_upto_region 4 with fail
   refine Rp K2 HB2 [] [] (cG 0 29 [_,_,_] [(3,28,_)]) [] [] [true,true,false] (Oc4 (g_ld 2 uN iN) (g_bd zN) (g_bn (eql_0 _ _ im _ h2)) g_as) fun u3 HB3 sz3 K3=>?_
   simp only[sQ] at K3⊢
   cases h3:decide (p/2=q)
   ·skip
    go_upto_region 6 with fail
    refine Rd K3 HB3 [] [] (cG 0 36 [_,_,_,_,_] [(5,35,_)]) [] [] [false,false] (Oc6 (g_ld 1 uW iW) (g_fd (fdG1 _)) (g_lo 0 4 uN iN) (g_cl Za (fun uZ=>Xr q uZ hq)) (g_bn (neq_ww _ _ iq hq true h3)) g_as) fun u4 HB4 sz4 K4=>?_
    simp only[sQ] at K4⊢
    go_upto_region 7 with fail
    refine Rn K4 HB4 (cG 0 41 [_,_,_] [(3,2,_)]) (Oc4 (Ua (miEG 90)) (g_bd (bdFlG ⟨#[80,32,105,115,32,110,111,116,32,50,32,81,32,97,110,100,32,49]⟩ _ _)) (Ua (miFG ⟨#[80,32,105,115,32,110,111,116,32,50,32,81,32,97,110,100,32,49]⟩ _ _)) g_as) fun u5 HB5 sz5 K5=>?_
    simp only[sQ] at K5⊢
    go_wp2
    refine bodyPost_ret (v:= .iface 129 (.agg #[.string ⟨#[80,32,105,115,32,110,111,116,32,50,32,81,32,97,110,100,32,49]⟩,(.iface 39 (iI 90))])) (by simp[results,Tryz.results75,go_sem,]) rfl ⟨by rw[hR.out,hc,h2,h3];rfl,HB5⟩
   ·skip
    go_upto_region 6 with fail
    refine Rd K3 HB3 [] [] (cG 0 36 [_,_,_,_,_] [(5,35,_)]) [] [] [false,false] (Oc6 (g_ld 1 uW iW) (g_fd (fdG1 _)) (g_lo 0 4 uN iN) (g_cl Za (fun uZ=>Xr q uZ hq)) (g_bn (neq_ww _ _ iq hq false h3)) g_as) fun u4 HB4 sz4 K4=>?_
    simp only[sQ] at K4⊢
    go_upto_region 8 with fail
    refine Rn K4 HB4 [(0,2,_)] (Oc1 g_as) fun u5 HB5 sz5 K5=>?_
    simp only[sQ] at K5⊢
    go_wp2
    refine bodyPost_ret (v:= .nilIface) (by simp[results,Tryz.results75,go_sem,]) rfl ⟨by rw[hR.out,hc,h2,h3];rfl,HB5⟩
  ·skip
   go_upto_region 4 with fail
   refine Rp K2 HB2 [] [] (cG 0 29 [_,_,_] [(3,28,_)]) [] [] [false,false,false] (Oc4 (g_ld 2 uN iN) (g_bd zN) (g_bn (eql_0 _ _ im _ h2)) g_as) fun u3 HB3 sz3 K3=>?_
   simp only[sQ] at K3⊢
   go_upto_region 5 with fail
   refine Rn K3 HB3 (cG 0 32 [_,_,_] [(3,2,_)]) (Oc4 (Ua (miEG 90)) (g_bd (bdFlG ⟨#[80,32,105,115,32,101,118,101,110]⟩ _ _)) (Ua (miFG ⟨#[80,32,105,115,32,101,118,101,110]⟩ _ _)) g_as) fun u4 HB4 sz4 K4=>?_
   simp only[sQ] at K4⊢
   go_wp2
   refine bodyPost_ret (v:= .iface 129 (.agg #[.string ⟨#[80,32,105,115,32,101,118,101,110]⟩,(.iface 39 (iI 90))])) (by simp[results,Tryz.results75,go_sem,]) rfl ⟨by rw[hR.out,hc,h2];rfl,HB4⟩
 ·skip
  go_upto_region 2 with fail
  refine Rd K1 HB1 [] [] (cG 0 16 [_,_,_,_,_] [(5,15,_)]) [] [] [true,false,false] (Oc6 (g_fd (fdG0 _)) (g_lo 0 0 uN iN) (g_cl Ze (fun uZ=>nOf 7 uZ (by decide) (by decide))) (g_cl Zw hC.out) (g_bn (fun uZ=>lss_z _ _ _ _ _ uZ hc)) g_as) fun u2 HB2 sz2 K2=>?_
  simp only[sQ] at K2⊢
  go_upto_region 3 with fail
  refine Rp K2 HB2 [] [] (cG 0 21 [_,_,_,_,_,_,_] [(7,2,_)]) [] [] [false] (Oc8 (g_fd (fdG0 _)) (g_lo 0 0 uN iN) (g_cl X8 (nTextG p)) (g_bn (fun uZ=>add_stG _ _ sP1 (txG p) uZ (by have:=tx_szG p;have:sP1.size=10:=rfl;omega))) (Ua (miEG 90)) (g_bd (bdFlG (sP1++txG p) _ _)) (Ua (miFG (sP1++txG p) _ _)) g_as) fun u3 HB3 sz3 K3=>?_
  simp only[sQ] at K3⊢
  go_wp2
  refine bodyPost_ret (v:= .iface 129 (.agg #[.string (sP1++txG p),(.iface 39 (iI 90))])) (by simp[results,Tryz.results75,go_sem,]) rfl ⟨by rw[hR.out,hc];rfl,HB3⟩
theorem gGroup(p q g h:Int)(w:World)(hp:In p)(hq:In q):CC 75 #[GX p q g h] w (grV p q):=by
 have i2:In 2:=⟨by decide,by decide⟩
 have i7:In 7:=⟨by decide,by decide⟩
 have iq:In (p/2):=by have:=hp.1;have:=hp.2;exact⟨by omega,by omega⟩
 have im:In (p%2):=Zg i2 (by decide)
 have hC:Hid (∀u,CC 98 #[NV p,NV 7] u (iI (cmpI p 7))):=fun u=>nCompare p 7 u hp i7
 refine group_0 p q g h _ _ w hp hq i2 iq hC im ?_
 show grV p q=_
 have hc:decide (cmpI p 7<0)=decide (p<7):=by
  unfold cmpI
  by_cases h1:p<7
  ·rw[if_pos h1,decide_eq_true h1];rfl
  ·rw[if_neg h1,decide_eq_false h1];split<;>rfl
 rw[hc];simp only[grV,decide_eq_true_eq]
theorem grV_is(p q:Int):(gOk p q/\grV p q= .nilIface)\/(¬gOk p q/\EW 90 (grV p q)):=by
 unfold grV gOk
 by_cases h1:p<7
 ·rw[if_pos h1];exact .inr ⟨by omega,.wrap _ _ .leaf⟩
 ·rw[if_neg h1]
  by_cases h2:p%2=0
  ·rw[if_pos h2];exact .inr ⟨by omega,.wrap _ _ .leaf⟩
  ·rw[if_neg h2]
   by_cases h3:p/2=q
   ·rw[if_pos h3];exact .inl ⟨by omega,rfl⟩
   ·rw[if_neg h3];exact .inr ⟨by omega,.wrap _ _ .leaf⟩
end
theorem member_1(p q g h x c v:Int)(w:World)(hp:In p)(hq:In q)(hx:In x)(h0:decide (x=0)=true):CC 82 #[GX p q g h,NV x] w (.iface 129 (.agg #[.string (txG x++sX1),(.iface 39 (iI 90))])):=by
 go_enter Tryz.func82,Tryz.ntmps82
 go_upto_region 1 with fail
 obtain⟨v0,hC,HB0,K0⟩:=bx2 w (GE p q g h) 43 (LN x) 36
 rw[hC]
 clear hC
 refine Rp K0 HB0 [] [] (cG 0 7 [_,_,_,_,undef,undef,undef,undef,undef,_] []) [] [] [false] (Oc10 (g_ld 1 uN iN) (g_bd zN) (g_bn (eql_0 _ _ hx _ h0)) g_mv g_sk g_sk g_sk g_sk g_sk g_pk) fun u1 HB1 _ K1=>?_
 simp only[sQ] at K1⊢
 go_upto_region 2 with fail
 refine Rp K1 HB1 [] [] (cG 0 17 [_,_,_,_,_,_] [(6,4,_)]) [] [] [false] (Oc7 (g_ld 0 uN iN) (g_cl X8 (nTextG x)) (g_bn (fun uZ=>add_stG _ _ (txG x) sX1 uZ (by have:=tx_szG x;have:sX1.size=23:=rfl;omega))) (Ua (miEG 90)) (g_bd (bdFlG (txG x++sX1) _ _)) (Ua (miFG (txG x++sX1) _ _)) g_as) fun u2 HB2 _ K2=>?_
 simp only[sQ] at K2⊢
 go_wp2
 refine bodyPost_ret (v:= .iface 129 (.agg #[.string (txG x++sX1),(.iface 39 (iI 90))])) (by simp[results,Tryz.results82,go_sem,]) rfl ⟨rfl,HB2⟩
theorem member_2(p q g h x c v:Int)(w:World)(hp:In p)(hq:In q)(hx:In x)(h0:decide (x=0)=false)(hC:Hid (∀u,CC 98 #[NV x,NV p] u (iI c)))(hc:decide (0<=c)=true):CC 82 #[GX p q g h,NV x] w (.iface 129 (.agg #[.string (txG x++sX1),(.iface 39 (iI 90))])):=by
 go_enter Tryz.func82,Tryz.ntmps82
 go_upto_region 1 with fail
 obtain⟨v0,hC,HB0,K0⟩:=bx2 w (GE p q g h) 43 (LN x) 36
 rw[hC]
 clear hC
 refine Rp K0 HB0 [] [] (cG 0 7 [_,_,_,_,_,_,_,_,_,_] []) [] [] [false] (Oc10 (g_ld 1 uN iN) (g_bd zN) (g_bn (eql_0 _ _ hx _ h0)) g_mv (g_ld 1 uN iN) (g_fd (fdG0 _)) (g_lo 0 0 uN iN) (g_cl Zw hC.out) (g_bn (fun uZ=>geq_y _ _ _ _ _ uZ hc)) g_pk) fun u1 HB1 _ K1=>?_
 simp only[sQ] at K1⊢
 go_upto_region 2 with fail
 refine Rp K1 HB1 [] [] (cG 0 17 [_,_,_,_,_,_] [(6,4,_)]) [] [] [false] (Oc7 (g_ld 0 uN iN) (g_cl X8 (nTextG x)) (g_bn (fun uZ=>add_stG _ _ (txG x) sX1 uZ (by have:=tx_szG x;have:sX1.size=23:=rfl;omega))) (Ua (miEG 90)) (g_bd (bdFlG (txG x++sX1) _ _)) (Ua (miFG (txG x++sX1) _ _)) g_as) fun u2 HB2 _ K2=>?_
 simp only[sQ] at K2⊢
 go_wp2
 refine bodyPost_ret (v:= .iface 129 (.agg #[.string (txG x++sX1),(.iface 39 (iI 90))])) (by simp[results,Tryz.results82,go_sem,]) rfl ⟨rfl,HB2⟩
theorem member_3(p q g h x c v:Int)(w:World)(hp:In p)(hq:In q)(hx:In x)(h0:decide (x=0)=false)(hC:Hid (∀u,CC 98 #[NV x,NV p] u (iI c)))(hc:decide (0<=c)=false)(hE:Hid (∀u,CC 86 #[NV x,NV q,NV p] u (.tuple #[NV v,iI 0])))(hv:In v)(i1:In 1)(h1:decide (v=1)=!true):CC 82 #[GX p q g h,NV x] w (.iface 129 (.agg #[.string (txG x++sX2),(.iface 39 (iI 90))])):=by
 go_enter Tryz.func82,Tryz.ntmps82
 go_upto_region 1 with fail
 obtain⟨v0,hC,HB0,K0⟩:=bx2 w (GE p q g h) 43 (LN x) 36
 rw[hC]
 clear hC
 refine Rn K0 HB0 (cG 0 7 [_,_,_,_,_,_,_,_,_,_] []) (Oc10 (g_ld 1 uN iN) (g_bd zN) (g_bn (eql_0 _ _ hx _ h0)) g_mv (g_ld 1 uN iN) (g_fd (fdG0 _)) (g_lo 0 0 uN iN) (g_cl Zw hC.out) (g_bn (fun uZ=>geq_y _ _ _ _ _ uZ hc)) g_pk) fun u1 HB1 _ K1=>?_
 simp only[sQ] at K1⊢
 go_upto_region 3 with fail
 refine Rp K1 HB1 [] [(9,5,L0s,some (10,LN v))] (cG 0 24 [_,_,_,_,_,_] [(6,23,_),(7,30,_),(8,31,_),(11,6,_)]) [(10,9)] [] [false] (Od8 (g_ld 1 uN iN) (g_fd (fdG1 _)) (g_lo 0 4 uN iN) (g_fd (fdG0 _)) (g_lo 0 0 uN iN) (g_cl Vz hE.out) g_mv g_ex<|Oc4 g_ex (g_al 0 aN) (g_sn 0 iN) g_as) fun u2 b2_9 HB2 _ K2=>?_
 simp only[sQ] at K2⊢
 go_upto_region 4 with fail
 refine Rd K2 HB2 [] [] (cG 0 32 [_,_,_] []) [] [] [true,false] (Oc3 (g_ld 1 uN iN) (g_cl Ze (fun uZ=>nOf 1 uZ (by decide) (by decide))) (g_bn (Tb _ _ hv i1 _ h1))) fun u3 HB3 _ K3=>?_
 simp only[sQ] at K3⊢
 go_upto_region 5 with fail
 refine Rp K3 HB3 [] [] (cG 0 35 [_,_,_,_,_,_] [(6,4,_)]) [] [] [false] (Oc7 (g_ld 0 uN iN) (g_cl X8 (nTextG x)) (g_bn (fun uZ=>add_stG _ _ (txG x) sX2 uZ (by have:=tx_szG x;have:sX2.size=18:=rfl;omega))) (Ua (miEG 90)) (g_bd (bdFlG (txG x++sX2) _ _)) (Ua (miFG (txG x++sX2) _ _)) g_as) fun u4 HB4 _ K4=>?_
 simp only[sQ] at K4⊢
 go_wp2
 refine bodyPost_ret (v:= .iface 129 (.agg #[.string (txG x++sX2),(.iface 39 (iI 90))])) (by simp[results,Tryz.results82,go_sem,]) rfl ⟨rfl,HB4⟩
theorem member_4(p q g h x c v:Int)(w:World)(hp:In p)(hq:In q)(hx:In x)(h0:decide (x=0)=false)(hC:Hid (∀u,CC 98 #[NV x,NV p] u (iI c)))(hc:decide (0<=c)=false)(hE:Hid (∀u,CC 86 #[NV x,NV q,NV p] u (.tuple #[NV v,iI 0])))(hv:In v)(i1:In 1)(h1:decide (v=1)=!false):CC 82 #[GX p q g h,NV x] w (.nilIface):=by
 go_enter Tryz.func82,Tryz.ntmps82
 go_upto_region 1 with fail
 obtain⟨v0,hC,HB0,K0⟩:=bx2 w (GE p q g h) 43 (LN x) 36
 rw[hC]
 clear hC
 refine Rn K0 HB0 (cG 0 7 [_,_,_,_,_,_,_,_,_,_] []) (Oc10 (g_ld 1 uN iN) (g_bd zN) (g_bn (eql_0 _ _ hx _ h0)) g_mv (g_ld 1 uN iN) (g_fd (fdG0 _)) (g_lo 0 0 uN iN) (g_cl Zw hC.out) (g_bn (fun uZ=>geq_y _ _ _ _ _ uZ hc)) g_pk) fun u1 HB1 _ K1=>?_
 simp only[sQ] at K1⊢
 go_upto_region 3 with fail
 refine Rp K1 HB1 [] [(9,5,L0s,some (10,LN v))] (cG 0 24 [_,_,_,_,_,_] [(6,23,_),(7,30,_),(8,31,_),(11,6,_)]) [(10,9)] [] [false,false] (Od8 (g_ld 1 uN iN) (g_fd (fdG1 _)) (g_lo 0 4 uN iN) (g_fd (fdG0 _)) (g_lo 0 0 uN iN) (g_cl Vz hE.out) g_mv g_ex<|Oc4 g_ex (g_al 0 aN) (g_sn 0 iN) g_as) fun u2 b2_9 HB2 _ K2=>?_
 simp only[sQ] at K2⊢
 go_upto_region 4 with fail
 refine Rd K2 HB2 [] [] (cG 0 32 [_,_,_] []) [] [] [false] (Oc3 (g_ld 0 uN iN) (g_cl Ze (fun uZ=>nOf 1 uZ (by decide) (by decide))) (g_bn (Tb _ _ hv i1 _ h1))) fun u3 HB3 _ K3=>?_
 simp only[sQ] at K3⊢
 go_upto_region 6 with fail
 refine Rn K3 HB3 [(0,4,_)] (Oc1 g_as) fun u4 HB4 _ K4=>?_
 simp only[sQ] at K4⊢
 go_wp2
 refine bodyPost_ret (v:= .nilIface) (by simp[results,Tryz.results82,go_sem,]) rfl ⟨rfl,HB4⟩
theorem cMember(p q g h x:Int)(w:World)(hp:In p)(hq:In q)(hx:In x)(hp0:p≠0):CC 82 #[GX p q g h,NV x] w (mbV p q x):=by
 have hC:Hid (∀u,CC 98 #[NV x,NV p] u (iI (cmpI x p))):=fun u=>nCompare x p u hx hp
 by_cases h0:x=0
 ·rw[show mbV p q x=_ from if_pos (.inl h0)]
  exact member_1 p q g h x 0 0 w hp hq hx (decide_eq_true h0)
 ·by_cases h1:p<=x
  ·have hc:decide (0<=cmpI x p)=true:=by unfold cmpI;rw[if_neg (by omega)];split<;>rfl
   rw[show mbV p q x=_ from if_pos (.inr h1)]
   exact member_2 p q g h x _ 0 w hp hq hx (decide_eq_false h0) hC hc
  ·have hc:decide (0<=cmpI x p)=false:=by unfold cmpI;rw[if_pos (by omega)];rfl
   rw[show mbV p q x=_ from if_neg (by omega)]
   have hE:Hid (∀u,CC 86 #[NV x,NV q,NV p] u (.tuple #[NV (x^q.toNat%p),iI 0])):=fun u=>mExp x q p u hx hq hp hp0
   have i1:In 1:=⟨by decide,by decide⟩
   by_cases h2:x^q.toNat%p=1
   ·rw[if_pos h2]
    exact member_4 p q g h x _ _ w hp hq hx (decide_eq_false h0) hC hc hE (Zg hp hp0) i1 (decide_eq_true h2)
   ·rw[if_neg h2]
    exact member_3 p q g h x _ _ w hp hq hx (decide_eq_false h0) hC hc hE (Zg hp hp0) i1 (decide_eq_false h2)
theorem mbV_is(p q x:Int)(hx:In x):(Mb p q x/\mbV p q x= .nilIface)\/(¬Mb p q x/\EW 90 (mbV p q x)):=by
 have h0:=hx.1
 unfold mbV Mb
 by_cases h1:x=0\/p<=x
 ·rw[if_pos h1];exact .inr ⟨fun h=>by have:=h.1;have:=h.2.1;omega,.wrap _ _ .leaf⟩
 ·rw[if_neg h1]
  by_cases h2:x^q.toNat%p=1
  ·rw[if_pos h2];exact .inl ⟨⟨by omega,by omega,h2⟩,rfl⟩
  ·rw[if_neg h2];exact .inr ⟨fun h=>h2 h.2.2,.wrap _ _ .leaf⟩
theorem members_c(p q g h:Int)(T:TypeId)(x:Value)(sl:Option Addr)(n cap:Nat)(w:World)(hC:Hid (∀u,CC 75 #[GX p q g h] u (.iface T x))):
 CC 59 #[GX p q g h,.slice sl n cap] w (.iface 129 (.agg #[.string ⟨#[103,114,111,117,112]⟩,.iface T x])):=by
 go_enter Tryz.func59,Tryz.ntmps59
 go_upto_region 1 with fail
 obtain⟨v0,hC,HB0,K0⟩:=bx1 w (GE p q g h) 43
 rw[hC]
 clear hC
 refine Rp K0 HB0 [] [] [(0,9,_),(1,10,_),(2,5,_)] [] [] [false] (Oc3 (g_ld 0 Tryz.underlying43 Z0) (g_cl Wo hC.out) g_as) fun u1 HB1 _ K1=>?_
 simp only[sQ] at K1⊢
 go_upto_region 2 with fail
 refine Rn K1 HB1 [(0,11,_),(1,12,_)] (Oc2 g_mv (g_bn (neq_erG _ _ _ _))) fun u2 HB2 _ K2=>?_
 simp only[sQ] at K2⊢
 go_upto_region 3 with fail
 refine Rn K2 HB2 (cG 0 13 [_,_,_] [(3,4,_)]) (Oc4 g_mv (g_bd (bdFlG ⟨#[103,114,111,117,112]⟩ T x)) (Ua (miFG ⟨#[103,114,111,117,112]⟩ T x)) g_as) fun u3 HB3 _ K3=>?_
 simp only[sQ] at K3⊢
 go_wp2
 refine bodyPost_ret (v:= .iface 129 (.agg #[.string ⟨#[103,114,111,117,112]⟩,.iface T x])) (by simp[results,Tryz.results59,go_sem,]) rfl ⟨rfl,HB3⟩
theorem members_k(p q g h:Int)(rv:Value)(sl:Option Addr)(gb go cap:Nat)(ns:List Int)(w:World)(hG:GT w)(hns:ns.length<=50)(hp:In p)(hq:In q)(hp0:p≠0)(hn:Hid (∀k,k<ns.length->In (ns.getD k 0)))(hix:Hid (∀j,j<ns.length-> ∀W,(Instr.indexAt 27 (.slice sl ns.length cap) (iI j)).run Tryz.prog W= .ok (.pointer (some ⟨gb,go+4*j,none⟩)) W))(hg0:ns.length=0\/gb<w.heap.size)(hS:Hid (SN w gb go ns))(hC:Hid (∀u,CC 75 #[GX p q g h] u (.nilIface)))
 (hE:Hid (∀k,k<ns.length->(∀j,j<k->Mb p q (ns.getD j 0))-> ¬Mb p q (ns.getD k 0)->rv= .iface 129 (.agg #[.string (sM2++iaG (k:Int)),mbV p q (ns.getD k 0)])))(hE2:Hid ((∀j,j<ns.length->Mb p q (ns.getD j 0))->rv= .nilIface)):
 CC 59 #[GX p q g h,.slice sl ns.length cap] w rv:=by
 go_enter Tryz.func59,Tryz.ntmps59
 go_upto_region 1 with fail
 obtain⟨v0,hC,HB0,K0⟩:=bx1 w (GE p q g h) 43
 rw[hC]
 clear hC
 refine Rn K0 HB0 [(0,9,_),(1,10,_),(2,5,_)] (Oc3 (g_ld 0 Tryz.underlying43 Z0) (g_cl Wo hC.out) g_as) fun u1 HB1 _ K1=>?_
 simp only[sQ] at K1⊢
 go_upto_region 2 with fail
 refine Rn K1 HB1 [(0,11,_),(1,12,_)] (Oc2 g_mv (g_bn (neq_noG _ _))) fun u2 HB2 _ K2=>?_
 simp only[sQ] at K2⊢
 go_upto_region 4 with fail
 refine Rn K2 HB2 (cG 0 16 [_,_,_] []) (Oc3 g_mv (g_ln Tryz.underlying27) g_mv) fun u3 HB3 _ K3=>?_
 simp only[sQ] at K3⊢
 go_wp2_with fail
 go_loopw [18] (fun s18 wr=> ∃(k:Nat),k<=ns.length/\s18=iI (k:Int)/\Hid (∀j,j<k->Mb p q (ns.getD j 0))/\Bw w wr/\CV wr (w.heap.size) (GE p q g h)/\w.heap.size<wr.heap.size) (fun s18 _=>ns.length -(intOf s18).toNat)
 case atStart=>exact⟨0,by omega,rfl,fun j hj=>absurd hj (by omega),HB3,(K3.cv 0),(K3.lt 0)⟩
 case round=>
  obtain⟨k,hk,rfl,hall,HBr,Kg,lg⟩:=hrel
  by_cases hj:k<ns.length
  ·have hl:decide ((k:Int)<(ns.length:Int))=true:=by simp;omega
   have iy:=hn.out k hj
   have hX:=hix.out k hj
   have hX:Hid _:=hX
   have hR:=hS.out.at k hj
   have hR:Hid _:=hR
   have hlen:(k:Int)<1000:=by omega
   have hev:=hE.out k hj hall.out
   have hev:Hid _:=hev
   have hI:Hid (∀u,CC 82 #[GX p q g h,NV (ns.getD k 0)] u (mbV p q (ns.getD k 0))):=fun u=>cMember p q g h _ u hp hq iy hp0
   have hmb:=mbV_is p q _ iy
   have hall2:Mb p q (ns.getD k 0)->Hid (∀j,j<k+1->Mb p q (ns.getD j 0)):=fun hb j hj2=>by
    by_cases e:j=k
    ·subst e;exact hb
    ·exact hall.out j (by omega)
   rcases hmb with⟨hb,hm⟩ | ⟨hb,hm⟩
   ·have hev2:Hid _:=hall2 hb
    rw[hm] at hI
    clear hm hb hall2 hev
    obtain⟨y,ey⟩: ∃y,ns.getD k 0=y:=⟨_,rfl⟩
    rw[ey] at iy hR hI
    clear ey
    have K3_1:Bk w.heap.size wr [(false,w.heap.size,GE p q g h)]:=⟨.c lg Kg<|trivial,by simp⟩
    go_upto_region 5 with fail
    refine Rn K3_1 HBr [(0,19,_)] (Oc1 (g_bn (fun uZ=>lss_z _ _ (k:Int) (ns.length:Int) _ uZ hl))) fun u4 HB4 sz4 K4=>?_
    simp only[sQ] at K4⊢
    go_upto_region 6 with fail
    refine Rp K4 HB4 [] [(3,7,L0s,some (5,LN y))] (cG 0 20 [_,_,_] [(4,6,_)]) [(5,3)] [] [] (Oc6 g_mv (g_ix hX.out) (g_lf hR.out (hg0.resolve_left (by omega)) uN iN) (g_al 0 aN) g_as (g_sn 0 iN)) fun u5 b5_3 HB5 sz5 K5=>?_
    simp only[sQ] at K5⊢
    go_upto_region 7 with fail
    refine Rp K5 HB5 [] [] (cG 0 23 [_,_,_] [(3,8,_)]) [] [] [true,false] (Oc4 (g_ld 0 Tryz.underlying43 Z0) (g_ld 1 uN iN) (g_cl Vt hI.out) g_as) fun u6 HB6 sz6 K6=>?_
    simp only[sQ] at K6⊢
    go_upto_region 8 with fail
    refine Rn K6 HB6 [(0,26,_),(1,27,_)] (Oc2 g_mv (g_bn (neq_noG _ _))) fun u7 HB7 sz7 K7=>?_
    simp only[sQ] at K7⊢
    go_upto_region 10 with fail
    refine Rp K7 HB7 [] [] [(0,34,_),(1,18,_)] [(1,0)] [(1,18)] [] (Oc2 (g_bn (fun uZ=>Zl _ _ (k:Int) 1 ((k+1:Nat):Int) uZ (by omega) (by omega) (by omega))) g_mv) fun u8 HB8 sz8 K8=>?_
    simp only[sQ] at K8⊢
    go_wp2
    refine⟨⟨k+1,by omega,rfl,hev2,HB8,(K8.cv 0),(K8.lt 0)⟩,?_⟩
    simp[intOf]<;>omega
   ·have hev2:=hev.out hb
    obtain⟨T,x,ex⟩:=hm.some
    rw[ex] at hI hev2
    have hev2:Hid _:=hev2
    clear hm hb hall2 hev ex
    obtain⟨y,ey⟩: ∃y,ns.getD k 0=y:=⟨_,rfl⟩
    rw[ey] at iy hR hI
    clear ey
    have K3_1:Bk w.heap.size wr [(false,w.heap.size,GE p q g h)]:=⟨.c lg Kg<|trivial,by simp⟩
    go_upto_region 5 with fail
    refine Rn K3_1 HBr [(0,19,_)] (Oc1 (g_bn (fun uZ=>lss_z _ _ (k:Int) (ns.length:Int) _ uZ hl))) fun u4 HB4 sz4 K4=>?_
    simp only[sQ] at K4⊢
    go_upto_region 6 with fail
    refine Rp K4 HB4 [] [(3,7,L0s,some (5,LN y))] (cG 0 20 [_,_,_] [(4,6,_)]) [(5,3)] [] [] (Oc6 g_mv (g_ix hX.out) (g_lf hR.out (hg0.resolve_left (by omega)) uN iN) (g_al 0 aN) g_as (g_sn 0 iN)) fun u5 b5_3 HB5 sz5 K5=>?_
    simp only[sQ] at K5⊢
    go_upto_region 7 with fail
    refine Rp K5 HB5 [] [] (cG 0 23 [_,_,_] [(3,8,_)]) [] [] [false,false] (Oc4 (g_ld 0 Tryz.underlying43 Z0) (g_ld 1 uN iN) (g_cl Vt hI.out) g_as) fun u6 HB6 sz6 K6=>?_
    simp only[sQ] at K6⊢
    go_upto_region 8 with fail
    refine Rn K6 HB6 [(0,26,_),(1,27,_)] (Oc2 g_mv (g_bn (neq_erG _ _ _ _))) fun u7 HB7 sz7 K7=>?_
    simp only[sQ] at K7⊢
    go_upto_region 9 with fail
    refine Rn K7 HB7 (cG 0 28 [_,_,_,_,_,_] [(6,4,_)]) (Oc7 g_mv (g_cb Uq (fun uZ bZ=>cItoaG (k:Int) uZ (by omega) (by omega) (hG.below bZ))) (g_bn (fun uZ=>add_stG _ _ sM2 (iaG (k:Int)) uZ (by have:=ia_szG (k:Int) (by omega) (by omega);have:sM2.size=7:=rfl;omega))) g_mv (g_bd (bdFlG (sM2++iaG (k:Int)) T x)) (Ua (miFG (sM2++iaG (k:Int)) T x)) g_as) fun u8 HB8 sz8 K8=>?_
    simp only[sQ] at K8⊢
    have hev2:=hev2.out
    subst hev2
    go_wp2
    refine bodyPost_ret (v:= .iface 129 (.agg #[.string (sM2++iaG (k:Int)),.iface T x])) (by simp[results,Tryz.results59,go_sem,]) rfl ⟨rfl,HB8⟩
  ·have hl:decide ((k:Int)<(ns.length:Int))=false:=by simp;omega
   have hkn:k=ns.length:=by omega
   have hrv:=hE2.out (by rw[<-hkn];exact hall.out)
   clear hkn
   subst hrv
   have K3_1:Bk w.heap.size wr [(false,w.heap.size,GE p q g h)]:=⟨.c lg Kg<|trivial,by simp⟩
   go_upto_region 5 with fail
   refine Rp K3_1 HBr [] [] [(0,19,_)] [] [] [false] (Oc1 (g_bn (fun uZ=>lss_z _ _ (k:Int) (ns.length:Int) _ uZ hl))) fun u4 HB4 sz4 K4=>?_
   simp only[sQ] at K4⊢
   go_upto_region 11 with fail
   refine Rn K4 HB4 [(0,4,_)] (Oc1 g_as) fun u5 HB5 sz5 K5=>?_
   simp only[sQ] at K5⊢
   go_wp2
   refine bodyPost_ret (v:= .nilIface) (by simp[results,Tryz.results59,go_sem,]) rfl ⟨rfl,HB5⟩
theorem first_no(P:Nat->Prop): ∀n:Nat,(∀j,j<n->P j)\/ ∃k,k<n/\(∀j,j<k->P j)/\ ¬P k
 | 0=>.inl fun j hj=>absurd hj (by omega)
 | n+1=>by
  rcases first_no P n with h | ⟨k,h1,h2,h3⟩
  ·by_cases e:P n
   ·exact .inl fun j hj=>by
     by_cases ej:j=n
     ·subst ej;exact e
     ·exact h j (by omega)
   ·exact .inr ⟨n,by omega,h,e⟩
  ·exact .inr ⟨k,by omega,h2,h3⟩
theorem cMembers(p q g h:Int)(ns:List Int)(hns:ns.length<=50)(hp:In p)(hq:In q)(hn: ∀k,k<ns.length->In (ns.getD k 0)):
 ∃v,((mlB p q ns=true/\v= .nilIface)\/(mlB p q ns=false/\EW 90 v))/\ ∀(y:Value) (w:World),GT w->NL w y ns->CC 59 #[GX p q g h,y] w v:=by
 have hC:=fun u=>gGroup p q g h u hp hq
 have hgd: ∀k,k<ns.length->ns.getD k 0∈ns:=fun k hk=>by
  rw[List.getD_eq_getElem?_getD,List.getElem?_eq_getElem hk];exact List.getElem_mem hk
 rcases grV_is p q with⟨hg,he⟩ | ⟨hg,he⟩
 ·rw[he] at hC
  have h7:=hg.2
  have hix: ∀(sl:Option Addr) (gb go cap:Nat),(ns=[]\/sl=some ⟨gb,go,none⟩)->Hid (∀j,j<ns.length-> ∀W,(Instr.indexAt 27 (.slice sl ns.length cap) (iI j)).run Tryz.prog W= .ok (.pointer (some ⟨gb,go+4*j,none⟩)) W):=fun sl gb go cap hsl j hj W=>by
   have e:=hsl.resolve_left (fun e=>by subst e;simp at hj)
   subst e
   exact ixS gb go ns.length cap j hj W
  rcases first_no (fun j=>Mb p q (ns.getD j 0)) ns.length with ha | ⟨k,h1,h2,h3⟩
  ·refine⟨.nilIface,.inl ⟨?_,rfl⟩,fun y w hG hy=>?_⟩
   ·unfold mlB
    rw[Bool.and_eq_true,decide_eq_true_iff,List.all_eq_true]
    refine⟨hg,fun x hx=>?_⟩
    obtain⟨j,hj,rfl⟩:=List.mem_iff_getElem.1 hx
    have:=ha j hj
    rw[List.getD_eq_getElem?_getD,List.getElem?_eq_getElem hj] at this
    exact decide_eq_true ⟨hg,this⟩
   ·obtain⟨sl,gb,go,cap,rfl,_,_,hsl,hg0,hS⟩:=hy
    exact members_k p q g h _ sl gb go cap ns w hG hns hp hq (by omega) hn (hix sl gb go cap hsl) hg0 hS hC (fun k hk _ hb=>absurd (ha k hk) hb) (fun _=>rfl)
  ·have iy:=hn k h1
   have hb2:isB p q (ns.getD k 0)=false:=decide_eq_false fun h=>h3 h.2
   refine⟨.iface 129 (.agg #[.string (sM2++iaG (k:Int)),mbV p q (ns.getD k 0)]),.inr ⟨?_,.wrap _ _ ((mbV_is p q _ iy).resolve_left fun h=>h3 h.1).2⟩,fun y w hG hy=>?_⟩
   ·unfold mlB
    rw[Bool.and_eq_false_iff]
    refine .inr ?_
    rw[List.all_eq_false]
    exact⟨_,hgd k h1,by rw[hb2];decide⟩
   ·obtain⟨sl,gb,go,cap,rfl,_,_,hsl,hg0,hS⟩:=hy
    refine members_k p q g h _ sl gb go cap ns w hG hns hp hq (by omega) hn (hix sl gb go cap hsl) hg0 hS hC (fun k' hk' ha hb=>?_) (fun ha=>absurd (ha k h1) h3)
    have:k'=k:=by
     rcases Nat.lt_trichotomy k' k with e | e | e
     ·exact absurd (h2 k' e) hb
     ·exact e
     ·exact absurd (ha k e) h3
    subst this;rfl
 ·obtain⟨T,x,ex⟩:=he.some
  rw[ex] at hC he
  refine⟨_,.inr ⟨?_,.wrap ⟨#[103,114,111,117,112]⟩ _ he⟩,fun y w hG hy=>?_⟩
  ·unfold mlB;rw[decide_eq_false hg];rfl
  ·obtain⟨sl,gb,go,cap,rfl,_,_,hsl,hg0,hS⟩:=hy
   exact members_c p q g h T x sl _ cap w hC
theorem Wn:EnT 62:=fun _ _=>by kernel_rfl
theorem Vc:EnT 61:=fun _ _=>by kernel_rfl
theorem cPower(p q g h x e:Int)(w:World)(hp:In p)(hq:In q)(hx:In x)(he:In e)(hp0:p≠0)(hq0:q≠0):
 CC 62 #[GX p q g h,NV x,NV e] w (NV (x^(e%q).toNat%p)):=by
 go_enter Tryz.func62,Tryz.ntmps62
 go_upto_region 1 with fail
 obtain⟨v0,hC,HB0,K0⟩:=bx4 w (GE p q g h) 43 (LN x) 36 (LN e) 36 L0s 36
 rw[hC]
 clear hC
 refine Rd K0 HB0 [.no,.no,.all 8 (LN (e%q))] [] (cG 0 10 [_,_,_,_,_] [(5,9,_),(6,15,_),(7,16,_)]) [(8,0)] [] [] (Oc9 (g_ld 2 uN iN) (g_cl Za (fun uZ=>Xr e uZ he)) (g_fd (fdG1 _)) (g_lo 0 4 uN iN) (g_cl Zd (fun uZ=>Xb e q uZ he.wide hq hq0)) g_mv g_ex g_ex (g_st 2 iN)) fun u1 HB1 _ K1=>?_
 simp only[sQ] at K1⊢
 go_upto_region 2 with fail
 refine Rp K1 HB1 [] [(8,7,L0s,some (9,LN (x^(e%q).toNat%p)))] (cG 0 18 [_,_,_,_,_] [(5,17,_),(6,23,_),(7,24,_),(10,8,_)]) [(9,8)] [] [false,false,false] (Od8 (g_ld 1 uN iN) (g_ld 2 uN iN) (g_fd (fdG0 _)) (g_lo 0 0 uN iN) (g_cl Vz (fun uZ=>mExp x (e%q) p uZ hx (Zg hq hq0) hp hp0)) g_mv g_ex g_ex<|Oc3 (g_al 0 aN) (g_sn 0 iN) g_as) fun u2 b2_8 HB2 _ K2=>?_
 simp only[sQ] at K2⊢
 go_upto_region 3 with fail
 refine Rp K2 HB2 [.all 1 (LN (x^(e%q).toNat%p))] [] [(0,25,_)] [] [] [true,false] (Oc2 (g_ld 1 uN iN) (g_st 0 iN)) fun u3 HB3 _ K3=>?_
 simp only[sQ] at K3⊢
 have c6:=(K3.cv 0).n4
 go_wp2
 refine bodyPost_ret (v:=NV (x^(e%q).toNat%p)) (by simp[results,Tryz.results62,go_sem,c6]) rfl ⟨rfl,HB3⟩
theorem product_core(p q g h c:Int)(sl:Option Addr)(n cap:Nat)(w:World)(hP:Hid (∀u,Bw w u->CC 83 #[NV p,.slice sl n cap] u (.tuple #[NV c,iI 0]))):
 CC 61 #[GX p q g h,.slice sl n cap] w (NV c):=by
 go_enter Tryz.func61,Tryz.ntmps61
 go_upto_region 1 with fail
 obtain⟨v0,hC,HB0,K0⟩:=bx2 w (GE p q g h) 43 L0s 36
 rw[hC]
 clear hC
 refine Rp K0 HB0 [] [(7,5,L0s,some (8,LN c))] (cG 0 8 [_,_,_,_] [(4,7,_),(5,12,_),(6,13,_),(9,6,_)]) [(8,7)] [] [false] (Oc10 (g_fd (fdG0 _)) (g_lo 0 0 uN iN) g_mv (g_cb ent_mod_Product hP.out) g_mv g_ex g_ex (g_al 0 aN) (g_sn 0 iN) g_as) fun u1 b1_7 HB1 _ K1=>?_
 simp only[sQ] at K1⊢
 go_upto_region 2 with fail
 refine Rp K1 HB1 [.all 1 (LN c)] [] [(0,14,_)] [] [] [true,false] (Oc2 (g_ld 1 uN iN) (g_st 0 iN)) fun u2 HB2 _ K2=>?_
 simp only[sQ] at K2⊢
 have c4:=(K2.cv 0).n4
 go_wp2
 refine bodyPost_ret (v:=NV c) (by simp[results,Tryz.results61,go_sem,c4]) rfl ⟨rfl,HB2⟩
def prN(p:Int)(ns:List Int):Int:=gat (fun a b=>(a*b)%p) (1%p) ns ns.length
theorem cProduct(p q g h:Int)(ns:List Int)(y:Value)(w:World)(hns:ns.length<=50)(hp:In p)(hp0:p≠0)(hn: ∀k,k<ns.length->In (ns.getD k 0))(hy:NL w y ns):
 CC 61 #[GX p q g h,y] w (NV (prN p ns)):=by
 obtain⟨sl,gb,go,cap,rfl,_,_,hsl,hg0,hS⟩:=hy
 refine product_core p q g h _ sl _ cap w fun u hB=>?_
 refine mProduct p sl gb go cap ns u hns hp hp0 hn (fun j hj W=>?_) (hg0.imp id fun e=>Nat.lt_of_lt_of_le e hB.size) (SN.below2 hS hB hg0)
 have e:=hsl.resolve_left (fun e=>by subst e;simp at hj)
 subst e
 exact ixS gb go ns.length cap j hj W
theorem check_core(p q g h r:Int)(V:Value)(w:World)(hG:Hid (∀u,Bw w u->CC 75 #[GX p q g h] u V))(hT:Hid (∀u,Bw w u->CC 60 #[V] u (iI r))):
 CC 51 #[GX p q g h] w (iI r):=by
 go_enter Tryz.func51,Tryz.ntmps51
 go_upto_region 1 with fail
 obtain⟨v0,hC,HB0,K0⟩:=bx1 w (GE p q g h) 43
 rw[hC]
 clear hC
 refine Rp K0 HB0 [] [] (cG 0 3 [_,V,_] [(3,2,_)]) [] [] [false] (Oc4 (g_ld 0 Tryz.underlying43 Z0) (g_cb Wo hG.out) (g_cb Xx hT.out) g_as) fun u1 HB1 _ K1=>?_
 simp only[sQ] at K1⊢
 go_wp2
 refine bodyPost_ret (v:=iI r) (by simp[results,Tryz.results51,go_sem,]) rfl ⟨rfl,HB1⟩
theorem cCheckG(p q g h:Int)(w:World)(hp:In p)(hq:In q):CC 51 #[GX p q g h] w (iI (chE p q)):=by
 refine check_core p q g h _ (grV p q) w (fun u _=>gGroup p q g h u hp hq) (fun u _=>?_)
 rcases grV_is p q with⟨h1,h2⟩ | ⟨h1,h2⟩
 ·rw[h2,show chE p q=0 from if_pos h1];exact gToldN u
 ·rw[show chE p q=90 from if_neg h1];exact gTold9 _ u h2
theorem exp_n(p q g h x e:Int)(T:TypeId)(xv:Value)(w:World)(hM:Hid (∀u y,Bw w u->N1x x u y->CC 59 #[GX p q g h,y] u (.iface T xv)))(hT:Hid (∀u,Bw w u->CC 60 #[.iface T xv] u (iI 90))):
 CC 57 #[GX p q g h,NV x,NV e] w (.tuple #[A4 0 0 0 0,iI 90]):=by
 go_enter Tryz.func57,Tryz.ntmps57
 go_upto_region 1 with fail
 obtain⟨v0,hC,HB0,K0⟩:=bx4 w (GE p q g h) 43 (LN x) 36 (LN e) 36 L0s 36
 rw[hC]
 clear hC
 refine Rf K0 HB0 [] [] [(0,9,_),(1,10,_),(3,12,_),(4,8,_)] [] [] [⟨2,11,some 3,N1x x⟩] [false,false,false] (Oc5 (g_ld 0 Tryz.underlying43 Z0) (g_ld 1 uN iN) (g_bR 0 (N1x x) [0] [NV x] (flN [x]) (bsNx1 x) (fun u hu=>inNx1 x u)) (g_c2 0 (N1x x) Y4 (fun uZ yZ bZ hZ=>hM.out uZ yZ bZ hZ)) g_as) fun u1 v1_2 hv1_2 HB1 _ K1=>?_
 simp only[sQ] at K1⊢
 go_upto_region 2 with fail
 refine Rn K1 HB1 [(0,13,_),(1,14,_)] (Oc2 g_mv (g_bn (neq_erG _ _ _ _))) fun u2 HB2 _ K2=>?_
 simp only[sQ] at K2⊢
 go_upto_region 3 with fail
 refine Rp K2 HB2 [.all 3 ([iU (0),iU (0),iU (0),iU (0)])] [] (cG 0 15 [_,_,_] [(4,7,_)]) [] [] [] (Oc5 (g_bd zN) g_mv (g_cb Xx hT.out) (g_st 0 iN) g_as) fun u3 HB3 _ K3=>?_
 simp only[sQ] at K3⊢
 have c6:=(K3.cv 0).n4
 go_wp2
 refine bodyPost_ret (v:= .tuple #[A4 0 0 0 0,iI 90]) (by simp[results,Tryz.results57,go_sem,c6]) rfl ⟨rfl,HB3⟩
theorem mulG_n(p q g h:Int)(sl:Option Addr)(n cap:Nat)(T:TypeId)(xv:Value)(w:World)(hM:Hid (∀u,Bw w u->CC 59 #[GX p q g h,.slice sl n cap] u (.iface T xv)))(hT:Hid (∀u,Bw w u->CC 60 #[.iface T xv] u (iI 90))):
 CC 48 #[GX p q g h,.slice sl n cap] w (.tuple #[A4 0 0 0 0,iI 90]):=by
 go_enter Tryz.func48,Tryz.ntmps48
 go_upto_region 1 with fail
 obtain⟨v0,hC,HB0,K0⟩:=bx2 w (GE p q g h) 43 L0s 36
 rw[hC]
 clear hC
 refine Rp K0 HB0 [] [] (cG 0 7 [_,_,_] [(3,6,_)]) [] [] [false] (Oc4 (g_ld 0 Tryz.underlying43 Z0) g_mv (g_cb Y4 hM.out) g_as) fun u1 HB1 _ K1=>?_
 simp only[sQ] at K1⊢
 go_upto_region 2 with fail
 refine Rn K1 HB1 [(0,10,_),(1,11,_)] (Oc2 g_mv (g_bn (neq_erG _ _ _ _))) fun u2 HB2 _ K2=>?_
 simp only[sQ] at K2⊢
 go_upto_region 3 with fail
 refine Rp K2 HB2 [.all 3 ([iU (0),iU (0),iU (0),iU (0)])] [] (cG 0 12 [_,_,_] [(4,5,_)]) [] [] [] (Oc5 (g_bd zN) g_mv (g_cb Xx hT.out) (g_st 0 iN) g_as) fun u3 HB3 _ K3=>?_
 simp only[sQ] at K3⊢
 have c4:=(K3.cv 0).n4
 go_wp2
 refine bodyPost_ret (v:= .tuple #[A4 0 0 0 0,iI 90]) (by simp[results,Tryz.results48,go_sem,c4]) rfl ⟨rfl,HB3⟩
theorem com_n(p q g h s t:Int)(T:TypeId)(xv:Value)(w:World)(hM:Hid (∀u y,Bw w u->N2 g h u y->CC 59 #[GX p q g h,y] u (.iface T xv)))(hT:Hid (∀u,Bw w u->CC 60 #[.iface T xv] u (iI 90))):
 CC 31 #[GX p q g h,NV s,NV t] w (.tuple #[A4 0 0 0 0,iI 90]):=by
 go_enter Tryz.func31,Tryz.ntmps31
 go_upto_region 1 with fail
 obtain⟨v0,hC,HB0,K0⟩:=bx4 w (GE p q g h) 43 (LN s) 36 (LN t) 36 L0s 36
 rw[hC]
 clear hC
 refine Rf K0 HB0 [] [] (cG 0 9 [_,_,_,_,_] [(6,15,_),(7,8,_)]) [] [] [⟨5,14,some 6,N2 g h⟩] [false,false,false] (Oc8 (g_ld 0 Tryz.underlying43 Z0) (g_fd (fdG2 _)) (g_lo 0 8 uN iN) (g_fd (fdG3 _)) (g_lo 0 12 uN iN) (g_bR 0 (N2 g h) [0,1] [NV g,NV h] (flN [g,h]) (bsN2 g h) (fun u hu=>inN2 g h u)) (g_c2 0 (N2 g h) Y4 (fun uZ yZ bZ hZ=>hM.out uZ yZ bZ hZ)) g_as) fun u1 v1_5 hv1_5 HB1 _ K1=>?_
 simp only[sQ] at K1⊢
 go_upto_region 2 with fail
 refine Rn K1 HB1 [(0,16,_),(1,17,_)] (Oc2 g_mv (g_bn (neq_erG _ _ _ _))) fun u2 HB2 _ K2=>?_
 simp only[sQ] at K2⊢
 go_upto_region 3 with fail
 refine Rp K2 HB2 [.all 3 ([iU (0),iU (0),iU (0),iU (0)])] [] (cG 0 18 [_,_,_] [(4,7,_)]) [] [] [] (Oc5 (g_bd zN) g_mv (g_cb Xx hT.out) (g_st 0 iN) g_as) fun u3 HB3 _ K3=>?_
 simp only[sQ] at K3⊢
 have c6:=(K3.cv 0).n4
 go_wp2
 refine bodyPost_ret (v:= .tuple #[A4 0 0 0 0,iI 90]) (by simp[results,Tryz.results31,go_sem,c6]) rfl ⟨rfl,HB3⟩
theorem exp_k(p q g h x e r:Int)(w:World)(hM:Hid (∀u y,Bw w u->N1x x u y->CC 59 #[GX p q g h,y] u (.nilIface)))(hP:Hid (∀u,Bw w u->CC 62 #[GX p q g h,NV x,NV e] u (NV r))):
 CC 57 #[GX p q g h,NV x,NV e] w (.tuple #[NV r,iI 0]):=by
 go_enter Tryz.func57,Tryz.ntmps57
 go_upto_region 1 with fail
 obtain⟨v0,hC,HB0,K0⟩:=bx4 w (GE p q g h) 43 (LN x) 36 (LN e) 36 L0s 36
 rw[hC]
 clear hC
 refine Rf K0 HB0 [] [] [(0,9,_),(1,10,_),(3,12,_),(4,8,_)] [] [] [⟨2,11,some 3,N1x x⟩] [] (Oc5 (g_ld 0 Tryz.underlying43 Z0) (g_ld 1 uN iN) (g_bR 0 (N1x x) [0] [NV x] (flN [x]) (bsNx1 x) (fun u hu=>inNx1 x u)) (g_c2 0 (N1x x) Y4 (fun uZ yZ bZ hZ=>hM.out uZ yZ bZ hZ)) g_as) fun u1 v1_2 hv1_2 HB1 _ K1=>?_
 simp only[sQ] at K1⊢
 go_upto_region 2 with fail
 refine Rn K1 HB1 [(0,13,_),(1,14,_)] (Oc2 g_mv (g_bn (neq_noG _ _))) fun u2 HB2 _ K2=>?_
 simp only[sQ] at K2⊢
 go_upto_region 4 with fail
 refine Rp K2 HB2 [.no,.no,.no,.all 4 (LN r)] [] (cG 0 18 [_,_,_,_] [(5,7,_)]) [] [] [false,false,false] (Oc6 (g_ld 0 Tryz.underlying43 Z0) (g_ld 1 uN iN) (g_ld 2 uN iN) (g_cb Wn hP.out) (g_st 3 iN) g_as) fun u3 HB3 _ K3=>?_
 simp only[sQ] at K3⊢
 have c6:=(K3.cv 0).n4
 go_wp2
 refine bodyPost_ret (v:= .tuple #[NV r,iI 0]) (by simp[results,Tryz.results57,go_sem,c6]) rfl ⟨rfl,HB3⟩
theorem mulG_k(p q g h r:Int)(sl:Option Addr)(n cap:Nat)(w:World)(hM:Hid (∀u,Bw w u->CC 59 #[GX p q g h,.slice sl n cap] u (.nilIface)))(hP:Hid (∀u,Bw w u->CC 61 #[GX p q g h,.slice sl n cap] u (NV r))):
 CC 48 #[GX p q g h,.slice sl n cap] w (.tuple #[NV r,iI 0]):=by
 go_enter Tryz.func48,Tryz.ntmps48
 go_upto_region 1 with fail
 obtain⟨v0,hC,HB0,K0⟩:=bx2 w (GE p q g h) 43 L0s 36
 rw[hC]
 clear hC
 refine Rn K0 HB0 (cG 0 7 [_,_,_] [(3,6,_)]) (Oc4 (g_ld 0 Tryz.underlying43 Z0) g_mv (g_cb Y4 hM.out) g_as) fun u1 HB1 _ K1=>?_
 simp only[sQ] at K1⊢
 go_upto_region 2 with fail
 refine Rn K1 HB1 [(0,10,_),(1,11,_)] (Oc2 g_mv (g_bn (neq_noG _ _))) fun u2 HB2 _ K2=>?_
 simp only[sQ] at K2⊢
 go_upto_region 4 with fail
 refine Rp K2 HB2 [.no,.all 3 (LN r)] [] (cG 0 15 [_,_,_] [(4,5,_)]) [] [] [false] (Oc5 (g_ld 0 Tryz.underlying43 Z0) g_mv (g_cb Vc hP.out) (g_st 1 iN) g_as) fun u3 HB3 _ K3=>?_
 simp only[sQ] at K3⊢
 have c4:=(K3.cv 0).n4
 go_wp2
 refine bodyPost_ret (v:= .tuple #[NV r,iI 0]) (by simp[results,Tryz.results48,go_sem,c4]) rfl ⟨rfl,HB3⟩
theorem com_k(p q g h s t a b r:Int)(w:World)(hM:Hid (∀u y,Bw w u->N2 g h u y->CC 59 #[GX p q g h,y] u (.nilIface)))(hP:Hid (∀u,Bw w u->CC 62 #[GX p q g h,NV g,NV s] u (NV a)))(hQ:Hid (∀u,Bw w u->CC 62 #[GX p q g h,NV h,NV t] u (NV b)))(hR:Hid (∀u y,Bw w u->N2 a b u y->CC 61 #[GX p q g h,y] u (NV r))):
 CC 31 #[GX p q g h,NV s,NV t] w (.tuple #[NV r,iI 0]):=by
 go_enter Tryz.func31,Tryz.ntmps31
 go_upto_region 1 with fail
 obtain⟨v0,hC,HB0,K0⟩:=bx4 w (GE p q g h) 43 (LN s) 36 (LN t) 36 L0s 36
 rw[hC]
 clear hC
 refine Rf K0 HB0 [] [] (cG 0 9 [_,_,_,_,_] [(6,15,_),(7,8,_)]) [] [] [⟨5,14,some 6,N2 g h⟩] [] (Oc8 (g_ld 0 Tryz.underlying43 Z0) (g_fd (fdG2 _)) (g_lo 0 8 uN iN) (g_fd (fdG3 _)) (g_lo 0 12 uN iN) (g_bR 0 (N2 g h) [0,1] [NV g,NV h] (flN [g,h]) (bsN2 g h) (fun u hu=>inN2 g h u)) (g_c2 0 (N2 g h) Y4 (fun uZ yZ bZ hZ=>hM.out uZ yZ bZ hZ)) g_as) fun u1 v1_5 hv1_5 HB1 _ K1=>?_
 simp only[sQ] at K1⊢
 go_upto_region 2 with fail
 refine Rn K1 HB1 [(0,16,_),(1,17,_)] (Oc2 g_mv (g_bn (neq_noG _ _))) fun u2 HB2 _ K2=>?_
 simp only[sQ] at K2⊢
 go_upto_region 4 with fail
 refine Re K2 HB2 [.no,.no,.no,.all 13 (LN r)] [] (cG 0 21 [_,_,_,_,_,_,_,_,_,_,_] [(12,33,_),(14,7,_)]) [] [] [⟨11,32,some 12,N2 a b⟩] [false,false,false] (Od8 (g_ld 0 Tryz.underlying43 Z0) (g_ld 0 Tryz.underlying43 Z0) (g_fd (fdG2 _)) (g_lo 0 8 uN iN) (g_ld 1 uN iN) (g_cb Wn hP.out) (g_ld 0 Tryz.underlying43 Z0) (g_fd (fdG3 _))<|Oc7 (g_lo 0 12 uN iN) (g_ld 2 uN iN) (g_cb Wn hQ.out) (g_bR 0 (N2 a b) [0,1] [NV a,NV b] (flN [a,b]) (bsN2 a b) (fun u hu=>inN2 a b u)) (g_c2 0 (N2 a b) Vc (fun uZ yZ bZ hZ=>hR.out uZ yZ bZ hZ)) (g_st 3 iN) g_as) fun u3 v3_11 hv3_11 HB3 _ K3=>?_
 simp only[sQ] at K3⊢
 have c6:=(K3.cv 0).n4
 go_wp2
 refine bodyPost_ret (v:= .tuple #[NV r,iI 0]) (by simp[results,Tryz.results31,go_sem,c6]) rfl ⟨rfl,HB3⟩
theorem ml_1(p q x:Int):mlB p q [x]=isB p q x:=by
 unfold mlB isB
 rw[Bool.eq_iff_iff]
 simp[isB]
theorem ml_2(p q x y:Int):mlB p q [x,y]=(isB p q x&&isB p q y):=by
 unfold mlB isB
 rw[Bool.eq_iff_iff]
 simp[isB]
 grind
theorem In_1s{x:Int}(hx:In x): ∀k,k<[x].length->In ([x].getD k 0):=fun k hk=>by
 simp at hk;subst hk;exact hx
theorem In_2s{x y:Int}(hx:In x)(hy:In y): ∀k,k<[x,y].length->In ([x,y].getD k 0):=fun k hk=>by
 simp at hk
 match k,hk with
 | 0,_=>exact hx
 | 1,_=>exact hy
theorem cExpG(p q g h x e:Int)(w:World)(hG:GT w)(hp:In p)(hq:In q)(hx:In x)(he:In e):CC 57 #[GX p q g h,NV x,NV e] w (.tuple #[NV (exPX p q x e),iI (exPE p q x)]):=by
 obtain⟨v,hv,hM⟩:=cMembers p q g h [x] (by simp) hp hq (In_1s hx)
 rw[ml_1] at hv
 unfold exPX exPE
 rcases hv with⟨h1,rfl⟩ | ⟨h1,h2⟩
 ·have h3:=(Vj h1).1.q3
  have h7:=(Vj h1).1.2
  rw[h1,if_pos rfl,if_pos rfl];exact exp_k p q g h x e _ w (fun u y hB hy=>hM y u (hG.below hB) hy) (fun u _=>cPower p q g h x e u hp hq hx he (by omega) (by omega))
 ·obtain⟨T,xv,rfl⟩:=h2.some
  rw[h1,if_neg (by decide),if_neg (by decide),NV_0];exact exp_n p q g h x e T xv w (fun u y hB hy=>hM y u (hG.below hB) hy) (fun u _=>gTold9 _ u h2)
theorem cMulG(p q g h:Int)(ns:List Int)(y:Value)(w:World)(hG:GT w)(hns:ns.length<=50)(hp:In p)(hq:In q)(hn: ∀k,k<ns.length->In (ns.getD k 0))(hy:NL w y ns):CC 48 #[GX p q g h,y] w (.tuple #[NV (mlX p q ns),iI (mlE p q ns)]):=by
 obtain⟨v,hv,hM⟩:=cMembers p q g h ns hns hp hq hn
 have hyu:=fun u (hB:Bw w u)=>hy.up hB
 obtain⟨sl,gb,go,cap,rfl,_⟩:=hy
 unfold mlX mlE
 rcases hv with⟨h1,rfl⟩ | ⟨h1,h2⟩
 ·have hgk:gOk p q:=by
   unfold mlB at h1;rw[Bool.and_eq_true] at h1;exact of_decide_eq_true h1.1
  have h7:=hgk.2
  rw[h1,if_pos rfl,if_pos rfl];exact mulG_k p q g h _ sl _ cap w (fun u hB=>hM _ u (hG.below hB) (hyu u hB)) (fun u hB=>cProduct p q g h ns _ u hns hp (by omega) hn (hyu u hB))
 ·obtain⟨T,xv,rfl⟩:=h2.some
  rw[h1,if_neg (by decide),if_neg (by decide),NV_0];exact mulG_n p q g h sl _ cap T xv w (fun u hB=>hM _ u (hG.below hB) (hyu u hB)) (fun u _=>gTold9 _ u h2)
theorem cComG(p q g h s t:Int)(w:World)(hG:GT w)(hp:In p)(hq:In q)(hg:In g)(hh:In h)(hs:In s)(ht:In t):CC 31 #[GX p q g h,NV s,NV t] w (.tuple #[NV (coX p q g h s t),iI (coE p q g h)]):=by
 obtain⟨v,hv,hM⟩:=cMembers p q g h [g,h] (by simp) hp hq (In_2s hg hh)
 rw[ml_2] at hv
 unfold coX coE
 rcases hv with⟨h1,rfl⟩ | ⟨h1,h2⟩
 ·have hgk:gOk p q:=by rw[Bool.and_eq_true] at h1;exact(Vj h1.1).1
  have h3:=hgk.q3
  have h7:=hgk.2
  rw[h1,if_pos rfl,if_pos rfl]
  refine com_k p q g h s t _ _ _ w (fun u y hB hy=>hM y u (hG.below hB) hy) (fun u _=>cPower p q g h g s u hp hq hg hs (by omega) (by omega)) (fun u _=>cPower p q g h h t u hp hq hh ht (by omega) (by omega)) (fun u y hB hy=>?_)
  have:=cProduct p q g h _ y u (by simp) hp (by omega) (In_2s (Zg hp (by omega)) (Zg hp (by omega))) hy
  have e: ∀a b:Int,prN p [a,b]=a*b%p:=fun a b=>by
   show gat (fun a b=>(a*b)%p) (1%p) [a,b] 2=_
   rw[gat,gat,gat]
   simp only[List.getD_cons_zero,List.getD_cons_succ]
   rw[one_mod (by omega),Int.one_mul,Int.mul_emod,Int.emod_emod,<-Int.mul_emod]
  rw[e] at this
  exact this
 ·obtain⟨T,xv,rfl⟩:=h2.some
  rw[h1,if_neg (by decide),if_neg (by decide),NV_0];exact com_n p q g h s t T xv w (fun u y hB hy=>hM y u (hG.below hB) hy) (fun u _=>gTold9 _ u h2)
end
end Go.Proofs.YtclafkfelkmigaaGreatDoor
