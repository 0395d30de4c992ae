import Derived.Test.YtclafkfelkmigaaGreatDoorLC5
namespace Go.Proofs.YtclafkfelkmigaaGreatDoor
set_option linter.unusedVariables false
set_option linter.unusedSimpArgs false
set_option maxRecDepth 100000
set_option maxHeartbeats 4000000
open Go.RowKit
theorem ent_V7:EnT 30:=fun _ _=>by kernel_rfl
theorem bdDq(d:Int)(s:Option Addr)(n c:Nat)(w:World):(Instr.build 29 [(0,iI d),(1,.slice s n c)].toArray).run Tryz.prog w= .ok (DX d (.slice s n c)) w:=by kernel_rfl
theorem vat_c(p q g h d nd c:Int)(sl:Option Addr)(cap:Nat)(ns:List Int)(w:World)(hc:(c !=0)=true)(hK:Hid (∀u,Bw w u->CC 55 #[GX p q g h,DX d (.slice sl ns.length cap)] u (iI c))):
 CC 30 #[GX p q g h,DX d (.slice sl ns.length cap),iI nd] w (.tuple #[A4 0 0 0 0,iI c]):=by
 go_enter Tryz.func30,Tryz.ntmps30
 go_upto_region 1 with fail
 obtain⟨v0,hC,HB0,K0⟩:=bx3 w (GE p q g h) 43 (DE d (.slice sl ns.length cap)) 29 L0s 36
 rw[hC]
 clear hC
 refine Rn K0 HB0 (cG 0 13 [_,_,_] [(3,8,_)]) (Oc4 (g_ld 0 Tryz.underlying43 Z0) (g_ld 1 Tryz.underlying29 Z7) (g_cb Wk hK.out) g_as) fun u1 HB1 _ K1=>?_
 simp only[sQ] at K1⊢
 go_upto_region 2 with fail
 refine Rn K1 HB1 [(0,17,_),(1,18,_),(2,16,_)] (Oc3 g_mv (g_bn (fun uZ=>Ys _ _ _ c 0 _ uZ hc)) g_as) fun u2 HB2 _ K2=>?_
 simp only[sQ] at K2⊢
 go_upto_region 3 with fail
 refine Rp K2 HB2 [.no,.no,.all 2 ([iU (0),iU (0),iU (0),iU (0)])] [] [(0,19,_),(1,20,_),(3,7,_)] [] [] [] (Oc4 (g_bd zN) g_mv (g_st 2 iN) g_as) fun u3 HB3 _ K3=>?_
 simp only[sQ] at K3⊢
 have c6:=(K3.cv 2).n4
 go_wp2
 refine bodyPost_ret (v:= .tuple #[A4 0 0 0 0,iI c]) (by simp[results,Tryz.results30,go_sem,c6]) rfl ⟨rfl,HB3⟩
theorem vat_n(p q g h d nd:Int)(sl:Option Addr)(cap:Nat)(ns:List Int)(w:World)(hK:Hid (∀u,Bw w u->CC 55 #[GX p q g h,DX d (.slice sl ns.length cap)] u (iI 0)))(hN:Hid (∀u,CC 56 #[iI nd] u (.bool false))):
 CC 30 #[GX p q g h,DX d (.slice sl ns.length cap),iI nd] w (.tuple #[A4 0 0 0 0,iI 2]):=by
 go_enter Tryz.func30,Tryz.ntmps30
 go_upto_region 1 with fail
 obtain⟨v0,hC,HB0,K0⟩:=bx3 w (GE p q g h) 43 (DE d (.slice sl ns.length cap)) 29 L0s 36
 rw[hC]
 clear hC
 refine Rn K0 HB0 (cG 0 13 [_,_,_] [(3,8,_)]) (Oc4 (g_ld 0 Tryz.underlying43 Z0) (g_ld 1 Tryz.underlying29 Z7) (g_cb Wk hK.out) g_as) fun u1 HB1 _ K1=>?_
 simp only[sQ] at K1⊢
 go_upto_region 2 with fail
 refine Rn K1 HB1 [(0,17,_),(1,18,_),(2,16,_)] (Oc3 g_mv (g_bn (fun uZ=>Ys _ _ _ 0 0 _ uZ rfl)) g_as) fun u2 HB2 _ K2=>?_
 simp only[sQ] at K2⊢
 go_upto_region 4 with fail
 refine Rn K2 HB2 (cG 0 22 [_,_,_] [(3,21,_)]) (Oc4 g_mv (g_cl X7 hN.out) (g_un not_f) g_as) fun u3 HB3 _ K3=>?_
 simp only[sQ] at K3⊢
 go_upto_region 5 with fail
 refine Rp K3 HB3 [.no,.no,.all 1 ([iU (0),iU (0),iU (0),iU (0)])] [] [(0,25,_),(2,7,_)] [] [] [] (Oc3 (g_bd zN) (g_st 2 iN) g_as) fun u4 HB4 _ K4=>?_
 simp only[sQ] at K4⊢
 have c6:=(K4.cv 2).n4
 go_wp2
 refine bodyPost_ret (v:= .tuple #[A4 0 0 0 0,iI 2]) (by simp[results,Tryz.results30,go_sem,c6]) rfl ⟨rfl,HB4⟩
theorem vat_k(p q g h d nd r:Int)(sl:Option Addr)(gb go cap:Nat)(ns rs:List Int)(w:World)(hK:Hid (∀u,Bw w u->CC 55 #[GX p q g h,DX d (.slice sl ns.length cap)] u (iI 0)))(hN:Hid (∀u,CC 56 #[iI nd] u (.bool true)))(hix:Hid (∀j,j<ns.length-> ∀W,(Instr.indexAt 27 (.slice sl ns.length cap) (iI j)).run Tryz.prog W= .ok (.pointer (some ⟨gb,go+4*j,none⟩)) W))(hg:ns.length=0\/gb<w.heap.size)(hS:Hid (SN w gb go ns))(hn:Hid (∀k,k<ns.length->In (ns.getD k 0)))(hns:ns.length<=1000)(h6:ns.length<=6)(hrl:Hid (rs.length=ns.length))(hbd:Hid (∀k,k<=6->0<=nd^k/\nd^k<=16777216))(hEx:Hid (∀k,k<ns.length-> ∀u,Bw w u->CC 57 #[GX p q g h,NV (ns.getD k 0),NV (nd^k)] u (.tuple #[NV (rs.getD k 0),iI 0])))(hMu:Hid (∀(u:World) b,Bw w u->b<u.heap.size->CV u b (flN rs)->CC 48 #[GX p q g h,.slice (some ⟨b,0,none⟩) ns.length ns.length] u (.tuple #[NV r,iI 0]))):
 CC 30 #[GX p q g h,DX d (.slice sl ns.length cap),iI nd] w (.tuple #[NV r,iI 0]):=by
 go_enter Tryz.func30,Tryz.ntmps30
 go_upto_region 1 with fail
 obtain⟨v0,hC,HB0,K0⟩:=bx3 w (GE p q g h) 43 (DE d (.slice sl ns.length cap)) 29 L0s 36
 rw[hC]
 clear hC
 refine Rn K0 HB0 (cG 0 13 [_,_,_] [(3,8,_)]) (Oc4 (g_ld 0 Tryz.underlying43 Z0) (g_ld 1 Tryz.underlying29 Z7) (g_cb Wk hK.out) g_as) fun u1 HB1 _ K1=>?_
 simp only[sQ] at K1⊢
 go_upto_region 2 with fail
 refine Rn K1 HB1 [(0,17,_),(1,18,_),(2,16,_)] (Oc3 g_mv (g_bn (fun uZ=>Ys _ _ _ 0 0 _ uZ rfl)) g_as) fun u2 HB2 _ K2=>?_
 simp only[sQ] at K2⊢
 go_upto_region 4 with fail
 refine Rn K2 HB2 (cG 0 22 [_,_,_] [(3,21,_)]) (Oc4 g_mv (g_cl X7 hN.out) (g_un W1) g_as) fun u3 HB3 _ K3=>?_
 simp only[sQ] at K3⊢
 have hw0:w.heap.size<=u3.heap.size:=HB3.size
 go_upto_region 6 with fail
 refine Rf K3 HB3 [] [] (cG 0 26 [_,_,_] []) [] [] [⟨3,29,some 4,PRz u3.heap.size ns.length⟩,⟨4,9,none,PRz u3.heap.size ns.length⟩] [] (Oc5 (g_fd (fdD1 _)) (g_lc 1 1 lSN) (g_ln Tryz.underlying27) (g_mS 0 (PRz u3.heap.size ns.length) ns.length (flN (List.replicate ns.length 0)) (mkNt _ (by omega)) (fun u h=>PRz.new u h)) (g_sE 0 1 (PRz u3.heap.size ns.length))) fun u4 v4_3 hv4_3 v4_4 hv4_4 HB4 _ K4=>?_
 simp only[sQ] at K4⊢
 obtain⟨bo,rfl,o1,o2,o3⟩:=hv4_4 rfl
 have K4xo:=Bk.more3 K3 K4 o1 o2 o3 (by intro x hx;first | (simp at hx;done) | (simp at hx⊢;omega))
 simp only[aK] at K4xo
 have hbo:w.heap.size<=bo:=Nat.le_trans hw0 o1
 go_upto_region 7 with fail
 refine Rn K4xo HB4 [(0,10,_)] (Oc1 g_as) fun u5 HB5 _ K5=>?_
 simp only[sQ] at K5⊢
 go_upto_region 8 with fail
 refine Rn K5 HB5 (cG 0 30 [_,_,_,_] []) (Oc4 (g_fd (fdD1 _)) (g_lc 1 1 lSN) (g_ln Tryz.underlying27) g_mv) fun u6 HB6 _ K6=>?_
 simp only[sQ] at K6⊢
 go_wp2_with fail
 go_loopw [33,10] (fun s33 s10 wr=> ∃(k:Nat),k<=ns.length/\s33=iI (k:Int)/\s10=iI (nd^k)/\Bw w wr/\CV wr (w.heap.size) (GE p q g h)/\w.heap.size<wr.heap.size/\CV wr (w.heap.size+1) (DE d (.slice sl ns.length cap))/\w.heap.size+1<wr.heap.size/\CV wr (w.heap.size+1+1) (L0s)/\w.heap.size+1+1<wr.heap.size/\CV wr bo (flN (rowN rs k))/\bo<wr.heap.size) (fun s33 _ _=>ns.length -(intOf s33).toNat)
 case atStart=>exact⟨0,by omega,rfl,by rw[Int.pow_zero],HB6,(K6.cv 0),(K6.lt 0),(K6.cv 1),(K6.lt 1),(K6.cv 2),(K6.lt 2),by rw[rowN_0,hrl.out];exact(K6.cv 3),(K6.lt 3)⟩
 case round=>
  obtain⟨k,hk,rfl,rfl,HBr,C0,lC0,C1,lC1,C2,lC2,C3,lC3⟩:=hrel
  have hnK:=K6.n
  simp at hnK
  by_cases hj:k<ns.length
  ·have hl:decide ((k:Int)<(ns.length:Int))=true:=by simp;omega
   have hkx:k<rs.length:=by rw[hrl.out];exact hj
   have hX:=hix.out _ hj
   have hX:Hid _:=hX
   have hR:=hS.out.at _ hj
   have hR:Hid _:=hR
   have hg':=hg.resolve_left (by omega)
   have hE:=hEx.out k hj
   have hb0:=hbd.out k (by omega)
   have hb1:=hbd.out (k+1) (by omega)
   have hs:Hid (nd^k*nd=nd^(k+1)):=(Int.pow_succ nd k).symm
   obtain⟨z,ez⟩: ∃z,nd^(k+1)=z:=⟨_,rfl⟩
   have ez':Hid (nd^(k+1)=z):=ez
   rw[ez] at hb1 hs
   clear ez
   obtain⟨e,ee⟩: ∃e,nd^k=e:=⟨_,rfl⟩
   rw[ee] at hb0 hs hE
   obtain⟨x,ex⟩: ∃x,ns.getD k 0=x:=⟨_,rfl⟩
   rw[ex] at hR hE
   clear ex
   simp only[ee]
   have hXL:=U5 (vs:=rs) (k:=k) (by omega)
   have hNx:=W5 (vs:=rs) (k:=k) (by omega)
   rw[Xi (vs:=rs) (k:=k) (by omega)] at C3
   obtain⟨X,eX⟩: ∃X,flN (List.take k rs)=X:=⟨_,rfl⟩
   obtain⟨Z,eZ⟩: ∃Z,flN (List.replicate (List.length rs -(k+1)) 0)=Z:=⟨_,rfl⟩
   rw[eX] at hXL hNx C3
   rw[eZ] at hNx C3
   clear eX eZ
   obtain⟨y,ey⟩: ∃y,rs.getD k 0=y:=⟨_,rfl⟩
   rw[ey] at hE hNx
   clear ey hkx
   have hXL:Hid _:=hXL
   have hNx:Hid _:=hNx
   have hE:Hid _:=hE
   have K6_1:Bk w.heap.size wr [(false,w.heap.size,GE p q g h),(false,w.heap.size+1,DE d (.slice sl ns.length cap)),(true,w.heap.size+1+1,L0s),(true,bo,X++LN 0++Z)]:=⟨.c lC0 C0<| .c lC1 C1<| .o lC2 (K6.lo 2) C2<| .o lC3 (by omega) C3<|trivial,by simp<;>omega⟩
   go_upto_region 9 with fail
   refine Rn K6_1 HBr [(0,34,_)] (Oc1 (g_bn (fun uZ=>Z8 _ _ (k:Int) (ns.length:Int) _ uZ hl))) fun u7 HB7 sz7 K7=>?_
   simp only[sQ] at K7⊢
   go_upto_region 10 with fail
   refine Rp K7 HB7 [] [(3,12,L0s,some (5,LN x))] (cG 0 35 [_,_,_] [(4,11,_)]) [(5,3)] [] [] (Oc6 g_mv (g_ix hX.out) (g_lf hR.out hg' uN iN) (g_al 0 aN) g_as (g_sn 0 iN)) fun u8 b8_3 HB8 sz8 K8=>?_
   simp only[sQ] at K8⊢
   go_upto_region 11 with fail
   refine Rd K8 HB8 [.no,.no,.no,.all 11 (X++LN y++Z)] [] (cG 0 39 [_,_,_,_,_,_,_] [(7,38,_),(8,46,_),(9,47,_),(10,48,_)]) [] [] [] (Od8 g_mv g_mv (g_ld 0 Tryz.underlying43 Z0) (g_ld 4 uN iN) g_mv (g_cl ent_vss_number (fun uZ=>vNumber e uZ hb0.1 (by omega))) (g_cb ent_V5 hE.out) g_mv<|Oc4 g_ex g_ex (g_ix (ixZ _ _ _ k hj)) (g_sm 3 (4*k) X (LN 0) Z (post:=LN y) (hxc:=hXL.out) iN)) fun u9 HB9 _ K9=>?_
   simp only[sQ] at K9⊢
   go_upto_region 12 with fail
   refine Rp K9 HB9 [] [] (cG 0 49 [_,_,_] [(3,10,_)]) [(3,0)] [(3,10)] [] (Oc4 g_mv g_mv (g_bn (fun uZ=>mul_i _ _ e nd z uZ hs.out (by omega) (by omega))) g_as) fun u10 HB10 _ K10=>?_
   simp only[sQ] at K10⊢
   go_upto_region 13 with fail
   refine Rp K10 HB10 [] [] [(0,52,_),(1,33,_)] [(1,0)] [(1,33)] [] (Oc2 (g_bn (fun uZ=>Zl _ _ (k:Int) 1 ((k+1:Nat):Int) uZ (by omega) (by omega) (by omega))) g_mv) fun u11 HB11 _ K11=>?_
   simp only[sQ] at K11⊢
   go_wp2
   refine⟨⟨k+1,by omega,rfl,by rw[ez'.out],HB11,(K11.cv 0),(K11.lt 0),(K11.cv 1),(K11.lt 1),(K11.cv 2),(K11.lt 2),by rw[hNx.out];exact(K11.cv 3),(K11.lt 3)⟩,?_⟩
   simp[intOf]<;>omega
  ·have hl:decide ((k:Int)<(ns.length:Int))=false:=by simp;omega
   have hkn:k=rs.length:=by rw[hrl.out];omega
   rw[hkn,U6] at C3
   clear hkn
   have K6_1:Bk w.heap.size wr [(false,w.heap.size,GE p q g h),(false,w.heap.size+1,DE d (.slice sl ns.length cap)),(true,w.heap.size+1+1,L0s),(true,bo,flN rs)]:=⟨.c lC0 C0<| .c lC1 C1<| .o lC2 (K6.lo 2) C2<| .o lC3 (by omega) C3<|trivial,by simp<;>omega⟩
   go_upto_region 9 with fail
   refine Rn K6_1 HBr [(0,34,_)] (Oc1 (g_bn (fun uZ=>Z8 _ _ (k:Int) (ns.length:Int) _ uZ hl))) fun u7 HB7 sz7 K7=>?_
   simp only[sQ] at K7⊢
   go_upto_region 14 with fail
   refine Rp K7 HB7 [.no,.no,.all 5 (LN r)] [] (cG 0 53 [_,_,_,_,_] [(6,7,_)]) [] [] [] (Oc7 (g_ld 0 Tryz.underlying43 Z0) g_mv (g_cK ent_V2 (fun fZ uZ kZ sZ bZ=>hMu.out uZ bo bZ (kZ.lb sZ 3) (kZ.cv 3))) g_ex g_ex (g_st 2 iN) g_as) fun u8 HB8 sz8 K8=>?_
   simp only[sQ] at K8⊢
   have c6:=(K8.cv 2).n4
   go_wp2
   refine bodyPost_ret (v:= .tuple #[NV r,iI 0]) (by simp[results,Tryz.results30,go_sem,c6]) rfl ⟨rfl,HB8⟩
theorem pwN_is{q nd:Int}(hq:2<=q): ∀k,pwN q nd k=nd^k%q
 | 0=>by rw[pwN,Int.pow_zero];exact(Int.emod_eq_of_lt (by omega) (by omega)).symm
 | k+1=>by rw[pwN,pwN_is hq k,Int.pow_succ,Int.mul_emod,Int.emod_emod,<-Int.mul_emod]
theorem nd_pow{nd:Int}(h1:1<=nd)(h2:nd<=16)(k:Nat)(hk:k<=6):0<=nd^k/\nd^k<=16777216:=by
 have: ∀k:Nat,1<=nd^k/\nd^k<=16^k:=fun k=>by
  induction k with
  | zero=>simp
  | succ k ih=>
   rw[Int.pow_succ,Int.pow_succ]
   refine⟨?_,Int.mul_le_mul ih.2 h2 (by omega) (by omega)⟩
   have:=Int.mul_le_mul ih.1 h1 (by omega) (by omega)
   omega
 have:=this k
 match k,hk with
 | 0,_=>omega
 | 1,_=>omega
 | 2,_=>omega
 | 3,_=>omega
 | 4,_=>omega
 | 5,_=>omega
 | 6,_=>omega
def raS(p q nd:Int)(ns:List Int):List Int:=tab ns.length fun k=>ns.getD k 0^(nd^k%q).toNat%p
theorem Um(p q nd:Int)(ns:List Int):(raS p q nd ns).length=ns.length:=We _ _
theorem raS_gat{p q nd:Int}{ns:List Int}(hp:2<=p)(hq:2<=q): ∀k,k<=ns.length->gat (fun a b=>(a*b)%p) (1%p) (raS p q nd ns) k=atO p q nd ns k
 | 0,_=>by rw[gat,atO];exact Int.emod_eq_of_lt (by omega) (by omega)
 | k+1,h=>by
  rw[gat,atO,raS_gat hp hq k (by omega),pwN_is hq]
  simp only[raS]
  rw[Yt (by omega)]
theorem raS_all{p q nd:Int}{ns:List Int}(hg:gOk p q)(h:ns.all (isB p q)=true):mlB p q (raS p q nd ns)=true:=by
 unfold mlB
 rw[decide_eq_true hg,Bool.true_and]
 refine all_get.2 fun k hk=>?_
 rw[Um] at hk
 rw[raS,Yt hk]
 exact decide_eq_true ⟨hg,(Vj (all_get.1 h k hk)).2.pow hg _⟩
theorem vAt(p q g h d nd:Int)(ns:List Int)(v:Value)(w:World)(hG:GT w)(hp:In p)(hq:In q)(hv:NL w v ns)(hns: ∀z∈ns,In z)(hl:ns.length<=7):CC 30 #[GX p q g h,DX d v,iI nd] w (.tuple #[NV (atX p q d nd ns),iI (atE p q d nd ns)]):=by
 have a':=hv
 obtain⟨sl,gb,go,cap,rfl,h2,h3,h4,h5,h6⟩:=hv
 have hK:=fun u (hB:Bw w u)=>vCheck p q g h d ns _ u (hG.below hB) hp hq (a'.up hB) hns (by omega)
 have hN:=fun u=>vNode nd u
 by_cases c:dcE p q d ns=0
 ·rw[c] at hK
  obtain⟨c1,c2,c3,c4,c5⟩:=dcE_0 c
  have hq3:=c1.q3
  have hp7:=c1.2
  by_cases c6:ndB nd=true
  ·rw[show decide (1<=nd/\nd<=16)=true from c6] at hN
   have hb:=ndB_iff.1 c6
   have e0:atE p q d nd ns=0:=by simp[atE,c,c6]
   rw[atX,if_pos e0,e0,<-raS_gat (nd:=nd) (ns:=ns) (by omega) (show (2:Int)<=q by omega) _ (Nat.le_refl _)]
   refine vat_k p q g h d nd _ sl gb go cap ns (raS p q nd ns) w hK hN (NL.ix (u:=w) h4) h5 h6 (Ye hns) (by omega) c4 (Um _ _ _ _) (nd_pow hb.1 hb.2) (fun k hk u hB=>?_) (fun u b hB hl2 hc=>?_)
   ·have hk2:=all_get.1 c5 k hk
    have hE:=cExpG p q g h (ns.getD k 0) (nd^k) u (hG.below hB) hp hq (Ye hns k hk) (by have:=nd_pow hb.1 hb.2 k (by omega);exact⟨by omega,by omega⟩)
    rw[exPX,exPE,hk2,if_pos rfl,if_pos rfl] at hE
    rw[raS,Yt hk]
    exact hE
   ·have hi: ∀k,k<(raS p q nd ns).length->In ((raS p q nd ns).getD k 0):=fun k hk=>by
     rw[Um] at hk;rw[raS,Yt hk];exact Zg hp (by omega)
    have hM:=cMulG p q g h (raS p q nd ns) (.slice (some ⟨b,0,none⟩) ns.length ns.length) u (hG.below hB) (by rw[Um];omega) hp hq hi ((PRw.nl (lo:=0) ⟨b,by rw[Um],Nat.zero_le _,hl2,hc⟩))
    rw[mlX,mlE,raS_all c1 c5,if_pos rfl,if_pos rfl,Um] at hM
    exact hM
  ·rw[Bool.not_eq_true] at c6
   rw[show decide (1<=nd/\nd<=16)=false from c6] at hN
   have e0:atE p q d nd ns=2:=by simp[atE,c,c6]
   rw[atX,e0,if_neg (by omega),NV_0]
   exact vat_n p q g h d nd sl cap ns w hK hN
 ·have e0:atE p q d nd ns=dcE p q d ns:=by simp[atE,c]
  rw[atX,e0,if_neg c,NV_0]
  exact vat_c p q g h d nd _ sl cap ns w (by simp[c]) hK
theorem vver(p q g h d nd s t a b c ev re:Int)(sl:Option Addr)(cap n:Nat)(w:World)(hR:Hid (re=if ev !=0 then ev else if c !=0 then c else if decide (b=a) then 0 else 100))(ia:In a)(ib:In b)(hA:Hid (∀u,Bw w u->CC 30 #[GX p q g h,DX d (.slice sl n cap),iI nd] u (.tuple #[NV a,iI ev])))(hM:Hid (∀u,Bw w u->CC 31 #[GX p q g h,NV s,NV t] u (.tuple #[NV b,iI c]))):
 CC 11 #[GX p q g h,DX d (.slice sl n cap),SX nd s t] w (iI re):=by
 go_enter Tryz.func11,Tryz.ntmps11
 go_upto_region 1 with fail
 obtain⟨v0,hC,HB0,K0⟩:=bx3 w (GE p q g h) 43 (DE d (.slice sl n cap)) 29 (SE nd s t) 38
 rw[hC]
 clear hC
 refine Rp K0 HB0 [] [(8,7,L0s,some (9,LN a))] (cG 0 12 [_,_,_,_,_] [(5,11,_),(6,17,_),(7,18,_),(10,8,_)]) [(9,8)] [] [] (Od8 (g_ld 0 Tryz.underlying43 Z0) (g_ld 1 Tryz.underlying29 Z7) (g_fd (fdS0 _)) (g_lc 2 0 lI) (g_cb ent_V7 hA.out) g_mv g_ex g_ex<|Oc3 (g_al 0 aN) (g_sn 0 iN) g_as) fun u1 b1_8 HB1 _ K1=>?_
 simp only[sQ] at K1⊢
 cases he:(ev !=0)
 ·skip
  go_upto_region 2 with fail
  refine Rn K1 HB1 [(0,19,_),(1,20,_)] (Oc2 g_mv (g_bn (fun uZ=>Ys _ _ _ ev 0 _ uZ he))) fun u2 HB2 sz2 K2=>?_
  simp only[sQ] at K2⊢
  go_upto_region 4 with fail
  refine Rp K2 HB2 [] [(9,9,L0s,some (10,LN b))] (cG 0 23 [_,_,_,_,_,_] [(6,22,_),(7,29,_),(8,30,_),(11,10,_)]) [(10,9)] [] [] (Od8 (g_ld 0 Tryz.underlying43 Z0) (g_fd (fdS1 _)) (g_lo 2 1 uN iN) (g_fd (fdS2 _)) (g_lo 2 5 uN iN) (g_cb ent_V4 hM.out) g_mv g_ex<|Oc4 g_ex (g_al 0 aN) (g_sn 0 iN) g_as) fun u3 b3_9 HB3 sz3 K3=>?_
  simp only[sQ] at K3⊢
  cases hc:(c !=0)
  ·skip
   go_upto_region 5 with fail
   refine Rn K3 HB3 [(0,32,_),(1,33,_),(2,31,_)] (Oc3 g_mv (g_bn (fun uZ=>Ys _ _ _ c 0 _ uZ hc)) g_as) fun u4 HB4 sz4 K4=>?_
   simp only[sQ] at K4⊢
   cases hx:decide (b=a)
   ·skip
    go_upto_region 7 with fail
    refine Rn K4 HB4 (cG 0 36 [_,_,_] [(3,35,_)]) (Oc4 (g_ld 4 uN iN) (g_ld 3 uN iN) (g_bn (fun uZ=>Tb _ _ ib ia true (by rw[hx];rfl) uZ)) g_as) fun u5 HB5 sz5 K5=>?_
    simp only[sQ] at K5⊢
    go_upto_region 8 with fail
    refine Rn K5 HB5 [(0,6,_)] (Oc1 g_as) fun u6 HB6 sz6 K6=>?_
    simp only[sQ] at K6⊢
    go_wp2
    refine bodyPost_ret (v:=iI 100) (by simp[results,Tryz.results11,go_sem,]) rfl ⟨by rw[hR.out,he,hc,hx];rfl,HB6⟩
   ·skip
    go_upto_region 7 with fail
    refine Rn K4 HB4 (cG 0 36 [_,_,_] [(3,35,_)]) (Oc4 (g_ld 4 uN iN) (g_ld 3 uN iN) (g_bn (fun uZ=>Tb _ _ ib ia false (by rw[hx];rfl) uZ)) g_as) fun u5 HB5 sz5 K5=>?_
    simp only[sQ] at K5⊢
    go_upto_region 9 with fail
    refine Rn K5 HB5 [(0,6,_)] (Oc1 g_as) fun u6 HB6 sz6 K6=>?_
    simp only[sQ] at K6⊢
    go_wp2
    refine bodyPost_ret (v:=iI 0) (by simp[results,Tryz.results11,go_sem,]) rfl ⟨by rw[hR.out,he,hc,hx];rfl,HB6⟩
  ·skip
   go_upto_region 5 with fail
   refine Rn K3 HB3 [(0,32,_),(1,33,_),(2,31,_)] (Oc3 g_mv (g_bn (fun uZ=>Ys _ _ _ c 0 _ uZ hc)) g_as) fun u4 HB4 sz4 K4=>?_
   simp only[sQ] at K4⊢
   go_upto_region 6 with fail
   refine Rn K4 HB4 [(0,34,_),(1,6,_)] (Oc2 g_mv g_as) fun u5 HB5 sz5 K5=>?_
   simp only[sQ] at K5⊢
   go_wp2
   refine bodyPost_ret (v:=iI c) (by simp[results,Tryz.results11,go_sem,]) rfl ⟨by rw[hR.out,he,hc];rfl,HB5⟩
 ·skip
  go_upto_region 2 with fail
  refine Rn K1 HB1 [(0,19,_),(1,20,_)] (Oc2 g_mv (g_bn (fun uZ=>Ys _ _ _ ev 0 _ uZ he))) fun u2 HB2 sz2 K2=>?_
  simp only[sQ] at K2⊢
  go_upto_region 3 with fail
  refine Rn K2 HB2 [(0,21,_),(1,6,_)] (Oc2 g_mv g_as) fun u3 HB3 sz3 K3=>?_
  simp only[sQ] at K3⊢
  go_wp2
  refine bodyPost_ret (v:=iI ev) (by simp[results,Tryz.results11,go_sem,]) rfl ⟨by rw[hR.out,he];rfl,HB3⟩
theorem coX_In{p q g h s t:Int}(hp:In p):In (coX p q g h s t):=by
 unfold coX;split
 ·have c2:isB p q g=true:=by rename_i h1;simp only[Bool.and_eq_true] at h1;exact h1.1
  exact Zg hp (by have:=(Vj c2).1.2;omega)
 ·exact In_0
theorem atX_In'{p q d nd:Int}{ns:List Int}(hp:In p)(c:atE p q d nd ns=0):In (atX p q d nd ns):=by
 unfold atX;rw[if_pos c]
 have c3:dcE p q d ns=0:=by
  unfold atE at c
  by_cases h1:dcE p q d ns=0
  ·exact h1
  ·rw[if_neg h1] at c;exact c
 exact atO_In hp (by have:=(dcE_0 c3).1.2;omega) _
theorem vVerify(p q g h d nd s t:Int)(ns:List Int)(v:Value)(w:World)(hG:GT w)(hp:In p)(hq:In q)(hg:In g)(hh:In h)(hs:In s)(ht:In t)(hv:NL w v ns)(hns: ∀z∈ns,In z)(hl:ns.length<=7):CC 11 #[GX p q g h,DX d v,SX nd s t] w (iI (veE p q g h d nd s t ns)):=by
 have a':=hv
 obtain⟨sl,gb,go,cap,rfl,_⟩:=hv
 have hA:=fun u (hB:Bw w u)=>vAt p q g h d nd ns _ u (hG.below hB) hp hq (a'.up hB) hns hl
 have hM:=fun u (hB:Bw w u)=>cComG p q g h s t u (hG.below hB) hp hq hg hh hs ht
 have ic:=coX_In (q:=q) (g:=g) (h:=h) (s:=s) (t:=t) hp
 have ia:In (atX p q d nd ns):=by
  by_cases c:atE p q d nd ns=0
  ·exact atX_In' hp c
  ·rw[atX,if_neg c];exact In_0
 refine vver p q g h d nd s t _ _ _ _ _ sl cap _ w ?_ ia ic hA hM
 show _=_
 unfold veE
 by_cases c:atE p q d nd ns=0
 ·by_cases c1:coE p q g h=0
  ·simp[c,c1]
  ·have e9:coE p q g h=90:=by unfold coE at c1⊢;split at c1<;>simp_all
   simp[c,e9]
 ·simp[c]
end Go.Proofs.YtclafkfelkmigaaGreatDoor
