import Derived.Test.YtmoimodkopjeeaaGreatDoorAP1
namespace Go.Proofs.YtmoimodkopjeeaaGreatDoor
set_option linter.unusedVariables false
set_option linter.unusedSimpArgs false
set_option maxRecDepth 100000
set_option maxHeartbeats 4000000
open Go.RowKit
def ahN(q t:Int)(ns:List Int):Nat->Int
 | 0=>1
 | i+1=>(ahN q t ns i*((t -ns.getD i 0)%q))%q
def bhN(q t:Int)(ns:List Int):Nat->Int
 | 0=>1
 | i+1=>(bhN q t ns i*((t -ns.getD (ns.length -1 -i) 0)%q))%q
theorem ahN_In{q t:Int}{ns:List Int}(hq:In q)(hq0:q≠0): ∀i,In (ahN q t ns i)
 | 0=>In_1
 | i+1=>Zi hq hq0
theorem bhN_In{q t:Int}{ns:List Int}(hq:In q)(hq0:q≠0): ∀i,In (bhN q t ns i)
 | 0=>In_1
 | i+1=>Zi hq hq0
theorem Ui:EnT 106:=fun _ _=>by kernel_rfl
theorem Wh:EnT 107:=fun _ _=>by kernel_rfl
theorem baseOf_core(q:Int)(sl:Option Addr)(gb go cap:Nat)(ns vs:List Int)(w:World)(hq:In q)(hq0:q≠0)(hvl:Hid (vs.length=ns.length))(hvs:Hid (∀i,i<ns.length->IsInv (dsN q ns i ns.length%q) q (vs.getD i 0)))(hix:Hid (∀j,j<ns.length-> ∀W,(Instr.indexAt 27 (.slice sl ns.length cap) (iI j)).run Tryz.prog W= .ok (.pointer (some ⟨gb,go+4*j,none⟩)) W))(hg:ns.length=0\/gb<w.heap.size)(hS:Hid (SN w gb go ns))(hn:Hid (∀k,k<ns.length->In (ns.getD k 0)))(hns:ns.length<=1000):
 Calls Tryz.prog 77 #[NV q,.slice sl ns.length cap] w fun e' w'=> ∃vd,e'= .returned (.tuple #[BX q (.slice sl ns.length cap) vd,.nilIface])/\PRw w.heap.size vs w' vd/\Bw w w':=by
 have hmk:=mkNt ns.length hns
 go_enter Tryz.func77,Tryz.ntmps77
 go_wp2_with fail
 go_loopw [16] (fun s16 wr=> ∃(k:Nat),k<=ns.length/\s16=iI (k:Int)/\Bw w wr/\CV wr (w.heap.size) (LN q)/\w.heap.size<wr.heap.size/\CV wr (w.heap.size+1) (L0b)/\w.heap.size+1<wr.heap.size/\CV wr (w.heap.size+1+1) (flN (rowN vs k))/\w.heap.size+1+1<wr.heap.size) (fun s16 _=>ns.length -(intOf s16).toNat)
 case atStart=>exact⟨0,by omega,rfl,Z1 (Z1 (Z1 (Z5 w) _) _) _,((CV.new w (LN q) 24).below (Z1 (Z5 (w.alloc (.cells (LN q:List Value).toArray 24))) _) (by simp)).below (Z1 (Z5 ((w.alloc (.cells (LN q:List Value).toArray 24)).alloc (.cells (L0b:List Value).toArray 105))) _) (by simp<;>omega),by (simp<;>omega),(CV.newAt (w.alloc (.cells (LN q:List Value).toArray 24)) L0b 105 _ (by simp)).below (Z1 (Z5 ((w.alloc (.cells (LN q:List Value).toArray 24)).alloc (.cells (L0b:List Value).toArray 105))) _) (by simp<;>omega),by (simp<;>omega),by rw[rowN_0,hvl.out];exact CV.newAt ((w.alloc (.cells (LN q:List Value).toArray 24)).alloc (.cells (L0b:List Value).toArray 105)) _ _ _ (by simp),by (simp<;>omega)⟩
 case round=>
  obtain⟨k,hk,rfl,HBr,C0,lC0,C1,lC1,C2,lC2⟩:=hrel
  by_cases hj:k<ns.length
  ·have hl:decide ((k:Int)<(ns.length:Int))=true:=by simp;omega
   have hkx:k<vs.length:=by rw[hvl.out];exact hj
   have hX:=hix.out _ hj
   have hX:Hid _:=hX
   have hR:=hS.out.at _ hj
   have hR:Hid _:=hR
   have iz:In (dsN q ns k ns.length):=dsN_In hq hq0 _
   have hv:=hvs.out k hj
   have hgz:=inv_gcd hv (Int.emod_nonneg _ hq0) (by have:=hq.1;omega)
   have hD:Hid (∀u,Bw w u->CC 106 #[NV q,iI (k:Int),.slice sl ns.length cap] u (NV (dsN q ns k ns.length))):=fun u bZ=>Va q k sl gb go cap ns u hq hq0 hj hix (hg.imp id (fun h=>Nat.lt_of_lt_of_le h bZ.size)) (hS.out.below2 bZ hg) hn hns
   obtain⟨x,ex⟩: ∃x,ns.getD k 0=x:=⟨_,rfl⟩
   rw[ex] at hR
   clear ex
   obtain⟨z,ez⟩: ∃z,dsN q ns k ns.length=z:=⟨_,rfl⟩
   rw[ez] at iz hv hgz hD
   clear ez
   have hXL:=V4 (vs:=vs) (k:=k) (by omega)
   have hNx:=Xy (vs:=vs) (k:=k) (by omega)
   rw[Xd (vs:=vs) (k:=k) (by omega)] at C2
   obtain⟨X,eX⟩: ∃X,flN (List.take k vs)=X:=⟨_,rfl⟩
   obtain⟨Z,eZ⟩: ∃Z,flN (List.replicate (List.length vs -(k+1)) 0)=Z:=⟨_,rfl⟩
   rw[eX] at hXL hNx C2
   rw[eZ] at hNx C2
   clear eX eZ
   obtain⟨y,ey⟩: ∃y,vs.getD k 0=y:=⟨_,rfl⟩
   rw[ey] at hv hNx
   clear ey hkx
   have hXL:Hid _:=hXL
   have hNx:Hid _:=hNx
   have K0_1:Bk w.heap.size wr [(false,w.heap.size,LN q),(true,w.heap.size+1,L0b),(true,w.heap.size+1+1,X++LN 0++Z)]:=⟨.c lC0 C0<| .o lC1 (by omega) C1<| .o lC2 (by omega) C2<|trivial,by simp<;>omega⟩
   go_upto_region 3 with fail
   refine Rn K0_1 HBr [(0,17,_)] (oc (g_bn (fun uZ=>Z6 _ _ (k:Int) (ns.length:Int) _ uZ hl)) on) fun u1 HB1 sz1 K1=>?_
   simp only[sQ] at K1⊢
   go_upto_region 4 with fail
   refine Rp K1 HB1 [] [(3,8,L0s,some (5,LN x))] (cG 0 18 [_,_,_] [(4,7,_)]) [(5,3)] [] [true,true,true,false] (oc g_mv<|oc (g_ix hX.out)<|oc (g_lf hR.out (hg.resolve_left (by omega)) uN iN)<|oc (g_al 0 aN)<|oc g_as<|oc (g_sn 0 iN) on) fun u2 b2_3 HB2 sz2 K2=>?_
   simp only[sQ] at K2⊢
   go_upto_region 5 with fail
   refine Rd K2 HB2 [] [(9,9,L0s,some (10,LN y))] (cG 0 22 [_,_,_,_,_,_] [(6,21,_),(7,28,_),(8,29,_),(11,10,_)]) [(10,9)] [] [] (oc (g_ld 0 uN iN)<|oc g_mv<|oc g_mv<|oc (g_cb Ui hD.out)<|oc (g_ld 0 uN iN)<|oc (g_cl Wx (fun uZ=>mInverse z q y uZ iz hq hq0 hgz hv))<|oc g_mv<|oc g_ex<|oc g_ex<|oc (g_al 0 aN)<|oc (g_sn 0 iN)<|oc g_as on) fun u3 b3_9 HB3 _ K3=>?_
   simp only[sQ] at K3⊢
   go_upto_region 6 with fail
   refine Rn K3 HB3 [(0,30,_),(1,31,_)] (oc g_mv<|oc (g_bn (fun uZ=>Zw _ _ _ 0 0 _ uZ rfl)) on) fun u4 HB4 _ K4=>?_
   simp only[sQ] at K4⊢
   go_upto_region 8 with fail
   refine Rp K4 HB4 [.no,.no,.all 4 (X++LN y++Z)] [] (cG 0 41 [_,_,_,_] []) [] [] [true,true,true,false] (oc g_mv<|oc g_mv<|oc (g_ld 3 uN iN)<|oc (g_ix (ixZ _ _ _ k hj))<|oc (g_sm 2 (4*k) X (LN 0) Z (post:=LN y) (hxc:=hXL.out) iN) on) fun u5 HB5 _ K5=>?_
   simp only[sQ] at K5⊢
   go_upto_region 9 with fail
   refine Rp K5 HB5 [] [] [(0,45,_),(1,16,_)] [(1,0)] [(1,16)] [] (oc (g_bn (fun uZ=>Zm _ _ (k:Int) 1 ((k+1:Nat):Int) uZ (by omega) (by omega) (by omega)))<|oc g_mv on) fun u6 HB6 _ K6=>?_
   simp only[sQ] at K6⊢
   go_wp2
   refine⟨⟨k+1,by omega,rfl,HB6,(K6.cv 0),(K6.lt 0),(K6.cv 1),(K6.lt 1),by rw[hNx.out];exact(K6.cv 2),(K6.lt 2)⟩,?_⟩
   simp[intOf]<;>omega
  ·have hl:decide ((k:Int)<(ns.length:Int))=false:=by simp;omega
   have hkn:k=ns.length:=by omega
   have K0_1:Bk w.heap.size wr [(false,w.heap.size,LN q),(true,w.heap.size+1,L0b),(true,w.heap.size+1+1,flN (rowN vs k))]:=⟨.c lC0 C0<| .o lC1 (by omega) C1<| .o lC2 (by omega) C2<|trivial,by simp<;>omega⟩
   go_upto_region 3 with fail
   refine Rn K0_1 HBr [(0,17,_)] (oc (g_bn (fun uZ=>Z6 _ _ (k:Int) (ns.length:Int) _ uZ hl)) on) fun u1 HB1 sz1 K1=>?_
   simp only[sQ] at K1⊢
   go_upto_region 10 with fail
   refine Rp K1 HB1 [.no,.all 4 (BE q (.slice sl ns.length cap) (.slice (some ⟨w.heap.size+1+1,0,none⟩) ns.length ns.length))] [] (cG 0 46 [_,_,_,_] [(5,5,_)]) [] [] [] (oc (g_ld 0 uN iN)<|oc g_mv<|oc g_mv<|oc (g_bd (bdB q _ _ _ _ _ _))<|oc (g_st 1 Yw)<|oc g_as on) fun u2 HB2 sz2 K2=>?_
   simp only[sQ] at K2⊢
   have c0:=((K2.cv 1) 0 _ rfl).1
   have c1:=((K2.cv 1) 1 _ rfl).1
   have c2:=((K2.cv 1) 2 _ rfl).1
   have c3:=((K2.cv 1) 3 _ rfl).1
   have c4:=((K2.cv 1) 4 _ rfl).1
   have c5:=((K2.cv 1) 5 _ rfl).1
   go_wp2
   exact bodyPost_ret (v:= .tuple #[BX q (.slice sl ns.length cap) (.slice (some ⟨w.heap.size+1+1,0,none⟩) ns.length ns.length),.nilIface]) (by simp[results,Tryz.results77,go_sem,c0,c1,c2,c3,c4,c5]) rfl ⟨_,rfl,⟨w.heap.size+1+1,by rw[hvl.out],by omega,(K2.lt 2),by rw[<-Vw vs,hvl.out,<-hkn];exact(K2.cv 2)⟩,HB2⟩
def rowM(f g:List Int)(k:Nat):List Int:=f.take (f.length -k)++g.drop (f.length -k)
theorem rowM_0{f g:List Int}(h:g.length=f.length):rowM f g 0=f:=by simp[rowM,h]
theorem rowM_end{f g:List Int}(h:g.length=f.length):rowM f g f.length=g:=by simp[rowM]
theorem rowM_split{f g:List Int}{k i:Nat}(h:g.length=f.length)(hk:k<f.length)(hi:f.length -1 -k=i):flN (rowM f g k)=flN (f.take i)++LN (f.getD i 0)++flN (g.drop (i+1)):=by
 have e:f.length -k=i+1:=by omega
 rw[rowM,e,Wc,List.take_add_one,List.getElem?_eq_getElem (show i<f.length by omega),Wc]
 simp[flN,List.getElem?_eq_getElem (show i<f.length by omega)]
theorem rowM_next{f g:List Int}{k i:Nat}(h:g.length=f.length)(hk:k<f.length)(hi:f.length -1 -k=i):flN (rowM f g (k+1))=flN (f.take i)++LN (g.getD i 0)++flN (g.drop (i+1)):=by
 have e:f.length -(k+1)=i:=by omega
 have hig:i<g.length:=by omega
 rw[rowM,e,Wc,List.drop_eq_getElem_cons hig,flN]
 simp[List.getElem?_eq_getElem hig]
theorem factors_core(q t:Int)(sx sd:Option Addr)(gx ox cx gd od cd:Nat)(ns vs f1 f2:List Int)(w:World)(hq:In q)(hq0:q≠0)(ht:In t)(hix:Hid (∀j,j<ns.length-> ∀W,(Instr.indexAt 27 (.slice sx ns.length cx) (iI j)).run Tryz.prog W= .ok (.pointer (some ⟨gx,ox+4*j,none⟩)) W))(hg:ns.length=0\/gx<w.heap.size)(hS:Hid (SN w gx ox ns))(hn:Hid (∀k,k<ns.length->In (ns.getD k 0)))(hns:ns.length<=1000)(hixd:Hid (∀j,j<ns.length-> ∀W,(Instr.indexAt 27 (.slice sd ns.length cd) (iI j)).run Tryz.prog W= .ok (.pointer (some ⟨gd,od+4*j,none⟩)) W))(hgd:ns.length=0\/gd<w.heap.size)(hSd:Hid (SN w gd od vs))(hnd:Hid (∀k,k<ns.length->In (vs.getD k 0)))(hvl:Hid (vs.length=ns.length))(hf1l:Hid (f1.length=ns.length))(hf2l:Hid (f2.length=f1.length))(hf1:Hid (∀i,i<ns.length->f1.getD i 0=vs.getD i 0*ahN q t ns i%q))(hf2:Hid (∀i,i<ns.length->f2.getD i 0=f1.getD i 0*bhN q t ns (ns.length -1 -i)%q)):
 Calls Tryz.prog 107 #[BX q (.slice sx ns.length cx) (.slice sd ns.length cd),NV t] w fun e' w'=> ∃y,e'= .returned y/\PRw w.heap.size f2 w' y/\Bw w w':=by
 go_enter Tryz.func107,Tryz.ntmps107
 go_upto_region 1 with fail
 obtain⟨v0,hC,HB0,K0⟩:=bx2 w (BE q (.slice sx ns.length cx) (.slice sd ns.length cd)) 105 (LN t) 24
 rw[hC]
 clear hC
 have hv0:w.heap.size<=v0.heap.size:=HB0.size
 refine Rf K0 HB0 [] [] (cG 0 12 [_,_,_] []) [] [] [⟨3,15,some 4,PRz v0.heap.size ns.length⟩,⟨4,5,none,PRz v0.heap.size ns.length⟩] [] (oc (g_fd (fdB1 _))<|oc (g_lc 0 4 lSN)<|oc (g_ln Tryz.underlying27)<|oc (g_mS 0 (PRz v0.heap.size ns.length) ns.length (flN (List.replicate ns.length 0)) (mkNt _ hns) (fun u h=>PRz.new u h))<|oc (g_sE 0 1 (PRz v0.heap.size ns.length)) on) fun u1 v1_3 hv1_3 v1_4 hv1_4 HB1 _ K1=>?_
 simp only[sQ] at K1⊢
 obtain⟨bo,rfl,o1,o2,o3⟩:=hv1_4 rfl
 have K1xo:=Bk.more3 K0 K1 o1 o2 o3 (by intro x hx;first | (simp at hx;done) | (simp at hx⊢;omega))
 simp only[aK] at K1xo
 have hbo:w.heap.size<=bo:=Nat.le_trans hv0 o1
 go_upto_region 2 with fail
 refine Rp K1xo HB1 [] [(2,6,L0s,some (4,LN 1)),(3,7,L0s,some (5,LN 1))] [(0,16,_),(1,17,_)] [(4,2),(5,3)] [] [] (oc (g_cl Z7 (fun uZ=>nOf 1 uZ (by omega) (by omega)))<|oc (g_cl Z7 (fun uZ=>nOf 1 uZ (by omega) (by omega)))<|oc (g_al 0 aN)<|oc (g_al 1 aN)<|oc (g_sn 0 iN)<|oc (g_sn 1 iN) on) fun u2 b2_2 b2_3 HB2 _ K2=>?_
 simp only[sQ] at K2⊢
 go_upto_region 3 with fail
 refine Rn K2 HB2 (cG 0 18 [_,_,_,_] []) (oc (g_fd (fdB1 _))<|oc (g_lc 0 4 lSN)<|oc (g_ln Tryz.underlying27)<|oc g_mv on) fun u3 HB3 _ K3=>?_
 simp only[sQ] at K3⊢
 go_wp2_with fail
 go_loopw [21] (fun s21 wr=> ∃(k:Nat),k<=ns.length/\s21=iI (k:Int)/\Bw w wr/\CV wr (w.heap.size) (BE q (.slice sx ns.length cx) (.slice sd ns.length cd))/\w.heap.size<wr.heap.size/\CV wr (w.heap.size+1) (LN t)/\w.heap.size+1<wr.heap.size/\CV wr bo (flN (rowN f1 k))/\bo<wr.heap.size/\CV wr b2_2 (LN (ahN q t ns k))/\b2_2<wr.heap.size/\CV wr b2_3 (LN 1)/\b2_3<wr.heap.size) (fun s21 _=>ns.length -(intOf s21).toNat)
 case atStart=>exact⟨0,by omega,rfl,HB3,(K3.cv 0),(K3.lt 0),(K3.cv 1),(K3.lt 1),by rw[rowN_0,hf1l.out];exact(K3.cv 2),(K3.lt 2),(K3.cv 3),(K3.lt 3),(K3.cv 4),(K3.lt 4)⟩
 case round=>
  obtain⟨k,hk,rfl,HBr,C0,lC0,C1,lC1,C2,lC2,C3,lC3,C4,lC4⟩:=hrel
  have hnK:=K3.n
  simp at hnK
  have hoK3:=K3.lo 3
  have hoK4:=K3.lo 4
  by_cases hj:k<ns.length
  ·have hl:decide ((k:Int)<(ns.length:Int))=true:=by simp;omega
   have hkx:k<f1.length:=by rw[hf1l.out];exact hj
   have hX:=hix.out _ hj
   have hX:Hid _:=hX
   have hR:=hS.out.at _ hj
   have hR:Hid _:=hR
   have hXd:=hixd.out _ hj
   have hXd:Hid _:=hXd
   have hRd:=hSd.out.at k (by rw[hvl.out];exact hj)
   have hRd:Hid _:=hRd
   have ix:=hn.out k hj
   have iv:=hnd.out k hj
   have ia:=ahN_In (t:=t) (ns:=ns) hq hq0 k
   have hv:=hf1.out k hj
   have hA:Hid (ahN q t ns (k+1)=(ahN q t ns k*((t -ns.getD k 0)%q))%q):=rfl
   obtain⟨x,ex⟩: ∃x,ns.getD k 0=x:=⟨_,rfl⟩
   rw[ex] at hR ix hA
   clear ex
   obtain⟨v,ev⟩: ∃v,vs.getD k 0=v:=⟨_,rfl⟩
   rw[ev] at hRd iv hv
   clear ev
   obtain⟨a,ea⟩: ∃a,ahN q t ns k=a:=⟨_,rfl⟩
   rw[ea] at ia hv hA C3
   clear ea
   have hXL:=V4 (vs:=f1) (k:=k) (by omega)
   have hNx:=Xy (vs:=f1) (k:=k) (by omega)
   rw[Xd (vs:=f1) (k:=k) (by omega)] at C2
   obtain⟨X,eX⟩: ∃X,flN (List.take k f1)=X:=⟨_,rfl⟩
   obtain⟨Z,eZ⟩: ∃Z,flN (List.replicate (List.length f1 -(k+1)) 0)=Z:=⟨_,rfl⟩
   rw[eX] at hXL hNx C2
   rw[eZ] at hNx C2
   clear eX eZ
   rw[hv] at hNx
   clear hv hkx
   have hXL:Hid _:=hXL
   have hNx:Hid _:=hNx
   have K3_1:Bk w.heap.size wr [(false,w.heap.size,BE q (.slice sx ns.length cx) (.slice sd ns.length cd)),(false,w.heap.size+1,LN t),(true,bo,X++LN 0++Z),(true,b2_2,LN a),(true,b2_3,LN 1)]:=⟨.c lC0 C0<| .c lC1 C1<| .o lC2 (by omega) C2<| .o lC3 (K3.lo 3) C3<| .o lC4 (K3.lo 4) C4<|trivial,by simp<;>omega⟩
   go_upto_region 4 with fail
   refine Rn K3_1 HBr [(0,22,_)] (oc (g_bn (fun uZ=>Z6 _ _ (k:Int) (ns.length:Int) _ uZ hl)) on) fun u4 HB4 sz4 K4=>?_
   simp only[sQ] at K4⊢
   go_upto_region 5 with fail
   refine Rp K4 HB4 [] [(3,9,L0s,some (5,LN x))] (cG 0 23 [_,_,_] [(4,8,_)]) [(5,3)] [] [] (oc g_mv<|oc (g_ix hX.out)<|oc (g_lf hR.out (hg.resolve_left (by omega)) uN iN)<|oc (g_al 0 aN)<|oc g_as<|oc (g_sn 0 iN) on) fun u5 b5_3 HB5 sz5 K5=>?_
   simp only[sQ] at K5⊢
   go_upto_region 6 with fail
   refine Rd K5 HB5 [.no,.no,.all 12 (X++LN (v*a%q)++Z)] [] (cG 0 26 [_,_,_,_,_,_,_,_,_,_,_,_] []) [] [] [] (oc g_mv<|oc g_mv<|oc (g_fd (fdB0 _))<|oc (g_lo 0 0 uN iN)<|oc (g_fd (fdB2 _))<|oc (g_lc 0 5 lSN)<|oc g_mv<|oc (g_ix hXd.out)<|oc (g_lf hRd.out (hgd.resolve_left (by omega)) uN iN)<|oc (g_ld 3 uN iN)<|oc (g_cl Y8 (fun uZ=>pTimes q v a uZ iv ia hq hq0))<|oc (g_ix (ixZ _ _ _ k hj))<|oc (g_sm 2 (4*k) X (LN 0) Z (post:=LN (v*a%q)) (hxc:=hXL.out) iN) on) fun u6 HB6 sz6 K6=>?_
   simp only[sQ] at K6⊢
   go_upto_region 7 with fail
   refine Rd K6 HB6 [.no,.no,.no,.all 9 (LN (a*((t -x)%q)%q))] [] (cG 0 38 [_,_,_,_,_,_,_,_,_] []) [(9,2)] [] [true,true,true,true,true,false] (oc (g_fd (fdB0 _))<|oc (g_lo 0 0 uN iN)<|oc (g_ld 3 uN iN)<|oc (g_fd (fdB0 _))<|oc (g_lo 0 0 uN iN)<|oc (g_ld 1 uN iN)<|oc (g_ld 5 uN iN)<|oc (g_cl Xw (fun uZ=>pMinus q t x uZ ht ix hq hq0))<|oc (g_cl Y8 (fun uZ=>pTimes q a ((t -x)%q) uZ ia (Zi hq hq0) hq hq0))<|oc (g_st 3 iN) on) fun u7 HB7 sz7 K7=>?_
   simp only[sQ] at K7⊢
   go_upto_region 8 with fail
   refine Rp K7 HB7 [] [] [(0,47,_),(1,21,_)] [(1,0)] [(1,21)] [] (oc (g_bn (fun uZ=>Zm _ _ (k:Int) 1 ((k+1:Nat):Int) uZ (by omega) (by omega) (by omega)))<|oc g_mv on) fun u8 HB8 sz8 K8=>?_
   simp only[sQ] at K8⊢
   go_wp2
   refine⟨⟨k+1,by omega,rfl,HB8,(K8.cv 0),(K8.lt 0),(K8.cv 1),(K8.lt 1),by rw[hNx.out];exact(K8.cv 2),(K8.lt 2),by rw[hA.out];exact(K8.cv 3),(K8.lt 3),(K8.cv 4),(K8.lt 4)⟩,?_⟩
   simp[intOf]<;>omega
  ·have hl:decide ((k:Int)<(ns.length:Int))=false:=by simp;omega
   have hkn:k=f1.length:=by rw[hf1l.out];omega
   rw[hkn,Vw] at C2
   clear hkn
   have K3_1:Bk w.heap.size wr [(false,w.heap.size,BE q (.slice sx ns.length cx) (.slice sd ns.length cd)),(false,w.heap.size+1,LN t),(true,bo,flN f1),(true,b2_2,LN (ahN q t ns k)),(true,b2_3,LN 1)]:=⟨.c lC0 C0<| .c lC1 C1<| .o lC2 (by omega) C2<| .o lC3 (K3.lo 3) C3<| .o lC4 (K3.lo 4) C4<|trivial,by simp<;>omega⟩
   go_upto_region 4 with fail
   refine Rn K3_1 HBr [(0,22,_)] (oc (g_bn (fun uZ=>Z6 _ _ (k:Int) (ns.length:Int) _ uZ hl)) on) fun u4 HB4 sz4 K4=>?_
   simp only[sQ] at K4⊢
   go_upto_region 9 with fail
   refine Rn K4 HB4 (cG 0 48 [_,_,_,_] []) (oc (g_fd (fdB1 _))<|oc (g_lc 0 4 lSN)<|oc (g_ln Tryz.underlying27)<|oc g_mv on) fun u5 HB5 sz5 K5=>?_
   simp only[sQ] at K5⊢
   clear hk
   go_wp2_with fail
   go_loopw [51] (fun s51 wr=> ∃(m:Nat),m<=ns.length/\s51=iI (m:Int)/\Bw w wr/\CV wr (w.heap.size) (BE q (.slice sx ns.length cx) (.slice sd ns.length cd))/\w.heap.size<wr.heap.size/\CV wr (w.heap.size+1) (LN t)/\w.heap.size+1<wr.heap.size/\CV wr bo (flN (rowM f1 f2 m))/\bo<wr.heap.size/\CV wr b2_3 (LN (bhN q t ns m))/\b2_3<wr.heap.size) (fun s51 _=>ns.length -(intOf s51).toNat)
   case atStart=>exact⟨0,by omega,rfl,HB5,(K5.cv 0),(K5.lt 0),(K5.cv 1),(K5.lt 1),by rw[rowM_0 hf2l.out];exact(K5.cv 2),(K5.lt 2),(K5.cv 4),(K5.lt 4)⟩
   case round=>
    obtain⟨m,hm,rfl,HBs,D0,lD0,D1,lD1,D2,lD2,D3,lD3⟩:=hrel
    have hnK:=K5.n
    simp at hnK
    have hoK2:=K5.lo 2
    have hoK3:=K5.lo 3
    have hoK4:=K5.lo 4
    by_cases hj:m<ns.length
    ·have hl2:decide ((m:Int)<(ns.length:Int))=true:=by simp;omega
     obtain⟨i,ei⟩: ∃i,ns.length -1 -m=i:=⟨_,rfl⟩
     have hji:i<ns.length:=by omega
     have hi2:f1.length -1 -m=i:=by rw[hf1l.out];exact ei
     have hX:=hix.out _ hji
     have hX:Hid _:=hX
     have hR:=hS.out.at _ hji
     have hR:Hid _:=hR
     have ix:=hn.out i hji
     have ib:=bhN_In (t:=t) (ns:=ns) hq hq0 m
     have hv:=hf2.out i hji
     have hy:In (f1.getD i 0):=by rw[hf1.out i hji];exact Zi hq hq0
     have hA:Hid (bhN q t ns (m+1)=(bhN q t ns m*((t -ns.getD i 0)%q))%q):=by rw[<-ei];rfl
     rw[show ns.length -1 -i=m by omega] at hv
     have hXL:(flN (f1.take i)).length=4*i:=by rw[Wb,List.length_take,hf1l.out];omega
     have hNx:=rowM_next (f:=f1) (g:=f2) hf2l.out (by rw[hf1l.out];exact hj) hi2
     rw[rowM_split hf2l.out (by rw[hf1l.out];exact hj) hi2] at D2
     have hjm:(ns.length:Int) -1 -m=(i:Int):=by omega
     clear hi2 ei
     obtain⟨X,eX⟩: ∃X,flN (f1.take i)=X:=⟨_,rfl⟩
     obtain⟨Z,eZ⟩: ∃Z,flN (f2.drop (i+1))=Z:=⟨_,rfl⟩
     rw[eX] at hXL hNx D2
     rw[eZ] at hNx D2
     rw[hv] at hNx
     clear eX eZ hv
     obtain⟨x,ex⟩: ∃x,ns.getD i 0=x:=⟨_,rfl⟩
     rw[ex] at hR ix hA
     clear ex
     obtain⟨y,ey⟩: ∃y,f1.getD i 0=y:=⟨_,rfl⟩
     rw[ey] at hNx hy D2
     clear ey
     obtain⟨b,eb⟩: ∃b,bhN q t ns m=b:=⟨_,rfl⟩
     rw[eb] at ib hA hNx D3
     clear eb
     have hXL:Hid _:=hXL
     have hNx:Hid _:=hNx
     have hjm:Hid _:=hjm
     have K5_2:Bk w.heap.size wr [(false,w.heap.size,BE q (.slice sx ns.length cx) (.slice sd ns.length cd)),(false,w.heap.size+1,LN t),(true,bo,X++LN y++Z),(true,b2_3,LN b)]:=⟨.c lD0 D0<| .c lD1 D1<| .o lD2 (K5.lo 2) D2<| .o lD3 (K5.lo 4) D3<|trivial,by simp<;>omega⟩
     go_upto_region 10 with fail
     refine Rn K5_2 HBs [(0,52,_)] (oc (g_bn (fun uZ=>Z6 _ _ (m:Int) (ns.length:Int) _ uZ hl2)) on) fun u6 HB6 sz6 K6=>?_
     simp only[sQ] at K6⊢
     go_upto_region 11 with fail
     refine Rn K6 HB6 [(0,53,_),(1,10,_)] (oc g_mv<|oc g_as on) fun u7 HB7 sz7 K7=>?_
     simp only[sQ] at K7⊢
     go_upto_region 12 with fail
     refine Rn K7 HB7 (cG 0 54 [_,_,_,_,_,_] [(6,11,_)]) (oc (g_fd (fdB1 _))<|oc (g_lc 0 4 lSN)<|oc (g_ln Tryz.underlying27)<|oc (g_bn (fun uZ=>X8 _ _ (ns.length:Int) 1 _ uZ rfl (by omega) (by omega)))<|oc g_mv<|oc (g_bn (fun uZ=>X8 _ _ ((ns.length:Int) -1) (m:Int) _ uZ hjm.out (by omega) (by omega)))<|oc g_as on) fun u8 HB8 sz8 K8=>?_
     simp only[sQ] at K8⊢
     go_upto_region 13 with fail
     refine Rd K8 HB8 [.no,.no,.all 11 (X++LN (y*b%q)++Z)] [] (cG 0 60 [_,_,_,_,_,_,_,_,_,_,_] []) [(11,7)] [] [] (oc g_mv<|oc g_mv<|oc (g_fd (fdB0 _))<|oc (g_lo 0 0 uN iN)<|oc g_mv<|oc g_mv<|oc (g_ix (ixZ _ _ _ i hji))<|oc (g_lR 2 (4*i) (cs:=LN y) (mid_at hXL.out) uN iN)<|oc (g_ld 3 uN iN)<|oc (g_cl Y8 (fun uZ=>pTimes q y b uZ hy ib hq hq0))<|oc (g_ix (ixZ _ _ _ i hji))<|oc (g_sm 2 (4*i) X (LN y) Z (post:=LN (y*b%q)) (hxc:=hXL.out) iN) on) fun u9 HB9 _ K9=>?_
     simp only[sQ] at K9⊢
     go_upto_region 14 with fail
     refine Rd K9 HB9 [.no,.no,.no,.all 13 (LN (b*((t -x)%q)%q))] [] (cG 0 71 [_,_,_,_,_,_,_,_,_,_,_,_,_] []) [(13,2)] [] [] (oc (g_fd (fdB0 _))<|oc (g_lo 0 0 uN iN)<|oc (g_ld 3 uN iN)<|oc (g_fd (fdB0 _))<|oc (g_lo 0 0 uN iN)<|oc (g_ld 1 uN iN)<|oc (g_fd (fdB1 _))<|oc (g_lc 0 4 lSN)<|oc g_mv<|oc (g_ix hX.out)<|oc (g_lf hR.out (hg.resolve_left (by omega)) uN iN)<|oc (g_cl Xw (fun uZ=>pMinus q t x uZ ht ix hq hq0))<|oc (g_cl Y8 (fun uZ=>pTimes q b ((t -x)%q) uZ ib (Zi hq hq0) hq hq0))<|oc (g_st 3 iN) on) fun u10 HB10 _ K10=>?_
     simp only[sQ] at K10⊢
     go_upto_region 15 with fail
     refine Rp K10 HB10 [] [] [(0,84,_),(1,51,_)] [(1,0)] [(1,51)] [] (oc (g_bn (fun uZ=>Zm _ _ (m:Int) 1 ((m+1:Nat):Int) uZ (by omega) (by omega) (by omega)))<|oc g_mv on) fun u11 HB11 _ K11=>?_
     simp only[sQ] at K11⊢
     go_wp2
     refine⟨⟨m+1,by omega,rfl,HB11,(K11.cv 0),(K11.lt 0),(K11.cv 1),(K11.lt 1),by rw[hNx.out];exact(K11.cv 2),(K11.lt 2),by rw[hA.out];exact(K11.cv 3),(K11.lt 3)⟩,?_⟩
     simp[intOf]<;>omega
    ·have hl2:decide ((m:Int)<(ns.length:Int))=false:=by simp;omega
     have hmn:m=f1.length:=by rw[hf1l.out];omega
     rw[hmn,rowM_end hf2l.out] at D2
     clear hmn
     have K5_2:Bk w.heap.size wr [(false,w.heap.size,BE q (.slice sx ns.length cx) (.slice sd ns.length cd)),(false,w.heap.size+1,LN t),(true,bo,flN f2),(true,b2_3,LN (bhN q t ns m))]:=⟨.c lD0 D0<| .c lD1 D1<| .o lD2 (K5.lo 2) D2<| .o lD3 (K5.lo 4) D3<|trivial,by simp<;>omega⟩
     go_upto_region 10 with fail
     refine Rn K5_2 HBs [(0,52,_)] (oc (g_bn (fun uZ=>Z6 _ _ (m:Int) (ns.length:Int) _ uZ hl2)) on) fun u6 HB6 sz6 K6=>?_
     simp only[sQ] at K6⊢
     go_upto_region 16 with fail
     refine Rn K6 HB6 [(0,85,_),(1,4,_)] (oc g_mv<|oc g_as on) fun u7 HB7 sz7 K7=>?_
     simp only[sQ] at K7⊢
     go_wp2
     exact bodyPost_ret (v:= .slice (some ⟨bo,0,none⟩) ns.length ns.length) (by simp[results,Tryz.results107,go_sem]) rfl ⟨_,rfl,⟨bo,by rw[hf2l.out,hf1l.out],hbo,(K7.lt 2),(K7.cv 2)⟩,HB7⟩
end Go.Proofs.YtmoimodkopjeeaaGreatDoor
