import Derived.Test.YtoffgfhilkpdpaaGreatDoorAKW
namespace Go.Proofs.YtoffgfhilkpdpaaGreatDoor
set_option linter.unusedVariables false
set_option linter.unusedSimpArgs false
set_option maxRecDepth 100000
set_option maxHeartbeats 4000000
open Go.RowKit
theorem ixR(g o n cap j:Nat)(h:j<n)(w:World):(Instr.indexAt 108 (.slice (some ⟨g,o,none⟩) n cap) (iI j)).run Tryz.prog w= .ok (.pointer (some ⟨g,o+8*j,none⟩)) w:=by
 have hj:(j:Int)<n:=Z1
 go_simp
 all_goals first | omega | (simp[Addr.add];omega) | simp[Addr.add,Nat.mul_comm]
theorem fdR0(b o:Nat)(w:World):(Instr.fieldAt 110 (.pointer (some ⟨b,o,none⟩)) 0).run Tryz.prog w= .ok (.pointer (some ⟨b,o,none⟩)) w:=by go_simp
theorem fdR1(b o:Nat)(w:World):(Instr.fieldAt 110 (.pointer (some ⟨b,o,none⟩)) 1).run Tryz.prog w= .ok (.pointer (some ⟨b,o+4,none⟩)) w:=by go_simp
theorem SN.ptX{w:World}{g o:Nat}{ps:List (Int×Int)}(h:SN w g o (flt ps))(j:Nat)(hj:j<ps.length):w.rangeAt g (o+8*j) (LN (ps.getD j (0,0)).1):=fun c v hc=>h.pt j hj c v (by
 match c,hc with
 | 0,hc=>exact hc
 | 1,hc=>exact hc
 | 2,hc=>exact hc
 | 3,hc=>exact hc)
theorem fl_cut{fs:List Int}{zs:List Value}{k:Nat}(h:k<fs.length):flN fs++zs=flN (fs.take k)++LN (fs.getD k 0)++(flN (fs.drop (k+1))++zs)/\(flN (fs.take k)).length=4*k:=by
 refine⟨?_,by rw[Xf,List.length_take];omega⟩
 have e:fs=fs.take k++fs.getD k 0::fs.drop (k+1):=by
  have h1:fs.getD k 0=fs[k]:=by simp[List.getElem?_eq_getElem h]
  rw[h1,List.getElem_cons_drop,List.take_append_drop]
 have:flN fs=flN (fs.take k)++LN (fs.getD k 0)++flN (fs.drop (k+1)):=by
  conv=>lhs;rw[e]
  rw[Xn,flN,List.append_assoc]
 rw[this];simp[List.append_assoc]
theorem ent_X1:EnT 27:=fun _ _=>by kernel_rfl
theorem xcmb(q t r ra:Int)(sp:Option Addr)(gp op cp:Nat)(ps:List (Int×Int))(xs fs:List Int)(w:World)(hE1:Hid ((r !=0)=true->ra=0))(hE0:Hid ((r !=0)=false->ra=smN q fs ps ps.length))(hfl:Hid (fs.length=ps.length))(hnf:Hid (∀k,k<fs.length->In (fs.getD k 0)))(hnp:Hid (∀k,k<ps.length->In (ps.getD k (0,0)).2))(hq:In q)(hq0:q≠0)(hix:Hid (∀j,j<ps.length-> ∀W,(Instr.indexAt 108 (.slice sp ps.length cp) (iI j)).run Tryz.prog W= .ok (.pointer (some ⟨gp,op+8*j,none⟩)) W))(hg:ps.length=0\/gp<w.heap.size)(hS:Hid (SN w gp op (flt ps)))(hns:ps.length<=1000)(hxl:Hid (xs.length=ps.length))(hxs:Hid (∀i,i<ps.length->xs.getD i 0=(ps.getD i (0,0)).1))(hFa:Hid (∀u v,Bw w u->NL u v xs->Calls Tryz.prog 83 #[NV q,NV t,v] u fun e u'=> ∃y,e= .returned (.tuple #[y,iI r])/\FRw u.heap.size r fs u' y/\Bw u u')):
 CC 60 #[NV q,NV t,.slice sp ps.length cp] w (.tuple #[NV ra,iI r]):=by
 go_enter Tryz.func60,Tryz.ntmps60
 go_upto_region 1 with fail
 obtain⟨v0,hC,HB0,K0⟩:=bx3 w (LN q) 24 (LN t) 24 L0s 24
 rw[hC]
 clear hC
 have hbs:=bsQ0
 have hb1:=bsQ1
 have J0:CV v0 (w.heap.size) (LN q):=(K0.cv 0)
 have J1:CV v0 (w.heap.size+1) (LN t):=(K0.cv 1)
 have J6:CV v0 (w.heap.size+1+1) L0s:=(K0.cv 2)
 have j6:w.heap.size+1+1<v0.heap.size:=(K0.lt 2)
 have J0:Hid _:=J0
 have J1:Hid _:=J1
 have J6:Hid _:=J6
 go_wp2_with fail
 go_loopw [9,8] (fun s9 s8 wr=> ∃(i bo co:Nat) (zs:List Value),i<=ps.length/\s9=iI (i:Int)/\s8= .slice (some ⟨bo,0,none⟩) i co/\i<=co/\zs.length=4*(co -i)/\v0.heap.size<=bo/\bo<wr.heap.size/\Hid (CV wr bo (flN (xs.take i)++zs))/\Bw v0 wr) (fun s9 _ _=>ps.length -(intOf s9).toNat)
 case atStart=>exact⟨0,v0.heap.size,0,[],Z1,rfl,rfl,Z1,rfl,Nat.le_refl _,by simp,(fun j v h=>by simp[flN] at h),Z5 (Zf v0) _⟩
 case round=>
  obtain⟨i,bo,co,zs,hi,rfl,rfl,hic,hzl,hlo,hlt,KV,HBr⟩:=hrel
  obtain⟨wo,rfl⟩:=Zr wr
  have hTw:Bw w wo:=Z7 HB0 HBr
  have hSo:Hid (SN wo gp op (flt ps)):=(show SN wo gp op (flt ps) from SN.below2 hS.out hTw (hg.imp (fun e=>by rw[Us,e]) id))
  by_cases hj:i<ps.length
  ·have hl2:(i:Int)<(ps.length:Int):=Z1
   have hX:=hix.out _ hj
   have hF0:=fdR0 gp (op+8*i)
   have hxi:=hxs.out i hj
   have hrx:=hSo.out.ptX i hj
   rw[<-hxi] at hrx
   have hip:i<xs.length:=by rw[hxl.out];exact hj
   have hnx:Hid (xs.take (i+1)=xs.take i++[xs.getD i 0]):=by
    show xs.take (i+1)=_
    rw[List.take_add_one];simp[List.getElem?_eq_getElem hip]
   have htl:(xs.take i).length=i:=by rw[List.length_take,hxl.out];omega
   obtain⟨x,ex⟩:=Z3 (xs.getD i 0)
   rw[ex] at hrx hnx
   clear ex hxi hip
   have x0:=hrx 0 _ rfl
   rw[Nat.add_zero] at x0
   have x1:=hrx 1 _ rfl
   have x2:=hrx 2 _ rfl
   have x3:=hrx 3 _ rfl
   clear hrx
   obtain⟨v2,uc,r2,rg2,b5,c5,z5,rfl,f1,f2,f3,f4,f5⟩:=app_nq (ty:=31) (x:=x) KV.out hlt htl hic hzl Z1
   have f5:Hid _:=f5
   have rg2:Hid _:=rg2
   have e1:IntKind.i64.wrap ((i:Int)+1)=((i+1:Nat):Int):=by rw[IntKind.wrap_i64];omega
   clear htl
   go_wp2_with (at_builtin;refine Y2 rfl _ _ 31 rfl _ _ _ rfl rfl r2 ?_;clear r2)
   have hBa2:Bw v0 (wo.alloc (.cells (LN x:List Value).toArray 24)):=Z5 HBr _
   have hBc:Bw v0 uc:=hBa2.grown rg2.out hBa2.size (fun k e=>by cases e;exact hlo)
   refine⟨⟨i+1,b5,c5,z5,Z1,by simp,rfl,f3,by rw[f4];omega,by have:=hBa2.size;rcases f1 with h | h<;>omega,f2,by rw[hnx.out];exact f5,hBc⟩,?_⟩
   simp[intOf];omega
  ·have hl2: ¬((i:Int)<(ps.length:Int)):=Z1
   have hio:Hid (i=ps.length):=(show i=ps.length by omega)
   have hNL:Hid (NL wo (.slice (some ⟨bo,0,none⟩) i co) xs):=(show NL wo _ xs from nl_rq (zs:=zs) hlt (by have:=KV.out;rwa [List.take_of_length_le (by rw[hxl.out];omega)] at this) (by rw[hxl.out,hio.out]) hic)
   have HBr':Hid _:=HBr
   have q0:=(CV.below J0.out HBr Z1 0 _ rfl).1
   have q1:=(CV.below J0.out HBr Z1 1 _ rfl).1
   have q2:=(CV.below J0.out HBr Z1 2 _ rfl).1
   have q3:=(CV.below J0.out HBr Z1 3 _ rfl).1
   have t0:=(CV.below J1.out HBr Z1 0 _ rfl).1
   have t1:=(CV.below J1.out HBr Z1 1 _ rfl).1
   have t2:=(CV.below J1.out HBr Z1 2 _ rfl).1
   have t3:=(CV.below J1.out HBr Z1 3 _ rfl).1
   go_upto_region 6 with fail
   go_cut [10,11] (fun s10 s11 wx=> ∃sf nf cf,s10= .slice sf nf cf/\s11=iI r/\FRw wo.heap.size r fs wx (.slice sf nf cf)/\Bw wo wx)
   case first=>
    go_wp2_with (go_at_call 83;refine(hFa.out wo _ hTw hNL.out).mono ?_;rintro e ub ⟨y,rfl,hy,hBb⟩;obtain⟨sf,nf,cf,rfl⟩:=hy.1;have hy:Hid _:=hy)
    go_meet
    exact⟨_,_,_,rfl,rfl,hy.out,hBb⟩
   case rest=>
    obtain⟨sf,nf,cf,rfl,rfl,hy,gB⟩:=hcut
    have hTc:Bw w wc:=Z7 hTw gB
    have hBv:=Z7 HBr'.out gB
    have R0:=CV.below J0.out hBv Z1
    have R1:=CV.below J1.out hBv Z1
    have R6:=CV.below J6.out hBv j6
    have gsz:=hBv.size
    have i0:w.heap.size<wc.heap.size:=Z1
    have i1:w.heap.size+1<wc.heap.size:=Z1
    have i6:w.heap.size+1+1<wc.heap.size:=Z1
    clear q0 q1 q2 q3 t0 t1 t2 t3
    cases hrn:(r !=0)
    ·skip
     have hr0:r=0:=by simpa using hrn
     obtain⟨bf,co',zf,e9,hlf,hlf2,hcf,Kf⟩:=hy.2 hr0
     have hr0:Hid _:=hr0
     obtain⟨rfl,rfl,rfl⟩:sf=some ⟨bf,0,none⟩/\nf=fs.length/\cf=co':=by cases e9;exact⟨rfl,rfl,rfl⟩
     clear hy e9
     have hsv:=HBr'.out.size
     have K0_1:Bk w.heap.size wc [(false,w.heap.size,LN q),(false,w.heap.size+1,LN t),(true,w.heap.size+1+1,L0s),(false,bf,flN fs++zf)]:=⟨.c i0 R0<| .c i1 R1<| .o i6 Z1 R6<| .c hlf2 Kf<|trivial,by simp<;>omega⟩
     go_upto_region 7 with fail
     refine Rn K0_1 hTc [(0,38,_),(1,39,_)] (Oc2 g_mv (g_bn (fun uZ=>Y7 _ _ _ r 0 _ uZ hrn))) fun u1 HB1 sz1 K1=>?_
     simp only[sQ] at K1⊢
     go_upto_region 9 with fail
     refine Rp K1 HB1 [] [(1,12,L0s,some (2,[iU (0),iU (0),iU (0),iU (0)]))] [(0,42,_)] [(2,1)] [] [] (Oc3 (g_bd zN) (g_al 0 aN) (g_sn 0 iN)) fun u2 b2_1 HB2 sz2 K2=>?_
     simp only[sQ] at K2⊢
     go_upto_region 10 with fail
     refine Rn K2 HB2 [(0,13,_)] (Oc1 g_as) fun u3 HB3 _ K3=>?_
     simp only[sQ] at K3⊢
     go_wp2_with fail
     go_loopw [13] (fun s13 wr=> ∃(k:Nat),k<=ps.length/\s13=iI (k:Int)/\Bw w wr/\CV wr (w.heap.size) (LN q)/\w.heap.size<wr.heap.size/\CV wr (w.heap.size+1) (LN t)/\w.heap.size+1<wr.heap.size/\CV wr (w.heap.size+1+1) (L0s)/\w.heap.size+1+1<wr.heap.size/\CV wr bf (flN fs++zf)/\bf<wr.heap.size/\CV wr b2_1 (LN (smN q fs ps k))/\b2_1<wr.heap.size) (fun s13 _=>ps.length -(intOf s13).toNat)
     case atStart=>exact⟨0,Z1,rfl,HB3,(K3.cv 0),(K3.lt 0),(K3.cv 1),(K3.lt 1),(K3.cv 2),(K3.lt 2),(K3.cv 3),(K3.lt 3),(K3.cv 4),(K3.lt 4)⟩
     case round=>
      obtain⟨k,hk,rfl,HBr,C0,lC0,C1,lC1,C2,lC2,C3,lC3,C4,lC4⟩:=hrel
      have hnK:=K3.n
      simp at hnK
      have hoK4:=K3.lo 4
      by_cases hj2:k<ps.length
      ·have hl3:decide ((k:Int)<(ps.length:Int))=true:=by simp;omega
       have hkf:k<fs.length:=by rw[hfl.out];exact hj2
       obtain⟨ecut,hXL⟩:=fl_cut (zs:=zf) hkf
       rw[ecut] at C3
       have hXr:=hix.out _ hj2
       have hXr:Hid _:=hXr
       have hY:=hS.out.ptY _ hj2
       have hY:Hid _:=hY
       have hg':=hg.resolve_left Z1
       have iy:=hnp.out k hj2
       have iff_:=hnf.out k hkf
       have ism:=smN_In (fs:=fs) (ps:=ps) hq hq0 k
       have hA:Hid (smN q fs ps (k+1)=(smN q fs ps k+(fs.getD k 0*(ps.getD k (0,0)).2)%q)%q):=rfl
       have hC3:Hid (flN fs++zf=flN (fs.take k)++LN (fs.getD k 0)++(flN (fs.drop (k+1))++zf)):=ecut
       clear ecut
       obtain⟨X,eX⟩:=Z3 (flN (fs.take k))
       obtain⟨Z,eZ⟩:=Z3 (flN (fs.drop (k+1))++zf)
       rw[eX] at hXL C3 hC3
       rw[eZ] at C3 hC3
       clear eX eZ
       obtain⟨f,ef⟩:=Z3 (fs.getD k 0)
       rw[ef] at C3 iff_ hA hC3
       clear ef
       obtain⟨y,ey⟩:=Z3 ((ps.getD k (0,0)).2)
       rw[ey] at hY iy hA
       clear ey
       obtain⟨s,es⟩:=Z3 (smN q fs ps k)
       rw[es] at ism hA C4
       clear es
       have hXL:Hid _:=hXL
       have im:In (f*y%q):=Zt hq hq0
       have hMl:Hid (∀u,CC 19 #[NV f,NV y,NV q] u (.tuple #[NV (f*y%q),iI 0])):=fun u=>xMul f y q u iff_ iy hq hq0
       obtain⟨z,ez⟩:=Z3 (f*y%q)
       rw[ez] at im hMl hA
       clear ez
       have K3_2:Bk w.heap.size wr [(false,w.heap.size,LN q),(false,w.heap.size+1,LN t),(true,w.heap.size+1+1,L0s),(false,bf,X++LN f++Z),(true,b2_1,LN s)]:=⟨.c lC0 C0<| .c lC1 C1<| .o lC2 (K3.lo 2) C2<| .c lC3 C3<| .o lC4 (K3.lo 4) C4<|trivial,by simp<;>omega⟩
       go_upto_region 11 with fail
       refine Rn K3_2 HBr (cG 0 43 [_,_,_,_] []) (Oc4 g_mv g_mv (g_ln Tryz.underlying108) (g_bn (fun uZ=>Za _ _ (k:Int) (ps.length:Int) _ uZ hl3))) fun u4 HB4 sz4 K4=>?_
       simp only[sQ] at K4⊢
       go_upto_region 13 with fail
       refine Rd K4 HB4 [] [(14,14,L0s,some (15,LN z))] (cG 0 50 [_,_,_,_,_,_,_,_,_,_,_] [(11,49,_),(12,61,_),(13,62,_),(16,15,_)]) [(15,14)] [] [] (Od8 g_mv g_mv (g_ix (ixZ _ _ _ k hkf)) (g_lR 3 (4*k) (cs:=LN f) (mid_at hXL.out) uN iN) g_mv g_mv (g_ix hXr.out) (g_fd (fdR1 _ _))<|Oc9 (g_lf hY.out hg' uN iN) (g_ld 0 uN iN) (g_cl ent_W4 hMl.out) g_mv g_ex g_ex (g_al 0 aN) (g_sn 0 iN) g_as) fun u5 b5_14 HB5 sz5 K5=>?_
       simp only[sQ] at K5⊢
       go_upto_region 14 with fail
       refine Rp K5 HB5 [.no,.no,.no,.no,.all 7 (LN ((s+z)%q))] [] (cG 0 64 [_,_,_,_] [(4,63,_),(5,68,_),(6,69,_)]) [(7,0)] [] [] (Oc8 (g_ld 4 uN iN) (g_ld 5 uN iN) (g_ld 0 uN iN) (g_cl ent_X1 (fun uZ=>xAdd s z q uZ ism im hq hq0)) g_mv g_ex g_ex (g_st 4 iN)) fun u6 HB6 _ K6=>?_
       simp only[sQ] at K6⊢
       go_upto_region 12 with fail
       refine Rp K6 HB6 [] [] [(0,47,_),(1,48,_),(2,13,_)] [(2,0)] [(2,13)] [] (Oc3 g_mv (g_bn (fun uZ=>Zu _ _ (k:Int) 1 ((k+1:Nat):Int) uZ Z1 Z1 Z1)) g_as) fun u7 HB7 _ K7=>?_
       simp only[sQ] at K7⊢
       go_wp2
       refine⟨⟨k+1,Z1,rfl,HB7,(K7.cv 0),(K7.lt 0),(K7.cv 1),(K7.lt 1),(K7.cv 2),(K7.lt 2),by rw[hC3.out];exact(K7.cv 3),(K7.lt 3),by rw[hA.out];exact(K7.cv 4),(K7.lt 4)⟩,?_⟩
       simp[intOf]<;>omega
      ·have hl3:decide ((k:Int)<(ps.length:Int))=false:=by simp;omega
       have hkn:k=ps.length:=Z1
       rw[hkn] at C4
       clear hkn
       have K3_2:Bk w.heap.size wr [(false,w.heap.size,LN q),(false,w.heap.size+1,LN t),(true,w.heap.size+1+1,L0s),(false,bf,flN fs++zf),(true,b2_1,LN (smN q fs ps ps.length))]:=⟨.c lC0 C0<| .c lC1 C1<| .o lC2 (K3.lo 2) C2<| .c lC3 C3<| .o lC4 (K3.lo 4) C4<|trivial,by simp<;>omega⟩
       go_upto_region 11 with fail
       refine Rn K3_2 HBr (cG 0 43 [_,_,_,_] []) (Oc4 g_mv g_mv (g_ln Tryz.underlying108) (g_bn (fun uZ=>Za _ _ (k:Int) (ps.length:Int) _ uZ hl3))) fun u4 HB4 sz4 K4=>?_
       simp only[sQ] at K4⊢
       go_upto_region 15 with fail
       refine Rp K4 HB4 [.no,.no,.all 1 (LN (smN q fs ps ps.length))] [] [(0,70,_),(2,7,_)] [] [] [] (Oc3 (g_ld 4 uN iN) (g_st 2 iN) g_as) fun u5 HB5 sz5 K5=>?_
       simp only[sQ] at K5⊢
       have c6:=(K5.cv 2).n4
       go_wp2
       refine bodyPost_ret (v:= .tuple #[NV (smN q fs ps ps.length),iI 0]) (by simp[results,Tryz.results60,go_sem,c6]) rfl ⟨by rw[hE0.out hrn,hr0.out],HB5⟩
    ·skip
     have K0_1:Bk w.heap.size wc [(false,w.heap.size,LN q),(false,w.heap.size+1,LN t),(true,w.heap.size+1+1,L0s)]:=⟨.c i0 R0<| .c i1 R1<| .o i6 Z1 R6<|trivial,by simp<;>omega⟩
     go_upto_region 7 with fail
     refine Rn K0_1 hTc [(0,38,_),(1,39,_)] (Oc2 g_mv (g_bn (fun uZ=>Y7 _ _ _ r 0 _ uZ hrn))) fun u1 HB1 sz1 K1=>?_
     simp only[sQ] at K1⊢
     go_upto_region 8 with fail
     refine Rp K1 HB1 [.no,.no,.all 2 ([iU (0),iU (0),iU (0),iU (0)])] [] [(0,40,_),(1,41,_),(3,7,_)] [] [] [] (Oc4 (g_bd zN) g_mv (g_st 2 iN) g_as) fun u2 HB2 sz2 K2=>?_
     simp only[sQ] at K2⊢
     have c6:=(K2.cv 2).n4
     go_wp2
     refine bodyPost_ret (v:= .tuple #[A4 0 0 0 0,iI r]) (by simp[results,Tryz.results60,go_sem,c6]) rfl ⟨by rw[hE1.out hrn,NV_0],HB2⟩
end Go.Proofs.YtoffgfhilkpdpaaGreatDoor
