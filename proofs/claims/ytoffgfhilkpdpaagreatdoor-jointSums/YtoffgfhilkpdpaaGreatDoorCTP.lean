import Derived.Test.YtoffgfhilkpdpaaGreatDoorAO2
namespace Go.Proofs.YtoffgfhilkpdpaaGreatDoor
set_option linter.unusedVariables false
set_option linter.unusedSimpArgs false
set_option maxRecDepth 100000
set_option maxHeartbeats 4000000
open Go.RowKit
theorem lT{b c:Nat}{s:ByteArray}(w:World)(h:w.cell? ⟨b,c,none⟩=some (.string s)):(Instr.loadAt 9 (.pointer (some ⟨b,c,none⟩))).run Tryz.prog w= .ok (.string s) w:=by go_simp
theorem ixT(g o n cap j:Nat)(h:j<n)(w:World):(Instr.indexAt 160 (.slice (some ⟨g,o,none⟩) n cap) (iI j)).run Tryz.prog w= .ok (.pointer (some ⟨g,o+j,none⟩)) w:=by
 have h2:(j:Int)<n:=Z1
 go_simp
theorem bsN1(n:Int)(w:World):(Instr.buildSlice 31 1 ([0].zip [NV n]).toArray).run Tryz.prog w= .ok (.slice (some ⟨w.heap.size,0,none⟩) 1 1) (w.alloc (.cells (LN n).toArray 24)):=by kernel_rfl
theorem LN_one{n:Int}: ∀v∈LN n,v.oneCell'=true:=fun v hv=>by
 simp only[LN,List.mem_cons,List.not_mem_nil,or_false] at hv
 rcases hv with rfl | rfl | rfl | rfl<;>rfl
theorem flN_tk(ns:List Int)(j:Nat)(h:j<ns.length):flN (ns.take (j+1))=flN (ns.take j)++LN (ns.getD j 0):=by
 rw[List.take_succ_eq_append_getElem h,Xn];simp[flN,List.getElem?_eq_getElem h]
theorem str_at(ss:List ByteArray)(j:Nat)(h:j<ss.length):(ss.map Value.string)[j]?=some (.string (ss.getD j ByteArray.empty)):=by
 simp[List.getElem?_eq_getElem h]
theorem add_drop4{xs zs:List Value}:xs++(zs.take 4)++(zs.drop 4)=xs++zs:=by rw[List.append_assoc,List.take_append_drop]
theorem Y1:EnT 105:=fun _ _=>by kernel_rfl
def ss0:List ByteArray:=[⟨#[50,48,48,49,100]⟩,⟨#[50,50,97,49,102,54,49,49]⟩,⟨#[52,53,52,51,101,99,50,51]⟩]
def ns0:List Int:=[131101,581039633,1162079267]
theorem st0_0:(⟨#[50,48,48,49,100]⟩:ByteArray)=strOfNums [50,48,48,49,100]:=by kernel_rfl
theorem st0_1:(⟨#[50,50,97,49,102,54,49,49]⟩:ByteArray)=strOfNums [50,50,97,49,102,54,49,49]:=by kernel_rfl
theorem st0_2:(⟨#[52,53,52,51,101,99,50,51]⟩:ByteArray)=strOfNums [52,53,52,51,101,99,50,51]:=by kernel_rfl
theorem xps0: ∀j,j<ss0.length-> ∀u,CC 105 #[.string (ss0.getD j ByteArray.empty)] u (.tuple #[NV (ns0.getD j 0),iI 0]):=fun j hj u=>by
 have hj:j<3:=hj
 rcases (by omega:j=0\/j=1\/j=2) with rfl | rfl | rfl
 ·show CC 105 #[.string ⟨#[50,48,48,49,100]⟩] u (.tuple #[NV 131101,iI 0])
  rw[st0_0];exact rPs _ _ u Z2 Z2 (by unfold Bytes8;decide) Z2 Z2 Z2 Z2 (by kernel_rfl)
 ·show CC 105 #[.string ⟨#[50,50,97,49,102,54,49,49]⟩] u (.tuple #[NV 581039633,iI 0])
  rw[st0_1];exact rPs _ _ u Z2 Z2 (by unfold Bytes8;decide) Z2 Z2 Z2 Z2 (by kernel_rfl)
 ·show CC 105 #[.string ⟨#[52,53,52,51,101,99,50,51]⟩] u (.tuple #[NV 1162079267,iI 0])
  rw[st0_2];exact rPs _ _ u Z2 Z2 (by unfold Bytes8;decide) Z2 Z2 Z2 Z2 (by kernel_rfl)
theorem CV.nil(u:World)(b:Nat):CV u b []:=fun j v hj=>by simp at hj
theorem bsS3(a b c:ByteArray)(w:World):(Instr.buildSlice 160 3 ([0,1,2].zip [.string a,.string b,.string c]).toArray).run Tryz.prog w= .ok (.slice (some ⟨w.heap.size,0,none⟩) 3 3) (w.alloc (.cells ([a,b,c].map Value.string).toArray 9)):=by kernel_rfl
theorem bsC0p(w:World):(Instr.buildSlice 127 0 #[]).run Tryz.prog w= .ok (.slice (some ⟨w.heap.size,0,none⟩) 0 0) (w.alloc (.cells #[] 131)):=by kernel_rfl
theorem bdXp(x:Int)(h0:0<=x)(h1:x<18446744073709551616)(w:World):(Instr.build 24 [(0,iU x)].toArray).run Tryz.prog w= .ok (NV x) w:=by
 rw[Xz h0 h1];kernel_rfl
theorem xChain0(w:World):Calls Tryz.prog 79 #[iI 0] w fun e w'=> ∃v,e= .returned v/\PT 0 w.heap.size 2 (flC (stp ns0 2)) w' v/\Bw w w':=by
 go_enter Tryz.func79,Tryz.ntmps79
 have HB0:Bw w w:=Below.refl _ _
 have K0_1:=Bk.nil (w.heap.size) w
 go_upto_region 1 with fail
 refine Rf K0_1 HB0 [] [] [] [] [] [⟨0,11,some 1,PS w.heap.size 3 (ss0.map Value.string)⟩,⟨1,4,none,PS w.heap.size 3 (ss0.map Value.string)⟩] [] (hst:=(.cons (fun _ _ _ h1 h2=>h2.stab h1)<| .cons (fun _ _ _ h1 h2=>h2.stab h1)<|Stab.nil)) (Oc2 (g_bR 0 (PS w.heap.size 3 (ss0.map Value.string)) [0,1,2] [.string ⟨#[50,48,48,49,100]⟩,.string ⟨#[50,50,97,49,102,54,49,49]⟩,.string ⟨#[52,53,52,51,101,99,50,51]⟩] (ss0.map Value.string) (bsS3 _ _ _) (fun u hu=>PS.new 3 _ _ u hu)) (g_sE 0 1 (PS w.heap.size 3 (ss0.map Value.string)))) fun u1 v1_0 hv1_0 v1_1 hv1_1 HB1 _ K1=>?_
 simp only[sQ] at K1⊢
 obtain⟨bS,cS,rfl,ho1,ho2,hcS,hoC⟩:=hv1_1 rfl
 have K1xstr:=Bk.more3 K0_1 K1 ho1 ho2 hoC (by intro x hx;first | (simp at hx;done) | (simp at hx⊢;omega))
 simp only[aK] at K1xstr
 go_upto_region 2 with fail
 refine Rn K1xstr HB1 [(0,12,_),(1,13,_)] (Oc2 g_mv (g_bn (fun uZ=>Ue _ _ _ 0 1 _ uZ rfl))) fun u2 HB2 _ K2=>?_
 simp only[sQ] at K2⊢
 have hSw:w.heap.size<=bS:=Z1
 go_upto_region 4 with fail
 refine Rn K2 HB2 (cG 0 15 [_,_,_,_,_,_] []) (Oc6 g_mv (g_bn (fun uZ=>Za _ _ 0 0 _ uZ rfl)) g_mv g_mv (g_bn (fun uZ=>V8 _ _ 0 1 _ uZ rfl)) g_pk) fun u3 HB3 _ K3=>?_
 simp only[sQ] at K3⊢
 go_upto_region 6 with fail
 refine Rf K3 HB3 [] [] [] [] [] [⟨0,21,some 1,PZ u3.heap.size⟩,⟨1,5,none,PZ u3.heap.size⟩] [] (hst:=(.cons (fun _ _ _ h1 h2=>h2.stab h1)<| .cons (fun _ _ _ h1 h2=>h2.stab h1)<|Stab.nil)) (Oc2 (g_bs 0 (PZ u3.heap.size) bsC0p (fun u hu=>PZ.new hu)) (g_sE 0 1 (PZ u3.heap.size))) fun u4 v4_0 hv4_0 v4_1 hv4_1 HB4 _ K4=>?_
 simp only[sQ] at K4⊢
 have hbSl:=K3.lt 0
 obtain⟨bz,rfl,ho1,ho2⟩:=hv4_1 rfl
 have K4xrow:=Bk.more3 K3 K4 ho1 ho2 (CV.nil _ _) (by intro x hx;first | (simp at hx;done) | (simp at hx⊢;omega))
 simp only[aK] at K4xrow
 have hb50:w.heap.size<=bz:=Z1
 have hb5S:bz≠bS:=Z1
 go_upto_region 7 with fail
 refine Rn K4xrow HB4 [(0,6,_)] (Oc1 g_as) fun u5 HB5 _ K5=>?_
 simp only[sQ] at K5⊢
 go_wp2_with fail
 go_loopw [6,5] (fun s6 s5 wr=> ∃(j:Nat),j<=2/\s6=iI ((j+1:Nat):Int)/\(∃b cap zs,s5= .slice (some ⟨b,0,none⟩) j cap/\w.heap.size<=b/\b<wr.heap.size/\b≠bS/\j<=cap/\List.length (α:=Value) zs=(cap -j)*12/\Hid (CV wr b (flC (stp ns0 j)++zs)))/\Bw w wr/\Hid (CV wr bS (ss0.map Value.string))/\bS<wr.heap.size) (fun s6 _ _=>3 -(intOf s6).toNat)
 case atStart=>exact⟨0,Z1,rfl,⟨bz,0,[],rfl,hb50,(K5.lt 1),hb5S,Nat.le_refl _,rfl,(K5.cv 1)⟩,HB5,(K5.cv 0),(K5.lt 0)⟩
 case round=>
  obtain⟨j,hj,rfl,hrow,HBr,hKL,hLr⟩:=hrel
  have hwr:=HBr.size
  obtain⟨b5,c5,zs,rfl,hb5,hl5,hbl,hjc,hzl,hC5⟩:=hrow
  by_cases hjl:j<2
  ·have hl:decide (((j+1:Nat):Int)<3)=true:=by simp;omega
   obtain⟨y,ey⟩:=Z3 (ns0.getD (j+1) 0)
   obtain⟨z,ez⟩:=Z3 (ns0.getD j 0)
   obtain⟨s,es⟩:=Z3 (ss0.getD (j+1) ByteArray.empty)
   obtain⟨t,et⟩:=Z3 (ss0.getD j ByteArray.empty)
   have hln:ss0.length=3:=rfl
   have hCy:=xps0 (j+1) Z1
   have hCz:=xps0 j Z1
   have hs:=str_at ss0 (j+1) Z1
   have ht:=str_at ss0 j Z1
   have hf:=flC_stp ns0 j
   have hsl:=flC_len (stp ns0 j)
   rw[stp_len] at hsl
   rw[ey] at hCy hf
   rw[ez] at hCz hf
   rw[es] at hCy hs
   rw[et] at hCz ht
   have hCy:Hid _:=hCy
   have hCz:Hid _:=hCz
   have hf:Hid _:=hf
   have hz1:((j+1:Nat):Int) -1=(j:Int):=Z1
   obtain⟨ti,hti,hm⟩:=Option.map_eq_some_iff.1 infoC
   simp only[Prod.mk.injEq] at hm
   obtain⟨hzv,hsz,hby⟩:=hm
   clear ey ez es et
   by_cases hrm:j+1<=c5
   ·have hC5:CV wr b5 (flC (stp ns0 j)++zs.take 12++zs.drop 12):=by rw[add_drop (news:=[])];exact hC5.out
    have hnK:=K5.n
    simp at hnK
    have K5_2:Bk w.heap.size wr [(false,bS,ss0.map Value.string),(true,b5,flC (stp ns0 j)++zs.take 12++zs.drop 12)]:=⟨.c hLr hKL.out<| .o hl5 Z1 hC5<|trivial,by simp;omega⟩
    go_upto_region 8 with fail
    refine Rn K5_2 HBr (cG 0 22 [_,_,_,_] []) (Oc4 g_mv g_mv (g_ln Tryz.underlying160) (g_bn (fun uZ=>Za _ _ ((j+1:Nat):Int) ((3:Nat):Int) _ uZ hl))) fun u6 HB6 sz6 K6=>?_
    simp only[sQ] at K6⊢
    go_upto_region 10 with fail
    refine Rp K6 HB6 [] [(9,7,L0s,some (10,LN z))] (cG 0 29 [_,_,_,_,_,_] [(6,28,_),(7,35,_),(8,36,_),(11,8,_)]) [(10,9)] [] [] (Od8 g_mv g_mv (g_bn (fun uZ=>Xi _ _ ((j+1:Nat):Int) 1 (j:Int) uZ hz1 Z1 Z1)) (g_ix (fun uZ=>ixT bS 0 3 cS j Z1 uZ)) (g_lv 0 (0+j) lT (by rw[Nat.zero_add];exact ht)) (g_cl Y1 hCz.out) g_mv g_ex<|Oc4 g_ex (g_al 0 aN) (g_sn 0 iN) g_as) fun u7 b7_9 HB7 sz7 K7=>?_
    simp only[sQ] at K7⊢
    go_upto_region 11 with fail
    refine Rp K7 HB7 [] [(8,9,L0s,some (9,LN y))] (cG 0 38 [_,_,_,_,_] [(5,37,_),(6,43,_),(7,44,_),(10,10,_)]) [(9,8)] [] [] (Od8 g_mv g_mv (g_ix (fun uZ=>ixT bS 0 3 cS (j+1) Z1 uZ)) (g_lv 0 (0+(j+1)) lT (by rw[Nat.zero_add];exact hs)) (g_cl Y1 hCy.out) g_mv g_ex g_ex<|Oc3 (g_al 0 aN) (g_sn 0 iN) g_as) fun u8 b8_8 HB8 sz8 K8=>?_
    simp only[sQ] at K8⊢
    go_upto_region 12 with fail
    refine Rf K8 HB8 [.no,.all 6 (flC (stp ns0 j)++CE y z 2++zs.drop 12)] [] (cG 0 45 [_,_,_,_,_] [(6,51,_),(7,5,_)]) [(7,0)] [(7,5)] [⟨5,50,some 6,P1 (CE y z 2)⟩] [true,true,false,false] (Oc8 g_mv (g_ld 3 uN iN) (g_ld 2 uN iN) (g_bd (fun uZ=>bdXp 2 Z1 Z1 uZ)) (g_bd (bdC _ _ _)) (g_bR 0 (P1 (CE y z 2)) [0] [CX y z 2] (CE y z 2) (bsC1 _ _ _) (fun u hu=>P1.new _ _ u)) (g_pI 1 0 (P1 (CE y z 2)) (xs:=flC (stp ns0 j)) (ys:=zs.take 12) (zs:=zs.drop 12) (news:=CE y z 2) Tryz.underlying127 hti P1.at CE_one hsz.symm (by rw[hsz];exact hsl) (by rw[List.length_take];simp;omega) hrm) g_as) fun u9 v9_5 hv9_5 HB9 sz9 K9=>?_
    simp only[sQ] at K9⊢
    go_upto_region 9 with fail
    refine Rp K9 HB9 [] [] [(0,26,_),(1,27,_),(2,6,_)] [(2,0)] [(2,6)] [] (Oc3 g_mv (g_bn (fun uZ=>Zu _ _ ((j+1:Nat):Int) 1 ((j+1+1:Nat):Int) uZ Z1 Z1 Z1)) g_as) fun u10 HB10 sz10 K10=>?_
    simp only[sQ] at K10⊢
    go_wp2
    refine⟨⟨j+1,Z1,rfl,⟨b5,c5,zs.drop 12,rfl,hb5,(K10.lt 1),hbl,hrm,(by rw[List.length_drop];omega),(by rw[hf.out];exact(K10.cv 1))⟩,HB10,(K10.cv 0),(K10.lt 0)⟩,?_⟩
    simp[intOf]<;>omega
   ·have ec:j=c5:=Z1
    subst ec
    have hnK:=K5.n
    simp at hnK
    have K5_2:Bk w.heap.size wr [(false,bS,ss0.map Value.string),(false,b5,flC (stp ns0 j)++zs)]:=⟨.c hLr hKL.out<| .c hl5 hC5.out<|trivial,by simp;omega⟩
    go_upto_region 8 with fail
    refine Rn K5_2 HBr (cG 0 22 [_,_,_,_] []) (Oc4 g_mv g_mv (g_ln Tryz.underlying160) (g_bn (fun uZ=>Za _ _ ((j+1:Nat):Int) ((3:Nat):Int) _ uZ hl))) fun u6 HB6 sz6 K6=>?_
    simp only[sQ] at K6⊢
    go_upto_region 10 with fail
    refine Rp K6 HB6 [] [(9,7,L0s,some (10,LN z))] (cG 0 29 [_,_,_,_,_,_] [(6,28,_),(7,35,_),(8,36,_),(11,8,_)]) [(10,9)] [] [] (Od8 g_mv g_mv (g_bn (fun uZ=>Xi _ _ ((j+1:Nat):Int) 1 (j:Int) uZ hz1 Z1 Z1)) (g_ix (fun uZ=>ixT bS 0 3 cS j Z1 uZ)) (g_lv 0 (0+j) lT (by rw[Nat.zero_add];exact ht)) (g_cl Y1 hCz.out) g_mv g_ex<|Oc4 g_ex (g_al 0 aN) (g_sn 0 iN) g_as) fun u7 b7_9 HB7 sz7 K7=>?_
    simp only[sQ] at K7⊢
    go_upto_region 11 with fail
    refine Rp K7 HB7 [] [(8,9,L0s,some (9,LN y))] (cG 0 38 [_,_,_,_,_] [(5,37,_),(6,43,_),(7,44,_),(10,10,_)]) [(9,8)] [] [] (Od8 g_mv g_mv (g_ix (fun uZ=>ixT bS 0 3 cS (j+1) Z1 uZ)) (g_lv 0 (0+(j+1)) lT (by rw[Nat.zero_add];exact hs)) (g_cl Y1 hCy.out) g_mv g_ex g_ex<|Oc3 (g_al 0 aN) (g_sn 0 iN) g_as) fun u8 b8_8 HB8 sz8 K8=>?_
    simp only[sQ] at K8⊢
    go_upto_region 12 with fail
    refine Rf K8 HB8 [] [] (cG 0 45 [_,_,_,_,_] []) [(7,0)] [(7,5)] [⟨5,50,some 6,P1 (CE y z 2)⟩,⟨6,51,some 7,PG u8.heap.size ti.size (j+1) (flC (stp ns0 j)++CE y z 2)⟩,⟨7,5,none,PG u8.heap.size ti.size (j+1) (flC (stp ns0 j)++CE y z 2)⟩] [true,false,false,false] (Oc8 g_mv (g_ld 3 uN iN) (g_ld 2 uN iN) (g_bd (fun uZ=>bdXp 2 Z1 Z1 uZ)) (g_bd (bdC _ _ _)) (g_bR 0 (P1 (CE y z 2)) [0] [CX y z 2] (CE y z 2) (bsC1 _ _ _) (fun u hu=>P1.new _ _ u)) (g_pG 0 1 (P1 (CE y z 2)) (n:=j) (xs:=flC (stp ns0 j)) (news:=CE y z 2) Tryz.underlying127 hti hzv (by rw[hsz];rfl) P1.at hsz.symm (fun f u kZ=>⟨by rw[hsz];exact hsl,.inr ⟨b5,rfl,(KC.cv kZ 1).pre2⟩⟩) (by rw[hby];omega) Z1) (g_sE 1 2 (PG u8.heap.size ti.size (j+1) (flC (stp ns0 j)++CE y z 2)))) fun u9 v9_5 hv9_5 v9_6 hv9_6 v9_7 hv9_7 HB9 sz9 K9=>?_
    simp only[sQ] at K9⊢
    obtain⟨b6,c6,zs6,rfl,ho1,ho2,hc6,hz6,hoC⟩:=hv9_7 rfl
    have K9xrow6:=Bk.more3 K8 K9 ho1 ho2 hoC (by intro x hx;first | (simp at hx;done) | (simp at hx⊢;omega))
    simp only[aK] at K9xrow6
    rw[hsz] at hz6
    have hb6':b6≠bS:=by have:=(K8.lt 0);omega
    have hw6:w.heap.size<=b6:=Z1
    go_upto_region 9 with fail
    refine Rp K9xrow6 HB9 [] [] [(0,26,_),(1,27,_),(2,6,_)] [(2,0)] [(2,6)] [] (Oc3 g_mv (g_bn (fun uZ=>Zu _ _ ((j+1:Nat):Int) 1 ((j+1+1:Nat):Int) uZ Z1 Z1 Z1)) g_as) fun u10 HB10 sz10 K10=>?_
    simp only[sQ] at K10⊢
    go_wp2
    refine⟨⟨j+1,Z1,rfl,⟨b6,c6,zs6,rfl,hw6,(K10.lt 1),hb6',hc6,hz6,(by rw[hf.out];exact(K10.cv 1))⟩,HB10,(K10.cv 0),(K10.lt 0)⟩,?_⟩
    simp[intOf]<;>omega
  ·have hl:decide (((j+1:Nat):Int)<3)=false:=by simp;omega
   have hjn:j=2:=Z1
   have hnK:=K5.n
   simp at hnK
   have K5_2:Bk w.heap.size wr [(false,b5,flC (stp ns0 j)++zs)]:=⟨.c hl5 hC5.out<|trivial,by simp⟩
   go_upto_region 8 with fail
   refine Rn K5_2 HBr (cG 0 22 [_,_,_,_] []) (Oc4 g_mv g_mv (g_ln Tryz.underlying160) (g_bn (fun uZ=>Za _ _ ((j+1:Nat):Int) ((3:Nat):Int) _ uZ hl))) fun u6 HB6 sz6 K6=>?_
   simp only[sQ] at K6⊢
   go_upto_region 13 with fail
   refine Rn K6 HB6 [(0,52,_),(1,2,_),(2,3,_)] (Oc3 g_mv g_as g_as) fun u7 HB7 sz7 K7=>?_
   simp only[sQ] at K7⊢
   go_wp2
   refine bodyPost_ret (v:= .tuple #[.slice (some ⟨b5,0,none⟩) j c5,iI 0]) (by simp[results,Tryz.results79,go_sem]) rfl ⟨_,rfl,⟨_,rfl,b5,c5,by rw[hjn],hb5,K7.lt 0,Z1,by rw[<-hjn];exact(K7.cv 0).pre2⟩,HB7⟩
end Go.Proofs.YtoffgfhilkpdpaaGreatDoor
