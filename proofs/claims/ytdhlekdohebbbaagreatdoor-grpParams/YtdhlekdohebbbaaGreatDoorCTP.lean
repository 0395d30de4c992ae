import Derived.Test.YtdhlekdohebbbaaGreatDoorU6
import Derived.Test.YtdhlekdohebbbaaGreatDoorCTA
import Derived.Test.YtdhlekdohebbbaaGreatDoorU5
namespace Go.Proofs.YtdhlekdohebbbaaGreatDoor
set_option linter.unusedVariables false
set_option linter.unusedSimpArgs false
set_option maxRecDepth 100000
set_option maxHeartbeats 4000000
open Go.RowKit
theorem lT{b c:Nat}{s:ByteArray}(w:World)(h:w.cell? ⟨b,c,none⟩=some (.string s)):(Instr.loadAt 9 (.pointer (some ⟨b,c,none⟩))).run Tryz.prog w= .ok (.string s) w:=by go_simp
theorem ixT(g o n cap j:Nat)(h:j<n)(w:World):(Instr.indexAt 57 (.slice (some ⟨g,o,none⟩) n cap) (iI j)).run Tryz.prog w= .ok (.pointer (some ⟨g,o+j,none⟩)) w:=by
 have h2:(j:Int)<n:=by omega
 go_simp
theorem bsN1(n:Int)(w:World):(Instr.buildSlice 61 1 ([0].zip [NV n]).toArray).run Tryz.prog w= .ok (.slice (some ⟨w.heap.size,0,none⟩) 1 1) (w.alloc (.cells (LN n).toArray 24)):=by kernel_rfl
theorem LN_one{n:Int}: ∀v∈LN n,v.oneCell'=true:=fun v hv=>by
 simp only[LN,List.mem_cons,List.not_mem_nil,or_false] at hv
 rcases hv with rfl | rfl | rfl | rfl<;>rfl
theorem flN_tk(ns:List Int)(j:Nat)(h:j<ns.length):flN (ns.take (j+1))=flN (ns.take j)++LN (ns.getD j 0):=by
 rw[List.take_succ_eq_append_getElem h,flN_app];simp[flN,List.getElem?_eq_getElem h]
theorem str_at(ss:List ByteArray)(j:Nat)(h:j<ss.length):(ss.map Value.string)[j]?=some (.string (ss.getD j ByteArray.empty)):=by
 simp[List.getElem?_eq_getElem h]
theorem add_drop4{xs zs:List Value}:xs++(zs.take 4)++(zs.drop 4)=xs++zs:=by rw[List.append_assoc,List.take_append_drop]
theorem Wi:EnT 66:=fun _ _=>by kernel_rfl
theorem Zi:EnT 20:=fun _ _=>by kernel_rfl
theorem cParsed(ss:List ByteArray)(ns:List Int)(b0 cap:Nat)(w:World)(hln:ns.length=ss.length)(h0:0<ss.length)(hle:ss.length<=20)(hlt:b0<w.heap.size)(hcv:Hid (CV w b0 (ss.map Value.string)))(hP:Hid (∀j,j<ss.length-> ∀u,CC 66 #[.string (ss.getD j ByteArray.empty)] u (.tuple #[NV (ns.getD j 0),iI 0]))):
 Calls Tryz.prog 41 #[.slice (some ⟨b0,0,none⟩) ss.length cap] w fun e w'=> ∃v,e= .returned v/\PS w.heap.size ns.length (flN ns) w' v/\Bw w w':=by
 go_enter Tryz.func41,Tryz.ntmps41
 have HB0:Bw w w:=Below.refl _ _
 have K0_1:=Bk.nil (w.heap.size) w
 go_upto_region 1 with fail
 refine Rn K0_1 HB0 [(0,3,_)] (oc g_as on) fun u1 HB1 _ K1=>?_
 simp only[sQ] at K1⊢
 go_upto_region 2 with fail
 refine Rn K1 HB1 (cG 0 8 [_,_,_] []) (oc g_mv<|oc (g_ln Tryz.underlying57)<|oc g_mv on) fun u2 HB2 _ K2=>?_
 simp only[sQ] at K2⊢
 go_wp2_with fail
 go_loopw [10,3] (fun s10 s3 wr=> ∃(j:Nat),j<=ss.length/\s10=iI (j:Int)/\((j=0/\s3= .slice none 0 0)\/ ∃b cap zs,s3= .slice (some ⟨b,0,none⟩) j cap/\w.heap.size<=b/\b<wr.heap.size/\j<=cap/\List.length (α:=Value) zs=(cap -j)*4/\Hid (CV wr b (flN (ns.take j)++zs)))/\Bw w wr) (fun s10 _ _=>ss.length -(intOf s10).toNat)
 case atStart=>exact⟨0,by omega,rfl,.inl ⟨rfl,rfl⟩,HB2⟩
 case round=>
  obtain⟨j,hj,rfl,hrow,HBr⟩:=hrel
  have hwr:=HBr.size
  by_cases hjl:j<ss.length
  ·have hl:decide ((j:Int)<(ss.length:Int))=true:=by simp;omega
   obtain⟨y,ey⟩: ∃y,ns.getD j 0=y:=⟨_,rfl⟩
   obtain⟨s,es⟩: ∃s,ss.getD j ByteArray.empty=s:=⟨_,rfl⟩
   have hy:=flN_tk ns j (by omega)
   have hC:=hP.out j hjl
   have hs:=str_at ss j hjl
   have hsl:=flN_len (ns.take j)
   rw[List.length_take,show min j ns.length=j by omega] at hsl
   rw[ey] at hy hC
   rw[es] at hC hs
   have hy:Hid _:=hy
   have hC:Hid _:=hC
   obtain⟨ti,hti,hm⟩:=Option.map_eq_some_iff.1 infoN
   simp only[Prod.mk.injEq] at hm
   obtain⟨hzv,hsz,hby⟩:=hm
   clear ey es
   rcases hrow with⟨hj0,rfl⟩ | ⟨b5,c5,zs,rfl,hb5,hl5,hjc,hzl,hC5⟩
   ·skip
    have K2_2:Bk w.heap.size wr [(false,b0,ss.map Value.string)]:=⟨.c (Nat.lt_of_lt_of_le hlt HBr.size) (hcv.out.below HBr hlt)<|trivial,by simp⟩
    go_upto_region 3 with fail
    refine Rn K2_2 HBr [(0,11,_)] (oc (g_bn (fun uZ=>Zg _ _ (j:Int) (ss.length:Int) _ uZ hl)) on) fun u3 HB3 sz3 K3=>?_
    simp only[sQ] at K3⊢
    go_upto_region 4 with fail
    refine Rp K3 HB3 [] [] [(0,12,_),(1,13,_),(2,5,_)] [] [] [false] (oc (g_ix (ixT b0 0 ss.length cap j hjl))<|oc (g_lv 0 (0+j) lT (by rw[Nat.zero_add];exact hs))<|oc g_as on) fun u4 HB4 sz4 K4=>?_
    simp only[sQ] at K4⊢
    go_upto_region 5 with fail
    refine Rp K4 HB4 [] [(5,6,L0s,some (6,LN y))] [(0,15,_),(1,16,_),(2,14,_),(3,17,_),(4,18,_),(7,7,_)] [(6,5)] [] [] (oc g_mv<|oc (g_cl Wi hC.out)<|oc g_mv<|oc g_ex<|oc g_ex<|oc (g_al 0 aN)<|oc (g_sn 0 iN)<|oc g_as on) fun u5 b5_5 HB5 sz5 K5=>?_
    simp only[sQ] at K5⊢
    go_upto_region 6 with fail
    refine Rf K5 HB5 [] [] [(0,19,_),(1,20,_)] [(4,0)] [(4,3)] [⟨2,21,some 3,P1 (LN y)⟩,⟨3,22,some 4,PG u5.heap.size ti.size (j+1) (flN (ns.take j)++LN y)⟩,⟨4,3,none,PG u5.heap.size ti.size (j+1) (flN (ns.take j)++LN y)⟩] [false] (oc g_mv<|oc (g_ld 0 uN iN)<|oc (g_bR 0 (P1 (LN y)) [0] [NV y] (LN y) (bsN1 _) (fun u hu=>P1.new _ _ u))<|oc (g_pG 0 1 (P1 (LN y)) (n:=j) (xs:=flN (ns.take j)) (news:=LN y) Tryz.underlying61 hti hzv (by rw[hsz];rfl) P1.at hsz.symm (fun f u kZ=>⟨by rw[hsz];omega,.inl ⟨rfl,hj0⟩⟩) (by rw[hby];omega) (by omega))<|oc (g_sE 1 2 (PG u5.heap.size ti.size (j+1) (flN (ns.take j)++LN y))) on) fun u6 v6_2 hv6_2 v6_3 hv6_3 v6_4 hv6_4 HB6 sz6 K6=>?_
    simp only[sQ] at K6⊢
    obtain⟨b6,c6,zs6,rfl,ho1,ho2,hc6,hz6,hoC⟩:=hv6_4 rfl
    have K6xrow6:=Bk.more3 K5 K6 ho1 ho2 hoC (by intro x hx;first | (simp at hx;done) | (simp at hx⊢;omega))
    simp only[aK] at K6xrow6
    rw[hsz] at hz6
    have hw6:w.heap.size<=b6:=by omega
    go_upto_region 7 with fail
    refine Rp K6xrow6 HB6 [] [] [(0,23,_),(1,10,_)] [(1,0)] [(1,10)] [] (oc (g_bn (fun uZ=>Zy _ _ (j:Int) 1 ((j+1:Nat):Int) uZ (by omega) (by omega) (by omega)))<|oc g_mv on) fun u7 HB7 sz7 K7=>?_
    simp only[sQ] at K7⊢
    go_wp2
    refine⟨⟨j+1,by omega,rfl,.inr ⟨b6,c6,zs6,rfl,hw6,(K7.lt 0),hc6,hz6,(by rw[hy.out];exact(K7.cv 0))⟩,HB7⟩,?_⟩
    simp[intOf]<;>omega
   ·by_cases hrm:j+1<=c5
    ·have hC5:CV wr b5 (flN (ns.take j)++zs.take 4++zs.drop 4):=by rw[add_drop4];exact hC5.out
     have K2_2:Bk w.heap.size wr [(false,b0,ss.map Value.string),(true,b5,flN (ns.take j)++zs.take 4++zs.drop 4)]:=⟨.c (Nat.lt_of_lt_of_le hlt HBr.size) (hcv.out.below HBr hlt)<| .o hl5 (by omega) hC5<|trivial,by simp;omega⟩
     go_upto_region 3 with fail
     refine Rn K2_2 HBr [(0,11,_)] (oc (g_bn (fun uZ=>Zg _ _ (j:Int) (ss.length:Int) _ uZ hl)) on) fun u3 HB3 sz3 K3=>?_
     simp only[sQ] at K3⊢
     go_upto_region 4 with fail
     refine Rp K3 HB3 [] [] [(0,12,_),(1,13,_),(2,5,_)] [] [] [false] (oc (g_ix (ixT b0 0 ss.length cap j hjl))<|oc (g_lv 0 (0+j) lT (by rw[Nat.zero_add];exact hs))<|oc g_as on) fun u4 HB4 sz4 K4=>?_
     simp only[sQ] at K4⊢
     go_upto_region 5 with fail
     refine Rp K4 HB4 [] [(5,6,L0s,some (6,LN y))] [(0,15,_),(1,16,_),(2,14,_),(3,17,_),(4,18,_),(7,7,_)] [(6,5)] [] [] (oc g_mv<|oc (g_cl Wi hC.out)<|oc g_mv<|oc g_ex<|oc g_ex<|oc (g_al 0 aN)<|oc (g_sn 0 iN)<|oc g_as on) fun u5 b5_5 HB5 sz5 K5=>?_
     simp only[sQ] at K5⊢
     go_upto_region 6 with fail
     refine Rf K5 HB5 [.all 3 (flN (ns.take j)++LN y++zs.drop 4)] [] [(0,19,_),(1,20,_),(3,22,_),(4,3,_)] [(4,0)] [(4,3)] [⟨2,21,some 3,P1 (LN y)⟩] [true,false] (oc g_mv<|oc (g_ld 1 uN iN)<|oc (g_bR 0 (P1 (LN y)) [0] [NV y] (LN y) (bsN1 _) (fun u hu=>P1.new _ _ u))<|oc (g_pI 0 0 (P1 (LN y)) (xs:=flN (ns.take j)) (ys:=zs.take 4) (zs:=zs.drop 4) (news:=LN y) Tryz.underlying61 hti P1.at LN_one hsz.symm (by rw[hsz];omega) (by rw[List.length_take];simp;omega) hrm)<|oc g_as on) fun u6 v6_2 hv6_2 HB6 sz6 K6=>?_
     simp only[sQ] at K6⊢
     go_upto_region 7 with fail
     refine Rp K6 HB6 [] [] [(0,23,_),(1,10,_)] [(1,0)] [(1,10)] [] (oc (g_bn (fun uZ=>Zy _ _ (j:Int) 1 ((j+1:Nat):Int) uZ (by omega) (by omega) (by omega)))<|oc g_mv on) fun u7 HB7 sz7 K7=>?_
     simp only[sQ] at K7⊢
     go_wp2
     refine⟨⟨j+1,by omega,rfl,.inr ⟨b5,c5,zs.drop 4,rfl,hb5,(K7.lt 0),hrm,(by rw[List.length_drop];omega),(by rw[hy.out];exact(K7.cv 0))⟩,HB7⟩,?_⟩
     simp[intOf]<;>omega
    ·have ec:j=c5:=by omega
     subst ec
     have K2_2:Bk w.heap.size wr [(false,b0,ss.map Value.string),(false,b5,flN (ns.take j)++zs)]:=⟨.c (Nat.lt_of_lt_of_le hlt HBr.size) (hcv.out.below HBr hlt)<| .c hl5 hC5.out<|trivial,by simp;omega⟩
     go_upto_region 3 with fail
     refine Rn K2_2 HBr [(0,11,_)] (oc (g_bn (fun uZ=>Zg _ _ (j:Int) (ss.length:Int) _ uZ hl)) on) fun u3 HB3 sz3 K3=>?_
     simp only[sQ] at K3⊢
     go_upto_region 4 with fail
     refine Rp K3 HB3 [] [] [(0,12,_),(1,13,_),(2,5,_)] [] [] [false] (oc (g_ix (ixT b0 0 ss.length cap j hjl))<|oc (g_lv 0 (0+j) lT (by rw[Nat.zero_add];exact hs))<|oc g_as on) fun u4 HB4 sz4 K4=>?_
     simp only[sQ] at K4⊢
     go_upto_region 5 with fail
     refine Rp K4 HB4 [] [(5,6,L0s,some (6,LN y))] [(0,15,_),(1,16,_),(2,14,_),(3,17,_),(4,18,_),(7,7,_)] [(6,5)] [] [] (oc g_mv<|oc (g_cl Wi hC.out)<|oc g_mv<|oc g_ex<|oc g_ex<|oc (g_al 0 aN)<|oc (g_sn 0 iN)<|oc g_as on) fun u5 b5_5 HB5 sz5 K5=>?_
     simp only[sQ] at K5⊢
     go_upto_region 6 with fail
     refine Rf K5 HB5 [] [] [(0,19,_),(1,20,_)] [(4,0)] [(4,3)] [⟨2,21,some 3,P1 (LN y)⟩,⟨3,22,some 4,PG u5.heap.size ti.size (j+1) (flN (ns.take j)++LN y)⟩,⟨4,3,none,PG u5.heap.size ti.size (j+1) (flN (ns.take j)++LN y)⟩] [false,false] (oc g_mv<|oc (g_ld 1 uN iN)<|oc (g_bR 0 (P1 (LN y)) [0] [NV y] (LN y) (bsN1 _) (fun u hu=>P1.new _ _ u))<|oc (g_pG 0 1 (P1 (LN y)) (n:=j) (xs:=flN (ns.take j)) (news:=LN y) Tryz.underlying61 hti hzv (by rw[hsz];rfl) P1.at hsz.symm (fun f u kZ=>⟨by rw[hsz];omega,.inr ⟨b5,rfl,(KC.cv kZ 0).pre2⟩⟩) (by rw[hby];omega) (by omega))<|oc (g_sE 1 2 (PG u5.heap.size ti.size (j+1) (flN (ns.take j)++LN y))) on) fun u6 v6_2 hv6_2 v6_3 hv6_3 v6_4 hv6_4 HB6 sz6 K6=>?_
     simp only[sQ] at K6⊢
     obtain⟨b6,c6,zs6,rfl,ho1,ho2,hc6,hz6,hoC⟩:=hv6_4 rfl
     have K6xrow6:=Bk.more3 K5 K6 ho1 ho2 hoC (by intro x hx;first | (simp at hx;done) | (simp at hx⊢;omega))
     simp only[aK] at K6xrow6
     rw[hsz] at hz6
     have hw6:w.heap.size<=b6:=by omega
     go_upto_region 7 with fail
     refine Rp K6xrow6 HB6 [] [] [(0,23,_),(1,10,_)] [(1,0)] [(1,10)] [] (oc (g_bn (fun uZ=>Zy _ _ (j:Int) 1 ((j+1:Nat):Int) uZ (by omega) (by omega) (by omega)))<|oc g_mv on) fun u7 HB7 sz7 K7=>?_
     simp only[sQ] at K7⊢
     go_wp2
     refine⟨⟨j+1,by omega,rfl,.inr ⟨b6,c6,zs6,rfl,hw6,(K7.lt 0),hc6,hz6,(by rw[hy.out];exact(K7.cv 0))⟩,HB7⟩,?_⟩
     simp[intOf]<;>omega
  ·have hl:decide ((j:Int)<(ss.length:Int))=false:=by simp;omega
   have hjn:j=ns.length:=by omega
   rcases hrow with⟨hj0,rfl⟩ | ⟨b5,c5,zs,rfl,hb5,hl5,hjc,hzl,hC5⟩
   ·omega
   have K2_2:Bk w.heap.size wr [(false,b5,flN (ns.take j)++zs)]:=⟨.c hl5 hC5.out<|trivial,by simp⟩
   go_upto_region 3 with fail
   refine Rn K2_2 HBr [(0,11,_)] (oc (g_bn (fun uZ=>Zg _ _ (j:Int) (ss.length:Int) _ uZ hl)) on) fun u3 HB3 sz3 K3=>?_
   simp only[sQ] at K3⊢
   go_upto_region 8 with fail
   refine Rn K3 HB3 [(0,24,_),(1,2,_)] (oc g_mv<|oc g_as on) fun u4 HB4 sz4 K4=>?_
   simp only[sQ] at K4⊢
   go_wp2
   refine bodyPost_ret (v:= .slice (some ⟨b5,0,none⟩) j c5) (by simp[results,Tryz.results41,go_sem]) rfl ⟨_,rfl,⟨b5,c5,by rw[hjn],hb5,K4.lt 0,by omega,by have:=(K4.cv 0).pre2;rwa [hjn,List.take_length] at this⟩,HB4⟩
def ss0:List ByteArray:=[⟨#[50,48,48,49,100]⟩,⟨#[50,50,97,49,102,54,49,49]⟩,⟨#[52,53,52,51,101,99,50,51]⟩]
def ns0:List Int:=[131101,581039633,1162079267]
theorem st0_0:(⟨#[50,48,48,49,100]⟩:ByteArray)=strOfNums [50,48,48,49,100]:=by kernel_rfl
theorem st0_1:(⟨#[50,50,97,49,102,54,49,49]⟩:ByteArray)=strOfNums [50,50,97,49,102,54,49,49]:=by kernel_rfl
theorem st0_2:(⟨#[52,53,52,51,101,99,50,51]⟩:ByteArray)=strOfNums [52,53,52,51,101,99,50,51]:=by kernel_rfl
theorem xps0: ∀j,j<ss0.length-> ∀u,CC 20 #[.string (ss0.getD j ByteArray.empty)] u (.tuple #[NV (ns0.getD j 0),iI 0]):=fun j hj u=>by
 have hj:j<3:=hj
 rcases (by omega:j=0\/j=1\/j=2) with rfl | rfl | rfl
 ·show CC 20 #[.string ⟨#[50,48,48,49,100]⟩] u (.tuple #[NV 131101,iI 0])
  rw[st0_0];exact rPs _ _ u (by decide) (by decide) (by unfold Yf;decide) (by decide) (by decide) (by decide) (by decide) (by kernel_rfl)
 ·show CC 20 #[.string ⟨#[50,50,97,49,102,54,49,49]⟩] u (.tuple #[NV 581039633,iI 0])
  rw[st0_1];exact rPs _ _ u (by decide) (by decide) (by unfold Yf;decide) (by decide) (by decide) (by decide) (by decide) (by kernel_rfl)
 ·show CC 20 #[.string ⟨#[52,53,52,51,101,99,50,51]⟩] u (.tuple #[NV 1162079267,iI 0])
  rw[st0_2];exact rPs _ _ u (by decide) (by decide) (by unfold Yf;decide) (by decide) (by decide) (by decide) (by decide) (by kernel_rfl)
def ss1:List ByteArray:=[⟨#[101,55,102,52,51]⟩,⟨#[50,52,49,99,102,56,51,48,97,51]⟩,⟨#[50,49,97,52,100,99,98,56,99,101,99,50,99,102,48,101,97,56,51]⟩,⟨#[50,49,52,97,99,52,49,56,101,56,101,100,101,56,53,48,50,56,55,56,53,53,101,55,53,101,102,53,53,48,49,57,97,57,56,101,51]⟩,⟨#[50,48,102,97,51,48,48,53,52,98,57,52,99,100,51,56,98,53,54,49,57,98,53,53,55,50,51,52,102,49,97,56,97,53,55,56,55,100,55,48,98,56,57,48,51,54,53,102,54,49,55,56,55,53,102,55,52,99,52,100,51,99,100,100]⟩,⟨#[52,49,102,52,54,48,48,97,57,55,50,57,57,97,55,49,54,97,99,51,51,54,97,97,101,52,54,57,101,51,53,49,52,97,102,48,102,97,101,49,55,49,50,48,54,99,98,101,99,50,102,48,101,98,101,101,57,56,57,97,55,57,98,98]⟩]
def ns1:List Int:=[950083,155104850083,9929954040762925640323,0x214ac418e8ede850287855e75ef55019a98e3,0x20fa30054b94cd38b5619b557234f1a8a5787d70b890365f617875f74c4d3cdd,0x41f4600a97299a716ac336aae469e3514af0fae171206cbec2f0ebee989a79bb]
theorem pr1_0:PR [101,55,102,52,51]= .tuple #[NV 950083,iI 0]:=by kernel_rfl
theorem st1_0:(⟨#[101,55,102,52,51]⟩:ByteArray)=strOfNums [101,55,102,52,51]:=by kernel_rfl
theorem pr1_1:PR [50,52,49,99,102,56,51,48,97,51]= .tuple #[NV 155104850083,iI 0]:=by kernel_rfl
theorem st1_1:(⟨#[50,52,49,99,102,56,51,48,97,51]⟩:ByteArray)=strOfNums [50,52,49,99,102,56,51,48,97,51]:=by kernel_rfl
theorem pr1_2:PR [50,49,97,52,100,99,98,56,99,101,99,50,99,102,48,101,97,56,51]= .tuple #[NV 9929954040762925640323,iI 0]:=by kernel_rfl
theorem st1_2:(⟨#[50,49,97,52,100,99,98,56,99,101,99,50,99,102,48,101,97,56,51]⟩:ByteArray)=strOfNums [50,49,97,52,100,99,98,56,99,101,99,50,99,102,48,101,97,56,51]:=by kernel_rfl
theorem pr1_3:PR [50,49,52,97,99,52,49,56,101,56,101,100,101,56,53,48,50,56,55,56,53,53,101,55,53,101,102,53,53,48,49,57,97,57,56,101,51]= .tuple #[NV 0x214ac418e8ede850287855e75ef55019a98e3,iI 0]:=by kernel_rfl
theorem st1_3:(⟨#[50,49,52,97,99,52,49,56,101,56,101,100,101,56,53,48,50,56,55,56,53,53,101,55,53,101,102,53,53,48,49,57,97,57,56,101,51]⟩:ByteArray)=strOfNums [50,49,52,97,99,52,49,56,101,56,101,100,101,56,53,48,50,56,55,56,53,53,101,55,53,101,102,53,53,48,49,57,97,57,56,101,51]:=by kernel_rfl
theorem pr1_4:PR [50,48,102,97,51,48,48,53,52,98,57,52,99,100,51,56,98,53,54,49,57,98,53,53,55,50,51,52,102,49,97,56,97,53,55,56,55,100,55,48,98,56,57,48,51,54,53,102,54,49,55,56,55,53,102,55,52,99,52,100,51,99,100,100]= .tuple #[NV 0x20fa30054b94cd38b5619b557234f1a8a5787d70b890365f617875f74c4d3cdd,iI 0]:=by kernel_rfl
theorem st1_4:(⟨#[50,48,102,97,51,48,48,53,52,98,57,52,99,100,51,56,98,53,54,49,57,98,53,53,55,50,51,52,102,49,97,56,97,53,55,56,55,100,55,48,98,56,57,48,51,54,53,102,54,49,55,56,55,53,102,55,52,99,52,100,51,99,100,100]⟩:ByteArray)=strOfNums [50,48,102,97,51,48,48,53,52,98,57,52,99,100,51,56,98,53,54,49,57,98,53,53,55,50,51,52,102,49,97,56,97,53,55,56,55,100,55,48,98,56,57,48,51,54,53,102,54,49,55,56,55,53,102,55,52,99,52,100,51,99,100,100]:=by kernel_rfl
theorem pr1_5:PR [52,49,102,52,54,48,48,97,57,55,50,57,57,97,55,49,54,97,99,51,51,54,97,97,101,52,54,57,101,51,53,49,52,97,102,48,102,97,101,49,55,49,50,48,54,99,98,101,99,50,102,48,101,98,101,101,57,56,57,97,55,57,98,98]= .tuple #[NV 0x41f4600a97299a716ac336aae469e3514af0fae171206cbec2f0ebee989a79bb,iI 0]:=by kernel_rfl
theorem st1_5:(⟨#[52,49,102,52,54,48,48,97,57,55,50,57,57,97,55,49,54,97,99,51,51,54,97,97,101,52,54,57,101,51,53,49,52,97,102,48,102,97,101,49,55,49,50,48,54,99,98,101,99,50,102,48,101,98,101,101,57,56,57,97,55,57,98,98]⟩:ByteArray)=strOfNums [52,49,102,52,54,48,48,97,57,55,50,57,57,97,55,49,54,97,99,51,51,54,97,97,101,52,54,57,101,51,53,49,52,97,102,48,102,97,101,49,55,49,50,48,54,99,98,101,99,50,102,48,101,98,101,101,57,56,57,97,55,57,98,98]:=by kernel_rfl
theorem cps1: ∀j,j<ss1.length-> ∀u,CC 66 #[.string (ss1.getD j ByteArray.empty)] u (.tuple #[NV (ns1.getD j 0),iI 0]):=fun j hj u=>by
 have hj:j<6:=hj
 rcases (by omega:j=0\/j=1\/j=2\/j=3\/j=4\/j=5) with rfl | rfl | rfl | rfl | rfl | rfl
 ·show CC 66 #[.string ⟨#[101,55,102,52,51]⟩] u (.tuple #[NV 950083,iI 0])
  rw[st1_0,<-pr1_0];exact Wq _ (by unfold Yf;decide) (by decide) u
 ·show CC 66 #[.string ⟨#[50,52,49,99,102,56,51,48,97,51]⟩] u (.tuple #[NV 155104850083,iI 0])
  rw[st1_1,<-pr1_1];exact Wq _ (by unfold Yf;decide) (by decide) u
 ·show CC 66 #[.string ⟨#[50,49,97,52,100,99,98,56,99,101,99,50,99,102,48,101,97,56,51]⟩] u (.tuple #[NV 9929954040762925640323,iI 0])
  rw[st1_2,<-pr1_2];exact Wq _ (by unfold Yf;decide) (by decide) u
 ·show CC 66 #[.string ⟨#[50,49,52,97,99,52,49,56,101,56,101,100,101,56,53,48,50,56,55,56,53,53,101,55,53,101,102,53,53,48,49,57,97,57,56,101,51]⟩] u (.tuple #[NV 0x214ac418e8ede850287855e75ef55019a98e3,iI 0])
  rw[st1_3,<-pr1_3];exact Wq _ (by unfold Yf;decide) (by decide) u
 ·show CC 66 #[.string ⟨#[50,48,102,97,51,48,48,53,52,98,57,52,99,100,51,56,98,53,54,49,57,98,53,53,55,50,51,52,102,49,97,56,97,53,55,56,55,100,55,48,98,56,57,48,51,54,53,102,54,49,55,56,55,53,102,55,52,99,52,100,51,99,100,100]⟩] u (.tuple #[NV 0x20fa30054b94cd38b5619b557234f1a8a5787d70b890365f617875f74c4d3cdd,iI 0])
  rw[st1_4,<-pr1_4];exact Wq _ (by unfold Yf;decide) (by decide) u
 ·show CC 66 #[.string ⟨#[52,49,102,52,54,48,48,97,57,55,50,57,57,97,55,49,54,97,99,51,51,54,97,97,101,52,54,57,101,51,53,49,52,97,102,48,102,97,101,49,55,49,50,48,54,99,98,101,99,50,102,48,101,98,101,101,57,56,57,97,55,57,98,98]⟩] u (.tuple #[NV 0x41f4600a97299a716ac336aae469e3514af0fae171206cbec2f0ebee989a79bb,iI 0])
  rw[st1_5,<-pr1_5];exact Wq _ (by unfold Yf;decide) (by decide) u
theorem xps1: ∀j,j<ss1.length-> ∀u,CC 20 #[.string (ss1.getD j ByteArray.empty)] u (.tuple #[NV (ns1.getD j 0),iI 0]):=fun j hj u=>by
 have hj:j<6:=hj
 rcases (by omega:j=0\/j=1\/j=2\/j=3\/j=4\/j=5) with rfl | rfl | rfl | rfl | rfl | rfl
 ·show CC 20 #[.string ⟨#[101,55,102,52,51]⟩] u (.tuple #[NV 950083,iI 0])
  rw[st1_0,<-pr1_0];exact Xt _ (by unfold Yf;decide) (by decide) u
 ·show CC 20 #[.string ⟨#[50,52,49,99,102,56,51,48,97,51]⟩] u (.tuple #[NV 155104850083,iI 0])
  rw[st1_1,<-pr1_1];exact Xt _ (by unfold Yf;decide) (by decide) u
 ·show CC 20 #[.string ⟨#[50,49,97,52,100,99,98,56,99,101,99,50,99,102,48,101,97,56,51]⟩] u (.tuple #[NV 9929954040762925640323,iI 0])
  rw[st1_2,<-pr1_2];exact Xt _ (by unfold Yf;decide) (by decide) u
 ·show CC 20 #[.string ⟨#[50,49,52,97,99,52,49,56,101,56,101,100,101,56,53,48,50,56,55,56,53,53,101,55,53,101,102,53,53,48,49,57,97,57,56,101,51]⟩] u (.tuple #[NV 0x214ac418e8ede850287855e75ef55019a98e3,iI 0])
  rw[st1_3,<-pr1_3];exact Xt _ (by unfold Yf;decide) (by decide) u
 ·show CC 20 #[.string ⟨#[50,48,102,97,51,48,48,53,52,98,57,52,99,100,51,56,98,53,54,49,57,98,53,53,55,50,51,52,102,49,97,56,97,53,55,56,55,100,55,48,98,56,57,48,51,54,53,102,54,49,55,56,55,53,102,55,52,99,52,100,51,99,100,100]⟩] u (.tuple #[NV 0x20fa30054b94cd38b5619b557234f1a8a5787d70b890365f617875f74c4d3cdd,iI 0])
  rw[st1_4,<-pr1_4];exact Xt _ (by unfold Yf;decide) (by decide) u
 ·show CC 20 #[.string ⟨#[52,49,102,52,54,48,48,97,57,55,50,57,57,97,55,49,54,97,99,51,51,54,97,97,101,52,54,57,101,51,53,49,52,97,102,48,102,97,101,49,55,49,50,48,54,99,98,101,99,50,102,48,101,98,101,101,57,56,57,97,55,57,98,98]⟩] u (.tuple #[NV 0x41f4600a97299a716ac336aae469e3514af0fae171206cbec2f0ebee989a79bb,iI 0])
  rw[st1_5,<-pr1_5];exact Xt _ (by unfold Yf;decide) (by decide) u
theorem CV.nil(u:World)(b:Nat):CV u b []:=fun j v hj=>by simp at hj
theorem bsS3(a b c:ByteArray)(w:World):(Instr.buildSlice 57 3 ([0,1,2].zip [.string a,.string b,.string c]).toArray).run Tryz.prog w= .ok (.slice (some ⟨w.heap.size,0,none⟩) 3 3) (w.alloc (.cells ([a,b,c].map Value.string).toArray 9)):=by kernel_rfl
theorem bsS6(a b c d e f:ByteArray)(w:World):(Instr.buildSlice 57 6 ([0,1,2,3,4,5].zip [.string a,.string b,.string c,.string d,.string e,.string f]).toArray).run Tryz.prog w= .ok (.slice (some ⟨w.heap.size,0,none⟩) 6 6) (w.alloc (.cells ([a,b,c,d,e,f].map Value.string).toArray 9)):=by kernel_rfl
theorem bsC0p(w:World):(Instr.buildSlice 31 0 #[]).run Tryz.prog w= .ok (.slice (some ⟨w.heap.size,0,none⟩) 0 0) (w.alloc (.cells #[] 48)):=by kernel_rfl
theorem bdXp(x:Int)(h0:0<=x)(h1:x<18446744073709551616)(w:World):(Instr.build 24 [(0,iU x)].toArray).run Tryz.prog w= .ok (NV x) w:=by
 rw[Vs h0 h1];kernel_rfl
theorem cPrimes1(w:World):Calls Tryz.prog 24 #[iI 1] w fun e w'=> ∃v,e= .returned v/\PS w.heap.size 6 (flN ns1) w' v/\Bw w w':=by
 go_enter Tryz.func24,Tryz.ntmps24
 have HB0:Bw w w:=Below.refl _ _
 have K0_1:=Bk.nil (w.heap.size) w
 go_upto_region 1 with fail
 refine Rn K0_1 HB0 [(0,3,_)] (oc g_mv on) fun u1 HB1 _ K1=>?_
 simp only[sQ] at K1⊢
 go_upto_region 2 with fail
 refine Rn K1 HB1 [(0,5,_),(1,4,_)] (oc (g_bn (fun uZ=>Vb _ _ _ 1 0 _ uZ rfl))<|oc g_as on) fun u2 HB2 _ K2=>?_
 simp only[sQ] at K2⊢
 go_upto_region 4 with fail
 refine Rn K2 HB2 [(0,11,_),(1,10,_)] (oc (g_bn (fun uZ=>Vb _ _ _ 1 1 _ uZ rfl))<|oc g_as on) fun u3 HB3 _ K3=>?_
 simp only[sQ] at K3⊢
 go_upto_region 5 with fail
 refine Rf K3 HB3 [] [] [] [] [] [⟨0,12,some 1,PS u3.heap.size 6 (ss1.map Value.string)⟩,⟨1,13,some 2,PS u3.heap.size 6 (flN ns1)⟩,⟨2,2,none,PS u3.heap.size 6 (flN ns1)⟩] [] (hst:=(.cons (fun _ _ _ h1 h2=>h2.stab h1)<| .cons (fun _ _ _ h1 h2=>h2.stab h1)<| .cons (fun _ _ _ h1 h2=>h2.stab h1)<|Stab.nil)) (oc (g_bR 0 (PS u3.heap.size 6 (ss1.map Value.string)) [0,1,2,3,4,5] [.string ⟨#[101,55,102,52,51]⟩,.string ⟨#[50,52,49,99,102,56,51,48,97,51]⟩,.string ⟨#[50,49,97,52,100,99,98,56,99,101,99,50,99,102,48,101,97,56,51]⟩,.string ⟨#[50,49,52,97,99,52,49,56,101,56,101,100,101,56,53,48,50,56,55,56,53,53,101,55,53,101,102,53,53,48,49,57,97,57,56,101,51]⟩,.string ⟨#[50,48,102,97,51,48,48,53,52,98,57,52,99,100,51,56,98,53,54,49,57,98,53,53,55,50,51,52,102,49,97,56,97,53,55,56,55,100,55,48,98,56,57,48,51,54,53,102,54,49,55,56,55,53,102,55,52,99,52,100,51,99,100,100]⟩,.string ⟨#[52,49,102,52,54,48,48,97,57,55,50,57,57,97,55,49,54,97,99,51,51,54,97,97,101,52,54,57,101,51,53,49,52,97,102,48,102,97,101,49,55,49,50,48,54,99,98,101,99,50,102,48,101,98,101,101,57,56,57,97,55,57,98,98]⟩] (ss1.map Value.string) (bsS6 _ _ _ _ _ _) (fun u hu=>PS.new 6 _ _ u hu))<|oc (g_cF 0 1 (PS u3.heap.size 6 (ss1.map Value.string)) (PS u3.heap.size 6 (flN ns1)) ent_cert_parsed (fun u y hB hs h=>by obtain⟨b,cap,rfl,_,hlt,_,hcv⟩:=h;exact(cParsed ss1 ns1 b cap u rfl (by decide) (by decide) hlt hcv cps1).mono fun e u2 ⟨v,e1,h1,h2⟩=>⟨v,e1,h1.mono hs,h2⟩))<|oc (g_sE 1 2 (PS u3.heap.size 6 (flN ns1))) on) fun u4 v4_0 hv4_0 v4_1 hv4_1 v4_2 hv4_2 HB4 _ K4=>?_
 simp only[sQ] at K4⊢
 have hP:=hv4_2 rfl
 go_wp2
 refine bodyPost_ret (v:=v4_2) (by simp[results,Tryz.results24,go_sem]) rfl ⟨_,rfl,hP.mono (by omega),HB4⟩
theorem cPrimes_bad(k:Int)(w:World)(k0:(k==0)=false)(k1:(k==1)=false):CC 24 #[iI k] w (.slice none 0 0):=by
 go_enter Tryz.func24,Tryz.ntmps24
 have HB0:Bw w w:=Below.refl _ _
 have K0_1:=Bk.nil (w.heap.size) w
 go_upto_region 1 with fail
 refine Rn K0_1 HB0 [(0,3,_)] (oc g_mv on) fun u1 HB1 _ K1=>?_
 simp only[sQ] at K1⊢
 go_upto_region 2 with fail
 refine Rn K1 HB1 [(0,5,_),(1,4,_)] (oc (g_bn (fun uZ=>Vb _ _ _ k 0 _ uZ k0))<|oc g_as on) fun u2 HB2 _ K2=>?_
 simp only[sQ] at K2⊢
 go_upto_region 4 with fail
 refine Rn K2 HB2 [(0,11,_),(1,10,_)] (oc (g_bn (fun uZ=>Vb _ _ _ k 1 _ uZ k1))<|oc g_as on) fun u3 HB3 _ K3=>?_
 simp only[sQ] at K3⊢
 go_upto_region 6 with fail
 refine Rn K3 HB3 [(0,2,_)] (oc g_as on) fun u4 HB4 _ K4=>?_
 simp only[sQ] at K4⊢
 go_wp2
 refine bodyPost_ret (v:= .slice none 0 0) (by simp[results,Tryz.results24,go_sem,]) rfl ⟨rfl,HB4⟩
theorem cNumbers_bad(k:Int)(w:World)(k0:(k==0)=false)(k1:(k==1)=false):CC 9 #[iI k] w (.tuple #[A4 0 0 0 0,A4 0 0 0 0,iI 2]):=by
 go_enter Tryz.func9,Tryz.ntmps9
 go_upto_region 1 with fail
 obtain⟨v0,hC,HB0,K0⟩:=bx2 w L0s 24 L0s 24
 rw[hC]
 clear hC
 refine Rn K0 HB0 [(0,6,_),(1,7,_),(2,5,_)] (oc g_mv<|oc (g_cl Vl (fun uZ=>cPrimes_bad k uZ k0 k1))<|oc g_as on) fun u1 HB1 _ K1=>?_
 simp only[sQ] at K1⊢
 go_upto_region 2 with fail
 refine Rn K1 HB1 (cG 0 8 [_,_,_] []) (oc g_mv<|oc (g_ln Tryz.underlying61)<|oc (g_bn (fun uZ=>Vb _ _ _ 0 0 _ uZ rfl)) on) fun u2 HB2 _ K2=>?_
 simp only[sQ] at K2⊢
 go_upto_region 3 with fail
 refine Rp K2 HB2 [.all 2 ([iU (0),iU (0),iU (0),iU (0)]),.all 3 ([iU (0),iU (0),iU (0),iU (0)])] [] [(0,11,_),(1,12,_),(4,4,_)] [] [] [] (oc (g_bd zN)<|oc (g_bd zN)<|oc (g_st 0 iN)<|oc (g_st 1 iN)<|oc g_as on) fun u3 HB3 _ K3=>?_
 simp only[sQ] at K3⊢
 have c2:=(K3.cv 0).n4
 have c3:=(K3.cv 1).n4
 go_wp2
 refine bodyPost_ret (v:= .tuple #[A4 0 0 0 0,A4 0 0 0 0,iI 2]) (by simp[results,Tryz.results9,go_sem,c2,c3]) rfl ⟨rfl,HB3⟩
theorem xChain_bad(k:Int)(w:World)(k0:(k==0)=false)(k1:(k==1)=false):CC 7 #[iI k] w (.tuple #[.slice none 0 0,iI 2]):=by
 go_enter Tryz.func7,Tryz.ntmps7
 have HB0:Bw w w:=Below.refl _ _
 have K0_1:=Bk.nil (w.heap.size) w
 go_upto_region 1 with fail
 refine Rf K0_1 HB0 [] [] [] [] [] [⟨0,11,some 1,PS w.heap.size 3 (ss0.map Value.string)⟩,⟨1,4,none,PS w.heap.size 3 (ss0.map Value.string)⟩] [] (hst:=(.cons (fun _ _ _ h1 h2=>h2.stab h1)<| .cons (fun _ _ _ h1 h2=>h2.stab h1)<|Stab.nil)) (oc (g_bR 0 (PS w.heap.size 3 (ss0.map Value.string)) [0,1,2] [.string ⟨#[50,48,48,49,100]⟩,.string ⟨#[50,50,97,49,102,54,49,49]⟩,.string ⟨#[52,53,52,51,101,99,50,51]⟩] (ss0.map Value.string) (bsS3 _ _ _) (fun u hu=>PS.new 3 _ _ u hu))<|oc (g_sE 0 1 (PS w.heap.size 3 (ss0.map Value.string))) on) fun u1 v1_0 hv1_0 v1_1 hv1_1 HB1 _ K1=>?_
 simp only[sQ] at K1⊢
 obtain⟨bS,cS,rfl,-⟩:=hv1_1 rfl
 go_upto_region 2 with fail
 refine Rn K1 HB1 [(0,12,_),(1,13,_)] (oc g_mv<|oc (g_bn (fun uZ=>Vb _ _ _ k 1 _ uZ k1)) on) fun u2 HB2 _ K2=>?_
 simp only[sQ] at K2⊢
 obtain⟨b1,e1⟩: ∃b,decide (k<0)=b:=⟨_,rfl⟩
 cases b1
 ·have e2:decide (1<k)=true:=by simp at e1 k0 k1⊢;omega
  go_upto_region 4 with fail
  refine Rn K2 HB2 (cG 0 15 [_,_,_,_,_,_] []) (oc g_mv<|oc (g_bn (fun uZ=>Zg _ _ k 0 _ uZ e1))<|oc g_mv<|oc g_mv<|oc (g_bn (fun uZ=>Ww _ _ k 1 _ uZ e2))<|oc g_pk on) fun u3 HB3 sz3 K3=>?_
  simp only[sQ] at K3⊢
  go_upto_region 5 with fail
  refine Rn K3 HB3 [(0,2,_),(1,3,_)] (oc g_as<|oc g_as on) fun u4 HB4 sz4 K4=>?_
  simp only[sQ] at K4⊢
  go_wp2
  refine bodyPost_ret (v:= .tuple #[.slice none 0 0,iI 2]) (by simp[results,Tryz.results7,go_sem,]) rfl ⟨rfl,HB4⟩
 ·skip
  go_upto_region 4 with fail
  refine Rn K2 HB2 (cG 0 15 [_,_,_,undef,undef,_] []) (oc g_mv<|oc (g_bn (fun uZ=>Zg _ _ k 0 _ uZ e1))<|oc g_mv<|oc g_sk<|oc g_sk<|oc g_pk on) fun u3 HB3 sz3 K3=>?_
  simp only[sQ] at K3⊢
  go_upto_region 5 with fail
  refine Rn K3 HB3 [(0,2,_),(1,3,_)] (oc g_as<|oc g_as on) fun u4 HB4 sz4 K4=>?_
  simp only[sQ] at K4⊢
  go_wp2
  refine bodyPost_ret (v:= .tuple #[.slice none 0 0,iI 2]) (by simp[results,Tryz.results7,go_sem,]) rfl ⟨rfl,HB4⟩
theorem xChain0(w:World):Calls Tryz.prog 7 #[iI 0] w fun e w'=> ∃v,e= .returned v/\PT 0 w.heap.size 2 (flC (stp ns0 2)) w' v/\Bw w w':=by
 go_enter Tryz.func7,Tryz.ntmps7
 have HB0:Bw w w:=Below.refl _ _
 have K0_1:=Bk.nil (w.heap.size) w
 go_upto_region 1 with fail
 refine Rf K0_1 HB0 [] [] [] [] [] [⟨0,11,some 1,PS w.heap.size 3 (ss0.map Value.string)⟩,⟨1,4,none,PS w.heap.size 3 (ss0.map Value.string)⟩] [] (hst:=(.cons (fun _ _ _ h1 h2=>h2.stab h1)<| .cons (fun _ _ _ h1 h2=>h2.stab h1)<|Stab.nil)) (oc (g_bR 0 (PS w.heap.size 3 (ss0.map Value.string)) [0,1,2] [.string ⟨#[50,48,48,49,100]⟩,.string ⟨#[50,50,97,49,102,54,49,49]⟩,.string ⟨#[52,53,52,51,101,99,50,51]⟩] (ss0.map Value.string) (bsS3 _ _ _) (fun u hu=>PS.new 3 _ _ u hu))<|oc (g_sE 0 1 (PS w.heap.size 3 (ss0.map Value.string))) on) fun u1 v1_0 hv1_0 v1_1 hv1_1 HB1 _ K1=>?_
 simp only[sQ] at K1⊢
 obtain⟨bS,cS,rfl,ho1,ho2,hcS,hoC⟩:=hv1_1 rfl
 have K1xstr:=Bk.more3 K0_1 K1 ho1 ho2 hoC (by intro x hx;first | (simp at hx;done) | (simp at hx⊢;omega))
 simp only[aK] at K1xstr
 go_upto_region 2 with fail
 refine Rn K1xstr HB1 [(0,12,_),(1,13,_)] (oc g_mv<|oc (g_bn (fun uZ=>Vb _ _ _ 0 1 _ uZ rfl)) on) fun u2 HB2 _ K2=>?_
 simp only[sQ] at K2⊢
 have hSw:w.heap.size<=bS:=by omega
 go_upto_region 4 with fail
 refine Rn K2 HB2 (cG 0 15 [_,_,_,_,_,_] []) (oc g_mv<|oc (g_bn (fun uZ=>Zg _ _ 0 0 _ uZ rfl))<|oc g_mv<|oc g_mv<|oc (g_bn (fun uZ=>Ww _ _ 0 1 _ uZ rfl))<|oc g_pk on) fun u3 HB3 _ K3=>?_
 simp only[sQ] at K3⊢
 go_upto_region 6 with fail
 refine Rf K3 HB3 [] [] [] [] [] [⟨0,21,some 1,PZ u3.heap.size⟩,⟨1,5,none,PZ u3.heap.size⟩] [] (hst:=(.cons (fun _ _ _ h1 h2=>h2.stab h1)<| .cons (fun _ _ _ h1 h2=>h2.stab h1)<|Stab.nil)) (oc (g_bs 0 (PZ u3.heap.size) bsC0p (fun u hu=>PZ.new hu))<|oc (g_sE 0 1 (PZ u3.heap.size)) on) fun u4 v4_0 hv4_0 v4_1 hv4_1 HB4 _ K4=>?_
 simp only[sQ] at K4⊢
 have hbSl:=K3.lt 0
 obtain⟨bz,rfl,ho1,ho2⟩:=hv4_1 rfl
 have K4xrow:=Bk.more3 K3 K4 ho1 ho2 (CV.nil _ _) (by intro x hx;first | (simp at hx;done) | (simp at hx⊢;omega))
 simp only[aK] at K4xrow
 have hb50:w.heap.size<=bz:=by omega
 have hb5S:bz≠bS:=by omega
 go_upto_region 7 with fail
 refine Rn K4xrow HB4 [(0,6,_)] (oc g_as on) fun u5 HB5 _ K5=>?_
 simp only[sQ] at K5⊢
 go_wp2_with fail
 go_loopw [6,5] (fun s6 s5 wr=> ∃(j:Nat),j<=2/\s6=iI ((j+1:Nat):Int)/\(∃b cap zs,s5= .slice (some ⟨b,0,none⟩) j cap/\w.heap.size<=b/\b<wr.heap.size/\b≠bS/\j<=cap/\List.length (α:=Value) zs=(cap -j)*12/\Hid (CV wr b (flC (stp ns0 j)++zs)))/\Bw w wr/\Hid (CV wr bS (ss0.map Value.string))/\bS<wr.heap.size) (fun s6 _ _=>3 -(intOf s6).toNat)
 case atStart=>exact⟨0,by omega,rfl,⟨bz,0,[],rfl,hb50,(K5.lt 1),hb5S,Nat.le_refl _,rfl,(K5.cv 1)⟩,HB5,(K5.cv 0),(K5.lt 0)⟩
 case round=>
  obtain⟨j,hj,rfl,hrow,HBr,hKL,hLr⟩:=hrel
  have hwr:=HBr.size
  obtain⟨b5,c5,zs,rfl,hb5,hl5,hbl,hjc,hzl,hC5⟩:=hrow
  by_cases hjl:j<2
  ·have hl:decide (((j+1:Nat):Int)<3)=true:=by simp;omega
   obtain⟨y,ey⟩: ∃y,ns0.getD (j+1) 0=y:=⟨_,rfl⟩
   obtain⟨z,ez⟩: ∃z,ns0.getD j 0=z:=⟨_,rfl⟩
   obtain⟨s,es⟩: ∃s,ss0.getD (j+1) ByteArray.empty=s:=⟨_,rfl⟩
   obtain⟨t,et⟩: ∃t,ss0.getD j ByteArray.empty=t:=⟨_,rfl⟩
   have hln:ss0.length=3:=rfl
   have hCy:=xps0 (j+1) (by omega)
   have hCz:=xps0 j (by omega)
   have hs:=str_at ss0 (j+1) (by omega)
   have ht:=str_at ss0 j (by omega)
   have hf:=flC_stp ns0 j
   have hsl:=flC_len (stp ns0 j)
   rw[stp_len] at hsl
   rw[ey] at hCy hf
   rw[ez] at hCz hf
   rw[es] at hCy hs
   rw[et] at hCz ht
   have hCy:Hid _:=hCy
   have hCz:Hid _:=hCz
   have hf:Hid _:=hf
   have hz1:((j+1:Nat):Int) -1=(j:Int):=by omega
   obtain⟨ti,hti,hm⟩:=Option.map_eq_some_iff.1 infoC
   simp only[Prod.mk.injEq] at hm
   obtain⟨hzv,hsz,hby⟩:=hm
   clear ey ez es et
   by_cases hrm:j+1<=c5
   ·have hC5:CV wr b5 (flC (stp ns0 j)++zs.take 12++zs.drop 12):=by rw[add_drop (news:=[])];exact hC5.out
    have hnK:=K5.n
    simp at hnK
    have K5_2:Bk w.heap.size wr [(false,bS,ss0.map Value.string),(true,b5,flC (stp ns0 j)++zs.take 12++zs.drop 12)]:=⟨.c hLr hKL.out<| .o hl5 (by omega) hC5<|trivial,by simp;omega⟩
    go_upto_region 8 with fail
    refine Rn K5_2 HBr (cG 0 22 [_,_,_,_] []) (oc g_mv<|oc g_mv<|oc (g_ln Tryz.underlying57)<|oc (g_bn (fun uZ=>Zg _ _ ((j+1:Nat):Int) ((3:Nat):Int) _ uZ hl)) on) fun u6 HB6 sz6 K6=>?_
    simp only[sQ] at K6⊢
    go_upto_region 10 with fail
    refine Rp K6 HB6 [] [(9,7,L0s,some (10,LN z))] (cG 0 29 [_,_,_,_,_,_] [(6,28,_),(7,35,_),(8,36,_),(11,8,_)]) [(10,9)] [] [] (oc g_mv<|oc g_mv<|oc (g_bn (fun uZ=>Y6 _ _ ((j+1:Nat):Int) 1 (j:Int) uZ hz1 (by omega) (by omega)))<|oc (g_ix (fun uZ=>ixT bS 0 3 cS j (by omega) uZ))<|oc (g_lv 0 (0+j) lT (by rw[Nat.zero_add];exact ht))<|oc (g_cl Zi hCz.out)<|oc g_mv<|oc g_ex<|oc g_ex<|oc (g_al 0 aN)<|oc (g_sn 0 iN)<|oc g_as on) fun u7 b7_9 HB7 sz7 K7=>?_
    simp only[sQ] at K7⊢
    go_upto_region 11 with fail
    refine Rp K7 HB7 [] [(8,9,L0s,some (9,LN y))] (cG 0 38 [_,_,_,_,_] [(5,37,_),(6,43,_),(7,44,_),(10,10,_)]) [(9,8)] [] [] (oc g_mv<|oc g_mv<|oc (g_ix (fun uZ=>ixT bS 0 3 cS (j+1) (by omega) uZ))<|oc (g_lv 0 (0+(j+1)) lT (by rw[Nat.zero_add];exact hs))<|oc (g_cl Zi hCy.out)<|oc g_mv<|oc g_ex<|oc g_ex<|oc (g_al 0 aN)<|oc (g_sn 0 iN)<|oc g_as on) fun u8 b8_8 HB8 sz8 K8=>?_
    simp only[sQ] at K8⊢
    go_upto_region 12 with fail
    refine Rf K8 HB8 [.no,.all 6 (flC (stp ns0 j)++CE y z 2++zs.drop 12)] [] (cG 0 45 [_,_,_,_,_] [(6,51,_),(7,5,_)]) [(7,0)] [(7,5)] [⟨5,50,some 6,P1 (CE y z 2)⟩] [true,true,false,false] (oc g_mv<|oc (g_ld 3 uN iN)<|oc (g_ld 2 uN iN)<|oc (g_bd (fun uZ=>bdXp 2 (by omega) (by omega) uZ))<|oc (g_bd (bdC _ _ _))<|oc (g_bR 0 (P1 (CE y z 2)) [0] [CX y z 2] (CE y z 2) (bsC1 _ _ _) (fun u hu=>P1.new _ _ u))<|oc (g_pI 1 0 (P1 (CE y z 2)) (xs:=flC (stp ns0 j)) (ys:=zs.take 12) (zs:=zs.drop 12) (news:=CE y z 2) Tryz.underlying31 hti P1.at CE_one hsz.symm (by rw[hsz];exact hsl) (by rw[List.length_take];simp;omega) hrm)<|oc g_as on) fun u9 v9_5 hv9_5 HB9 sz9 K9=>?_
    simp only[sQ] at K9⊢
    go_upto_region 9 with fail
    refine Rp K9 HB9 [] [] [(0,26,_),(1,27,_),(2,6,_)] [(2,0)] [(2,6)] [] (oc g_mv<|oc (g_bn (fun uZ=>Zy _ _ ((j+1:Nat):Int) 1 ((j+1+1:Nat):Int) uZ (by omega) (by omega) (by omega)))<|oc g_as on) fun u10 HB10 sz10 K10=>?_
    simp only[sQ] at K10⊢
    go_wp2
    refine⟨⟨j+1,by omega,rfl,⟨b5,c5,zs.drop 12,rfl,hb5,(K10.lt 1),hbl,hrm,(by rw[List.length_drop];omega),(by rw[hf.out];exact(K10.cv 1))⟩,HB10,(K10.cv 0),(K10.lt 0)⟩,?_⟩
    simp[intOf]<;>omega
   ·have ec:j=c5:=by omega
    subst ec
    have hnK:=K5.n
    simp at hnK
    have K5_2:Bk w.heap.size wr [(false,bS,ss0.map Value.string),(false,b5,flC (stp ns0 j)++zs)]:=⟨.c hLr hKL.out<| .c hl5 hC5.out<|trivial,by simp;omega⟩
    go_upto_region 8 with fail
    refine Rn K5_2 HBr (cG 0 22 [_,_,_,_] []) (oc g_mv<|oc g_mv<|oc (g_ln Tryz.underlying57)<|oc (g_bn (fun uZ=>Zg _ _ ((j+1:Nat):Int) ((3:Nat):Int) _ uZ hl)) on) fun u6 HB6 sz6 K6=>?_
    simp only[sQ] at K6⊢
    go_upto_region 10 with fail
    refine Rp K6 HB6 [] [(9,7,L0s,some (10,LN z))] (cG 0 29 [_,_,_,_,_,_] [(6,28,_),(7,35,_),(8,36,_),(11,8,_)]) [(10,9)] [] [] (oc g_mv<|oc g_mv<|oc (g_bn (fun uZ=>Y6 _ _ ((j+1:Nat):Int) 1 (j:Int) uZ hz1 (by omega) (by omega)))<|oc (g_ix (fun uZ=>ixT bS 0 3 cS j (by omega) uZ))<|oc (g_lv 0 (0+j) lT (by rw[Nat.zero_add];exact ht))<|oc (g_cl Zi hCz.out)<|oc g_mv<|oc g_ex<|oc g_ex<|oc (g_al 0 aN)<|oc (g_sn 0 iN)<|oc g_as on) fun u7 b7_9 HB7 sz7 K7=>?_
    simp only[sQ] at K7⊢
    go_upto_region 11 with fail
    refine Rp K7 HB7 [] [(8,9,L0s,some (9,LN y))] (cG 0 38 [_,_,_,_,_] [(5,37,_),(6,43,_),(7,44,_),(10,10,_)]) [(9,8)] [] [] (oc g_mv<|oc g_mv<|oc (g_ix (fun uZ=>ixT bS 0 3 cS (j+1) (by omega) uZ))<|oc (g_lv 0 (0+(j+1)) lT (by rw[Nat.zero_add];exact hs))<|oc (g_cl Zi hCy.out)<|oc g_mv<|oc g_ex<|oc g_ex<|oc (g_al 0 aN)<|oc (g_sn 0 iN)<|oc g_as on) fun u8 b8_8 HB8 sz8 K8=>?_
    simp only[sQ] at K8⊢
    go_upto_region 12 with fail
    refine Rf K8 HB8 [] [] (cG 0 45 [_,_,_,_,_] []) [(7,0)] [(7,5)] [⟨5,50,some 6,P1 (CE y z 2)⟩,⟨6,51,some 7,PG u8.heap.size ti.size (j+1) (flC (stp ns0 j)++CE y z 2)⟩,⟨7,5,none,PG u8.heap.size ti.size (j+1) (flC (stp ns0 j)++CE y z 2)⟩] [true,false,false,false] (oc g_mv<|oc (g_ld 3 uN iN)<|oc (g_ld 2 uN iN)<|oc (g_bd (fun uZ=>bdXp 2 (by omega) (by omega) uZ))<|oc (g_bd (bdC _ _ _))<|oc (g_bR 0 (P1 (CE y z 2)) [0] [CX y z 2] (CE y z 2) (bsC1 _ _ _) (fun u hu=>P1.new _ _ u))<|oc (g_pG 0 1 (P1 (CE y z 2)) (n:=j) (xs:=flC (stp ns0 j)) (news:=CE y z 2) Tryz.underlying31 hti hzv (by rw[hsz];rfl) P1.at hsz.symm (fun f u kZ=>⟨by rw[hsz];exact hsl,.inr ⟨b5,rfl,(KC.cv kZ 1).pre2⟩⟩) (by rw[hby];omega) (by omega))<|oc (g_sE 1 2 (PG u8.heap.size ti.size (j+1) (flC (stp ns0 j)++CE y z 2))) on) fun u9 v9_5 hv9_5 v9_6 hv9_6 v9_7 hv9_7 HB9 sz9 K9=>?_
    simp only[sQ] at K9⊢
    obtain⟨b6,c6,zs6,rfl,ho1,ho2,hc6,hz6,hoC⟩:=hv9_7 rfl
    have K9xrow6:=Bk.more3 K8 K9 ho1 ho2 hoC (by intro x hx;first | (simp at hx;done) | (simp at hx⊢;omega))
    simp only[aK] at K9xrow6
    rw[hsz] at hz6
    have hb6':b6≠bS:=by have:=(K8.lt 0);omega
    have hw6:w.heap.size<=b6:=by omega
    go_upto_region 9 with fail
    refine Rp K9xrow6 HB9 [] [] [(0,26,_),(1,27,_),(2,6,_)] [(2,0)] [(2,6)] [] (oc g_mv<|oc (g_bn (fun uZ=>Zy _ _ ((j+1:Nat):Int) 1 ((j+1+1:Nat):Int) uZ (by omega) (by omega) (by omega)))<|oc g_as on) fun u10 HB10 sz10 K10=>?_
    simp only[sQ] at K10⊢
    go_wp2
    refine⟨⟨j+1,by omega,rfl,⟨b6,c6,zs6,rfl,hw6,(K10.lt 1),hb6',hc6,hz6,(by rw[hf.out];exact(K10.cv 1))⟩,HB10,(K10.cv 0),(K10.lt 0)⟩,?_⟩
    simp[intOf]<;>omega
  ·have hl:decide (((j+1:Nat):Int)<3)=false:=by simp;omega
   have hjn:j=2:=by omega
   have hnK:=K5.n
   simp at hnK
   have K5_2:Bk w.heap.size wr [(false,b5,flC (stp ns0 j)++zs)]:=⟨.c hl5 hC5.out<|trivial,by simp⟩
   go_upto_region 8 with fail
   refine Rn K5_2 HBr (cG 0 22 [_,_,_,_] []) (oc g_mv<|oc g_mv<|oc (g_ln Tryz.underlying57)<|oc (g_bn (fun uZ=>Zg _ _ ((j+1:Nat):Int) ((3:Nat):Int) _ uZ hl)) on) fun u6 HB6 sz6 K6=>?_
   simp only[sQ] at K6⊢
   go_upto_region 13 with fail
   refine Rn K6 HB6 [(0,52,_),(1,2,_),(2,3,_)] (oc g_mv<|oc g_as<|oc g_as on) fun u7 HB7 sz7 K7=>?_
   simp only[sQ] at K7⊢
   go_wp2
   refine bodyPost_ret (v:= .tuple #[.slice (some ⟨b5,0,none⟩) j c5,iI 0]) (by simp[results,Tryz.results7,go_sem]) rfl ⟨_,rfl,⟨_,rfl,b5,c5,by rw[hjn],hb5,K7.lt 0,by omega,by rw[<-hjn];exact(K7.cv 0).pre2⟩,HB7⟩
theorem xChain1(w:World):Calls Tryz.prog 7 #[iI 1] w fun e w'=> ∃v,e= .returned v/\PT 0 w.heap.size 5 (flC (stp ns1 5)) w' v/\Bw w w':=by
 go_enter Tryz.func7,Tryz.ntmps7
 have HB0:Bw w w:=Below.refl _ _
 have K0_1:=Bk.nil (w.heap.size) w
 go_upto_region 1 with fail
 refine Rf K0_1 HB0 [] [] [] [] [] [⟨0,11,some 1,PS w.heap.size 3 (ss0.map Value.string)⟩,⟨1,4,none,PS w.heap.size 3 (ss0.map Value.string)⟩] [] (hst:=(.cons (fun _ _ _ h1 h2=>h2.stab h1)<| .cons (fun _ _ _ h1 h2=>h2.stab h1)<|Stab.nil)) (oc (g_bR 0 (PS w.heap.size 3 (ss0.map Value.string)) [0,1,2] [.string ⟨#[50,48,48,49,100]⟩,.string ⟨#[50,50,97,49,102,54,49,49]⟩,.string ⟨#[52,53,52,51,101,99,50,51]⟩] (ss0.map Value.string) (bsS3 _ _ _) (fun u hu=>PS.new 3 _ _ u hu))<|oc (g_sE 0 1 (PS w.heap.size 3 (ss0.map Value.string))) on) fun u1 v1_0 hv1_0 v1_1 hv1_1 HB1 _ K1=>?_
 simp only[sQ] at K1⊢
 obtain⟨bX,cX,rfl,-⟩:=hv1_1 rfl
 go_upto_region 2 with fail
 refine Rn K1 HB1 [(0,12,_),(1,13,_)] (oc g_mv<|oc (g_bn (fun uZ=>Vb _ _ _ 1 1 _ uZ rfl)) on) fun u2 HB2 _ K2=>?_
 simp only[sQ] at K2⊢
 go_upto_region 3 with fail
 refine Rf K2 HB2 [] [] [] [] [] [⟨0,14,some 1,PS u2.heap.size 6 (ss1.map Value.string)⟩,⟨1,4,none,PS u2.heap.size 6 (ss1.map Value.string)⟩] [] (hst:=(.cons (fun _ _ _ h1 h2=>h2.stab h1)<| .cons (fun _ _ _ h1 h2=>h2.stab h1)<|Stab.nil)) (oc (g_bR 0 (PS u2.heap.size 6 (ss1.map Value.string)) [0,1,2,3,4,5] [.string ⟨#[101,55,102,52,51]⟩,.string ⟨#[50,52,49,99,102,56,51,48,97,51]⟩,.string ⟨#[50,49,97,52,100,99,98,56,99,101,99,50,99,102,48,101,97,56,51]⟩,.string ⟨#[50,49,52,97,99,52,49,56,101,56,101,100,101,56,53,48,50,56,55,56,53,53,101,55,53,101,102,53,53,48,49,57,97,57,56,101,51]⟩,.string ⟨#[50,48,102,97,51,48,48,53,52,98,57,52,99,100,51,56,98,53,54,49,57,98,53,53,55,50,51,52,102,49,97,56,97,53,55,56,55,100,55,48,98,56,57,48,51,54,53,102,54,49,55,56,55,53,102,55,52,99,52,100,51,99,100,100]⟩,.string ⟨#[52,49,102,52,54,48,48,97,57,55,50,57,57,97,55,49,54,97,99,51,51,54,97,97,101,52,54,57,101,51,53,49,52,97,102,48,102,97,101,49,55,49,50,48,54,99,98,101,99,50,102,48,101,98,101,101,57,56,57,97,55,57,98,98]⟩] (ss1.map Value.string) (bsS6 _ _ _ _ _ _) (fun u hu=>PS.new 6 _ _ u hu))<|oc (g_sE 0 1 (PS u2.heap.size 6 (ss1.map Value.string))) on) fun u3 v3_0 hv3_0 v3_1 hv3_1 HB3 _ K3=>?_
 simp only[sQ] at K3⊢
 obtain⟨bS,cS,rfl,ho1,ho2,hcS,hoC⟩:=hv3_1 rfl
 have K3xstr:=Bk.more3 K2 K3 ho1 ho2 hoC (by intro x hx;first | (simp at hx;done) | (simp at hx⊢;omega))
 simp only[aK] at K3xstr
 have hSw:w.heap.size<=bS:=by omega
 go_upto_region 4 with fail
 refine Rn K3xstr HB3 (cG 0 15 [_,_,_,_,_,_] []) (oc g_mv<|oc (g_bn (fun uZ=>Zg _ _ 1 0 _ uZ rfl))<|oc g_mv<|oc g_mv<|oc (g_bn (fun uZ=>Ww _ _ 1 1 _ uZ rfl))<|oc g_pk on) fun u4 HB4 _ K4=>?_
 simp only[sQ] at K4⊢
 go_upto_region 6 with fail
 refine Rf K4 HB4 [] [] [] [] [] [⟨0,21,some 1,PZ u4.heap.size⟩,⟨1,5,none,PZ u4.heap.size⟩] [] (hst:=(.cons (fun _ _ _ h1 h2=>h2.stab h1)<| .cons (fun _ _ _ h1 h2=>h2.stab h1)<|Stab.nil)) (oc (g_bs 0 (PZ u4.heap.size) bsC0p (fun u hu=>PZ.new hu))<|oc (g_sE 0 1 (PZ u4.heap.size)) on) fun u5 v5_0 hv5_0 v5_1 hv5_1 HB5 _ K5=>?_
 simp only[sQ] at K5⊢
 have hbSl:=K4.lt 0
 obtain⟨bz,rfl,ho1,ho2⟩:=hv5_1 rfl
 have K5xrow:=Bk.more3 K4 K5 ho1 ho2 (CV.nil _ _) (by intro x hx;first | (simp at hx;done) | (simp at hx⊢;omega))
 simp only[aK] at K5xrow
 have hb50:w.heap.size<=bz:=by omega
 have hb5S:bz≠bS:=by omega
 go_upto_region 7 with fail
 refine Rn K5xrow HB5 [(0,6,_)] (oc g_as on) fun u6 HB6 _ K6=>?_
 simp only[sQ] at K6⊢
 go_wp2_with fail
 go_loopw [6,5] (fun s6 s5 wr=> ∃(j:Nat),j<=5/\s6=iI ((j+1:Nat):Int)/\(∃b cap zs,s5= .slice (some ⟨b,0,none⟩) j cap/\w.heap.size<=b/\b<wr.heap.size/\b≠bS/\j<=cap/\List.length (α:=Value) zs=(cap -j)*12/\Hid (CV wr b (flC (stp ns1 j)++zs)))/\Bw w wr/\Hid (CV wr bS (ss1.map Value.string))/\bS<wr.heap.size) (fun s6 _ _=>6 -(intOf s6).toNat)
 case atStart=>exact⟨0,by omega,rfl,⟨bz,0,[],rfl,hb50,(K6.lt 1),hb5S,Nat.le_refl _,rfl,(K6.cv 1)⟩,HB6,(K6.cv 0),(K6.lt 0)⟩
 case round=>
  obtain⟨j,hj,rfl,hrow,HBr,hKL,hLr⟩:=hrel
  have hwr:=HBr.size
  obtain⟨b5,c5,zs,rfl,hb5,hl5,hbl,hjc,hzl,hC5⟩:=hrow
  by_cases hjl:j<5
  ·have hl:decide (((j+1:Nat):Int)<6)=true:=by simp;omega
   obtain⟨y,ey⟩: ∃y,ns1.getD (j+1) 0=y:=⟨_,rfl⟩
   obtain⟨z,ez⟩: ∃z,ns1.getD j 0=z:=⟨_,rfl⟩
   obtain⟨s,es⟩: ∃s,ss1.getD (j+1) ByteArray.empty=s:=⟨_,rfl⟩
   obtain⟨t,et⟩: ∃t,ss1.getD j ByteArray.empty=t:=⟨_,rfl⟩
   have hln:ss1.length=6:=rfl
   have hCy:=xps1 (j+1) (by omega)
   have hCz:=xps1 j (by omega)
   have hs:=str_at ss1 (j+1) (by omega)
   have ht:=str_at ss1 j (by omega)
   have hf:=flC_stp ns1 j
   have hsl:=flC_len (stp ns1 j)
   rw[stp_len] at hsl
   rw[ey] at hCy hf
   rw[ez] at hCz hf
   rw[es] at hCy hs
   rw[et] at hCz ht
   have hCy:Hid _:=hCy
   have hCz:Hid _:=hCz
   have hf:Hid _:=hf
   have hz1:((j+1:Nat):Int) -1=(j:Int):=by omega
   obtain⟨ti,hti,hm⟩:=Option.map_eq_some_iff.1 infoC
   simp only[Prod.mk.injEq] at hm
   obtain⟨hzv,hsz,hby⟩:=hm
   clear ey ez es et
   by_cases hrm:j+1<=c5
   ·have hC5:CV wr b5 (flC (stp ns1 j)++zs.take 12++zs.drop 12):=by rw[add_drop (news:=[])];exact hC5.out
    have hnK:=K6.n
    simp at hnK
    have K6_2:Bk w.heap.size wr [(false,bS,ss1.map Value.string),(true,b5,flC (stp ns1 j)++zs.take 12++zs.drop 12)]:=⟨.c hLr hKL.out<| .o hl5 (by omega) hC5<|trivial,by simp;omega⟩
    go_upto_region 8 with fail
    refine Rn K6_2 HBr (cG 0 22 [_,_,_,_] []) (oc g_mv<|oc g_mv<|oc (g_ln Tryz.underlying57)<|oc (g_bn (fun uZ=>Zg _ _ ((j+1:Nat):Int) ((6:Nat):Int) _ uZ hl)) on) fun u7 HB7 sz7 K7=>?_
    simp only[sQ] at K7⊢
    go_upto_region 10 with fail
    refine Rp K7 HB7 [] [(9,7,L0s,some (10,LN z))] (cG 0 29 [_,_,_,_,_,_] [(6,28,_),(7,35,_),(8,36,_),(11,8,_)]) [(10,9)] [] [] (oc g_mv<|oc g_mv<|oc (g_bn (fun uZ=>Y6 _ _ ((j+1:Nat):Int) 1 (j:Int) uZ hz1 (by omega) (by omega)))<|oc (g_ix (fun uZ=>ixT bS 0 6 cS j (by omega) uZ))<|oc (g_lv 0 (0+j) lT (by rw[Nat.zero_add];exact ht))<|oc (g_cl Zi hCz.out)<|oc g_mv<|oc g_ex<|oc g_ex<|oc (g_al 0 aN)<|oc (g_sn 0 iN)<|oc g_as on) fun u8 b8_9 HB8 sz8 K8=>?_
    simp only[sQ] at K8⊢
    go_upto_region 11 with fail
    refine Rp K8 HB8 [] [(8,9,L0s,some (9,LN y))] (cG 0 38 [_,_,_,_,_] [(5,37,_),(6,43,_),(7,44,_),(10,10,_)]) [(9,8)] [] [] (oc g_mv<|oc g_mv<|oc (g_ix (fun uZ=>ixT bS 0 6 cS (j+1) (by omega) uZ))<|oc (g_lv 0 (0+(j+1)) lT (by rw[Nat.zero_add];exact hs))<|oc (g_cl Zi hCy.out)<|oc g_mv<|oc g_ex<|oc g_ex<|oc (g_al 0 aN)<|oc (g_sn 0 iN)<|oc g_as on) fun u9 b9_8 HB9 sz9 K9=>?_
    simp only[sQ] at K9⊢
    go_upto_region 12 with fail
    refine Rf K9 HB9 [.no,.all 6 (flC (stp ns1 j)++CE y z 2++zs.drop 12)] [] (cG 0 45 [_,_,_,_,_] [(6,51,_),(7,5,_)]) [(7,0)] [(7,5)] [⟨5,50,some 6,P1 (CE y z 2)⟩] [true,true,false,false] (oc g_mv<|oc (g_ld 3 uN iN)<|oc (g_ld 2 uN iN)<|oc (g_bd (fun uZ=>bdXp 2 (by omega) (by omega) uZ))<|oc (g_bd (bdC _ _ _))<|oc (g_bR 0 (P1 (CE y z 2)) [0] [CX y z 2] (CE y z 2) (bsC1 _ _ _) (fun u hu=>P1.new _ _ u))<|oc (g_pI 1 0 (P1 (CE y z 2)) (xs:=flC (stp ns1 j)) (ys:=zs.take 12) (zs:=zs.drop 12) (news:=CE y z 2) Tryz.underlying31 hti P1.at CE_one hsz.symm (by rw[hsz];exact hsl) (by rw[List.length_take];simp;omega) hrm)<|oc g_as on) fun u10 v10_5 hv10_5 HB10 sz10 K10=>?_
    simp only[sQ] at K10⊢
    go_upto_region 9 with fail
    refine Rp K10 HB10 [] [] [(0,26,_),(1,27,_),(2,6,_)] [(2,0)] [(2,6)] [] (oc g_mv<|oc (g_bn (fun uZ=>Zy _ _ ((j+1:Nat):Int) 1 ((j+1+1:Nat):Int) uZ (by omega) (by omega) (by omega)))<|oc g_as on) fun u11 HB11 sz11 K11=>?_
    simp only[sQ] at K11⊢
    go_wp2
    refine⟨⟨j+1,by omega,rfl,⟨b5,c5,zs.drop 12,rfl,hb5,(K11.lt 1),hbl,hrm,(by rw[List.length_drop];omega),(by rw[hf.out];exact(K11.cv 1))⟩,HB11,(K11.cv 0),(K11.lt 0)⟩,?_⟩
    simp[intOf]<;>omega
   ·have ec:j=c5:=by omega
    subst ec
    have hnK:=K6.n
    simp at hnK
    have K6_2:Bk w.heap.size wr [(false,bS,ss1.map Value.string),(false,b5,flC (stp ns1 j)++zs)]:=⟨.c hLr hKL.out<| .c hl5 hC5.out<|trivial,by simp;omega⟩
    go_upto_region 8 with fail
    refine Rn K6_2 HBr (cG 0 22 [_,_,_,_] []) (oc g_mv<|oc g_mv<|oc (g_ln Tryz.underlying57)<|oc (g_bn (fun uZ=>Zg _ _ ((j+1:Nat):Int) ((6:Nat):Int) _ uZ hl)) on) fun u7 HB7 sz7 K7=>?_
    simp only[sQ] at K7⊢
    go_upto_region 10 with fail
    refine Rp K7 HB7 [] [(9,7,L0s,some (10,LN z))] (cG 0 29 [_,_,_,_,_,_] [(6,28,_),(7,35,_),(8,36,_),(11,8,_)]) [(10,9)] [] [] (oc g_mv<|oc g_mv<|oc (g_bn (fun uZ=>Y6 _ _ ((j+1:Nat):Int) 1 (j:Int) uZ hz1 (by omega) (by omega)))<|oc (g_ix (fun uZ=>ixT bS 0 6 cS j (by omega) uZ))<|oc (g_lv 0 (0+j) lT (by rw[Nat.zero_add];exact ht))<|oc (g_cl Zi hCz.out)<|oc g_mv<|oc g_ex<|oc g_ex<|oc (g_al 0 aN)<|oc (g_sn 0 iN)<|oc g_as on) fun u8 b8_9 HB8 sz8 K8=>?_
    simp only[sQ] at K8⊢
    go_upto_region 11 with fail
    refine Rp K8 HB8 [] [(8,9,L0s,some (9,LN y))] (cG 0 38 [_,_,_,_,_] [(5,37,_),(6,43,_),(7,44,_),(10,10,_)]) [(9,8)] [] [] (oc g_mv<|oc g_mv<|oc (g_ix (fun uZ=>ixT bS 0 6 cS (j+1) (by omega) uZ))<|oc (g_lv 0 (0+(j+1)) lT (by rw[Nat.zero_add];exact hs))<|oc (g_cl Zi hCy.out)<|oc g_mv<|oc g_ex<|oc g_ex<|oc (g_al 0 aN)<|oc (g_sn 0 iN)<|oc g_as on) fun u9 b9_8 HB9 sz9 K9=>?_
    simp only[sQ] at K9⊢
    go_upto_region 12 with fail
    refine Rf K9 HB9 [] [] (cG 0 45 [_,_,_,_,_] []) [(7,0)] [(7,5)] [⟨5,50,some 6,P1 (CE y z 2)⟩,⟨6,51,some 7,PG u9.heap.size ti.size (j+1) (flC (stp ns1 j)++CE y z 2)⟩,⟨7,5,none,PG u9.heap.size ti.size (j+1) (flC (stp ns1 j)++CE y z 2)⟩] [true,false,false,false] (oc g_mv<|oc (g_ld 3 uN iN)<|oc (g_ld 2 uN iN)<|oc (g_bd (fun uZ=>bdXp 2 (by omega) (by omega) uZ))<|oc (g_bd (bdC _ _ _))<|oc (g_bR 0 (P1 (CE y z 2)) [0] [CX y z 2] (CE y z 2) (bsC1 _ _ _) (fun u hu=>P1.new _ _ u))<|oc (g_pG 0 1 (P1 (CE y z 2)) (n:=j) (xs:=flC (stp ns1 j)) (news:=CE y z 2) Tryz.underlying31 hti hzv (by rw[hsz];rfl) P1.at hsz.symm (fun f u kZ=>⟨by rw[hsz];exact hsl,.inr ⟨b5,rfl,(KC.cv kZ 1).pre2⟩⟩) (by rw[hby];omega) (by omega))<|oc (g_sE 1 2 (PG u9.heap.size ti.size (j+1) (flC (stp ns1 j)++CE y z 2))) on) fun u10 v10_5 hv10_5 v10_6 hv10_6 v10_7 hv10_7 HB10 sz10 K10=>?_
    simp only[sQ] at K10⊢
    obtain⟨b6,c6,zs6,rfl,ho1,ho2,hc6,hz6,hoC⟩:=hv10_7 rfl
    have K10xrow6:=Bk.more3 K9 K10 ho1 ho2 hoC (by intro x hx;first | (simp at hx;done) | (simp at hx⊢;omega))
    simp only[aK] at K10xrow6
    rw[hsz] at hz6
    have hb6':b6≠bS:=by have:=(K9.lt 0);omega
    have hw6:w.heap.size<=b6:=by omega
    go_upto_region 9 with fail
    refine Rp K10xrow6 HB10 [] [] [(0,26,_),(1,27,_),(2,6,_)] [(2,0)] [(2,6)] [] (oc g_mv<|oc (g_bn (fun uZ=>Zy _ _ ((j+1:Nat):Int) 1 ((j+1+1:Nat):Int) uZ (by omega) (by omega) (by omega)))<|oc g_as on) fun u11 HB11 sz11 K11=>?_
    simp only[sQ] at K11⊢
    go_wp2
    refine⟨⟨j+1,by omega,rfl,⟨b6,c6,zs6,rfl,hw6,(K11.lt 1),hb6',hc6,hz6,(by rw[hf.out];exact(K11.cv 1))⟩,HB11,(K11.cv 0),(K11.lt 0)⟩,?_⟩
    simp[intOf]<;>omega
  ·have hl:decide (((j+1:Nat):Int)<6)=false:=by simp;omega
   have hjn:j=5:=by omega
   have hnK:=K6.n
   simp at hnK
   have K6_2:Bk w.heap.size wr [(false,b5,flC (stp ns1 j)++zs)]:=⟨.c hl5 hC5.out<|trivial,by simp⟩
   go_upto_region 8 with fail
   refine Rn K6_2 HBr (cG 0 22 [_,_,_,_] []) (oc g_mv<|oc g_mv<|oc (g_ln Tryz.underlying57)<|oc (g_bn (fun uZ=>Zg _ _ ((j+1:Nat):Int) ((6:Nat):Int) _ uZ hl)) on) fun u7 HB7 sz7 K7=>?_
   simp only[sQ] at K7⊢
   go_upto_region 13 with fail
   refine Rn K7 HB7 [(0,52,_),(1,2,_),(2,3,_)] (oc g_mv<|oc g_as<|oc g_as on) fun u8 HB8 sz8 K8=>?_
   simp only[sQ] at K8⊢
   go_wp2
   refine bodyPost_ret (v:= .tuple #[.slice (some ⟨b5,0,none⟩) j c5,iI 0]) (by simp[results,Tryz.results7,go_sem]) rfl ⟨_,rfl,⟨_,rfl,b5,c5,by rw[hjn],hb5,K8.lt 0,by omega,by rw[<-hjn];exact(K8.cv 0).pre2⟩,HB8⟩
end Go.Proofs.YtdhlekdohebbbaaGreatDoor
