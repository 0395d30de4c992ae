import Derived.Test.YtofcppgfaelloaaGreatDoorSH1
namespace Go.Proofs.YtofcppgfaelloaaGreatDoor
set_option linter.unusedVariables false
set_option linter.unusedSimpArgs false
set_option maxRecDepth 100000
set_option maxHeartbeats 4000000
open Go.RowKit
theorem SB.below {w w':World} {m g o:Nat} {xs:List Nat} (h:SB w g o xs) (hb:Below m w w') (hg:g<m):SB w' g o xs:=fun j hj=>(hb.cell (p:=⟨g,o+j,none⟩) hg).trans (h j hj)
theorem CV.sb {w:World} {b:Nat} {xs:List Nat} (h:CV w b (U8 xs)):SB w b 0 xs:=fun j hj=>by rw[Nat.zero_add];exact(h j _ (Zy xs j hj)).1
theorem cTake_b (xs:List Nat) (S B:Nat->List Nat) (c b0 gb go cap:Nat) (sl:Option Addr) (w:World) (hxl:xs.length<=10000) (hc:c<=1000000) (hcap:xs.length<=cap) (hsl:xs.length=0\/sl=some ⟨gb,go+0,none⟩) (h1b:6<b0) (hlt:b0<w.heap.size) (hV:GV w) (hgb:gb<b0) (hsrc:Hid (SB w gb go xs)) (hcv:Hid (CV w b0 (RB (S 0) (B 0) (c+0))))
 (hBB:Hid (∀j,BB 64 (B j))) (hSW:Hid (∀j,WW 8 (S j))) (hBM:Hid (∀j k n,(c+j)%64=k->k+n<=64->j+n<=xs.length->B (j+n)=(B j).take k++(xs.drop j).take n++(B j).drop (k+n))) (hSM:Hid (∀j k n,(c+j)%64=k->1<=n->k+n<=64->j+n<=xs.length->S (j+n)=if (c+j+n)%64=0 then blk (S j) (B (j+n)) else S j)):
 Calls Tryz.prog 157 #[.pointer (some ⟨b0,0,none⟩),.slice sl xs.length cap] w fun e w'=>e= .returned (.tuple #[])/\Below b0 w w'/\CV w' b0 (RB (S xs.length) (B xs.length) (c+xs.length)):=by
 go_enter Tryz.func157,Tryz.ntmps157
 go_wp2_with fail
 have HB0:Below b0 w w:=Below.refl _ _
 go_loopw [1] (fun s1 wr=> ∃(j L cp:Nat) (sl:Option Addr),j+L=xs.length/\s1= .slice sl L cp/\(L=0\/sl=some ⟨gb,go+j,none⟩)/\L<=cp/\Below b0 w wr/\Hid (CV wr b0 (RB (S j) (B j) (c+j)))/\b0<wr.heap.size) (fun s1 _=>(match s1 with | .slice _ n _=>n | _=>0))
 case atStart=>exact⟨0,xs.length,cap,sl,by omega,rfl,hsl,hcap,HB0,hcv.out,hlt⟩
 case round=>
  obtain⟨j,L,cp,sl',hjL,rfl,hs',hcp,HBr,Kr,lr⟩:=hrel
  by_cases hL:L=0
  ·have hl1:decide (0<(L:Int))=false:=by simp;omega
   have hj:j=xs.length:=by omega
   have K0_1:Bk b0 wr [(false,b0,RB (S j) (B j) (c+j))]:=⟨.c lr Kr.out<|trivial,by simp⟩
   go_upto_region 0 with fail
   apply rgP K0_1 HBr (Nat.le_of_lt (by omega)) [] [] [(0,5,_),(1,6,_),(2,7,_)] [] [] []
   ·exact oc g_mv<|oc (g_ln Tryz.underlying43)<|oc (g_bn (fun uZ=>gtr_i _ _ (L:Int) 0 _ uZ hl1)) on
   intro u1 HB1 sz1 K1
   simp only[sQ] at K1⊢
   go_wp2
   refine bodyPost_end (v:= .tuple #[]) (by simp[results,Tryz.results157,go_sem]) rfl ⟨rfl,HB1,?_⟩
   rw[<-hj]
   exact K1.cv 0
  ·have hs2:=hs'.resolve_left hL
   subst hs2
   clear hs'
   have hl1:decide (0<(L:Int))=true:=by simp;omega
   obtain⟨cj,ecj⟩: ∃cj,c+j=cj:=⟨_,rfl⟩
   obtain⟨k,ek⟩: ∃k,cj%64=k:=⟨_,rfl⟩
   obtain⟨n,en⟩: ∃n,Nat.min L (64 -k)=n:=⟨_,rfl⟩
   have hk:k<64:=by omega
   have hn1:1<=n:=by rw[<-en];exact Nat.le_min.2 ⟨by omega,by omega⟩
   have hnL:n<=L:=by rw[<-en];exact Nat.min_le_left _ _
   have hnk:k+n<=64:=by
    have:n<=64 -k:=by {rw[<-en];exact Nat.min_le_right _ _}
    omega
   have hBm:=hBM.out j k n (by omega) hnk (by omega)
   have hSm:=hSM.out j k n (by omega) hn1 hnk (by omega)
   have hB1:=hBB.out j
   have hB2:=hBB.out (j+n)
   have hS1:=hSW.out j
   obtain⟨s,es⟩: ∃s,S j=s:=⟨_,rfl⟩
   obtain⟨b,eb⟩: ∃b,B j=b:=⟨_,rfl⟩
   obtain⟨b2,eb2⟩: ∃b2,B (j+n)=b2:=⟨_,rfl⟩
   rw[es] at hS1 Kr hSm
   rw[eb] at hB1 hBm Kr
   rw[eb2] at hB2 hBm hSm
   rw[ecj] at Kr
   obtain⟨cn,ecn⟩: ∃cn,cj+n=cn:=⟨_,rfl⟩
   rw[show c+j+n=cn by omega] at hSm
   obtain⟨cs,ecs⟩: ∃cs,(xs.drop j).take n=cs:=⟨_,rfl⟩
   have hcl:cs.length=n:=by rw[<-ecs,List.length_take,List.length_drop];omega
   rw[ecs] at hBm
   obtain⟨L2,eL2⟩: ∃L2,L -n=L2:=⟨_,rfl⟩
   obtain⟨c2,ec2⟩: ∃c2,cp -n=c2:=⟨_,rfl⟩
   obtain⟨sl2,hsl2,hcut⟩:=slC gb (go+j) L cp n hnL hcp
   rw[eL2] at hsl2 hcut
   rw[ec2] at hcut
   have hS8:=hS1.len
   have hB64:=hB2.len
   have hB64':=hB1.len
   have hsp:=cut3 b k n
   have Kr:Hid (CV wr b0 (RBm (U32 s++U8 (b.take k)) (U8 ((b.drop k).take n)) (U8 (b.drop (k+n))++[iU (cj:Int)]))):=by
    have h:=Kr.out
    rw[RB_mid _ hsp] at h
    exact h
   have h72:(RBm (U32 s++U8 (b.take k)) (U8 ((b.drop k).take n)) (U8 (b.drop (k+n))++[iU (cj:Int)]))[72]?=some (iU ((cj:Nat):Int)):=by
    rw[<-RB_mid _ hsp];exact RB_c hS8 hB64'
   have hx1:(U32 s++U8 (b.take k)).length=8+k:=by rw[List.length_append,Z9,Z2,List.length_take];omega
   have hy1:(U8 ((b.drop k).take n)).length=(U8 cs).length:=by rw[Z2,Z2,List.length_take,List.length_drop];omega
   have hgi:goInt (U8 cs).length=iI (n:Int):=by rw[Z2,hcl];rfl
   have hmn:(U8 cs).length=Nat.min L (64 -k):=by rw[Z2,hcl];exact en.symm
   have hcut:Hid _:=hcut
   have hBm:Hid _:=hBm
   have hSm:Hid _:=hSm
   have hcs:Hid ((xs.drop j).take n=cs):=ecs
   have hes:Hid (S j=s):=es
   have heb2:Hid (B (j+n)=b2):=eb2
   clear es eb eb2 ecs en hsp hB64'
   have K0_1:Bk b0 wr [(true,b0,RBm (U32 s++U8 (b.take k)) (U8 ((b.drop k).take n)) (U8 (b.drop (k+n))++[iU (cj:Int)]))]:=⟨.o lr (by omega) Kr.out<|trivial,by simp⟩
   go_upto_region 0 with fail
   apply rgP K0_1 HBr (Nat.le_of_lt (by omega)) [] [] [(0,5,_),(1,6,_),(2,7,_)] [] [] []
   ·exact oc g_mv<|oc (g_ln Tryz.underlying43)<|oc (g_bn (fun uZ=>gtr_i _ _ (L:Int) 0 _ uZ hl1)) on
   intro u1 HB1 sz1 K1
   simp only[sQ] at K1⊢
   go_upto_region 1 with fail
   apply rgD K1 HB1 (Nat.le_of_lt (by omega)) [.all 10 (RBm (U32 s++U8 (b.take k)) (U8 cs) (U8 (b.drop (k+n))++[iU (cj:Int)]))] [] [(0,8,_),(1,9,_),(2,10,_),(3,11,_),(4,12,_),(5,13,_),(6,14,_),(7,15,_),(8,16,_),(9,17,_),(10,18,_),(11,4,_)] [(10,6),(8,6),(7,6)] [] []
   ·exact oc g_mv<|oc g_nl<|oc (g_fd (fdR1 _))<|oc g_mv<|oc g_nl<|oc (g_fd (fdR2 _))<|oc (g_lw 0 (72) l64 (h72))<|oc (g_bn (fun uZ=>rem64x _ _ cj 64 k uZ (by omega) (by decide) ek))<|oc (g_sl (slA b0 k hk))<|oc g_mv<|oc (g_cp 0 (U32 s++U8 (b.take k)) (U8 ((b.drop k).take n)) (U8 (b.drop (k+n))++[iU (cj:Int)]) (U8 cs) Tryz.underlying43 Vf hmn (fun f u kZ bZ=>by rw[<-hcs.out];exact(hsrc.out.below bZ hgb).cells j n) Va hx1 hy1 (hv:=congrArg some hgi))<|oc g_as on
   intro u2 HB2 _ K2
   simp only[sQ] at K2⊢
   rw[RB_mid2 cs hBm.out] at K2
   go_upto_region 2 with fail
   apply rgP K2 HB2 (Nat.le_of_lt (by omega)) [] [] [(0,19,_),(1,20,_),(2,21,_),(3,1,_)] [(3,0)] [(3,1)] []
   ·exact oc g_mv<|oc g_mv<|oc (g_sl hcut.out)<|oc g_as on
   intro u3 HB3 _ K3
   simp only[sQ] at K3⊢
   go_upto_region 3 with fail
   apply rgP K3 HB3 (Nat.le_of_lt (by omega)) [.all 9 (RB (s) (b2) (cn))] [] [(0,22,_),(1,23,_),(2,24,_),(3,25,_),(4,26,_),(5,27,_),(6,28,_),(7,29,_),(8,30,_)] [(9,3)] [] []
   ·exact oc g_mv<|oc g_nl<|oc (g_fd (fdR2 _))<|oc (g_lw 0 (72) l64 (RB_c hS8 hB64))<|oc g_mv<|oc (g_op (fun ev uZ he=>cvi64 uZ (by omega) rfl (he _ _ rfl)))<|oc (g_bn (fun uZ=>Xv _ _ cj n cn uZ ecn (by omega)))<|oc g_nl<|oc (g_fd (fdR2 _))<|oc (g_sw 0 (72) s64 (RB_c hS8 hB64) (RB_set _ _ _ _ hS8 hB64)) on
   intro u4 HB4 _ K4
   simp only[sQ] at K4⊢
   obtain⟨rm,erm⟩: ∃rm,cn%64=rm:=⟨_,rfl⟩
   by_cases hrm:rm=0
   ·have hz:((rm:Int)==0)=true:=by rw[beq_iff_eq];omega
    have hS2:=hSm.out
    rw[if_pos (by omega)] at hS2
    have hS2:Hid _:=hS2
    go_upto_region 4 with fail
    apply rgP K4 HB4 (Nat.le_of_lt (by omega)) [] [] [(0,31,_),(1,32,_),(2,33,_),(3,34,_),(4,35,_),(5,36,_)] [] [] []
    ·exact oc g_mv<|oc g_nl<|oc (g_fd (fdR2 _))<|oc (g_lw 0 (72) l64 (RB_c hS8 hB64))<|oc (g_bn (fun uZ=>rem64x _ _ cn 64 rm uZ (by omega) (by decide) erm))<|oc (g_bn (fun uZ=>eql_u _ _ _ (rm:Int) 0 _ uZ hz)) on
    intro u5 HB5 sz5 K5
    simp only[sQ] at K5⊢
    obtain⟨s2,es2⟩: ∃s2,blk s b2=s2:=⟨_,rfl⟩
    have hs28:s2.length=8:=by rw[<-es2];exact(blk_W hS1 b2).len
    have hblk:Hid (∀u,GV u->CC 162 #[.agg (U32 (s)).toArray,.agg (U8 (b2)).toArray] u (.agg (U32 (s2)).toArray)):=fun u hu=>by rw[<-es2];exact cBlock s b2 u hS1 hB2.len hB2.lt hu
    have hS2':Hid _:=hS2.out
    rw[es2] at hS2'
    clear es2 hS2
    go_upto_region 5 with fail
    apply rgD K5 HB5 (Nat.le_of_lt (by omega)) [.all 12 (RB (s2) (b2) (cn))] [] [(0,37,_),(1,38,_),(2,39,_),(3,40,_),(4,41,_),(5,42,_),(6,43,_),(7,44,_),(8,45,_),(9,46,_),(10,47,_),(11,48,_)] [(12,4),(12,8)] [] []
    ·exact oc g_mv<|oc g_mv<|oc g_nl<|oc (g_fd (fdR0 _))<|oc (g_lR 0 (0) (cs:=U32 (s)) RB_ss Tryz.underlying164 (by rw[Z9,hS8];exact Z8))<|oc g_mv<|oc g_nl<|oc (g_fd (fdR1 _))<|oc (g_lR 0 (8) (cs:=U8 (b2)) (RB_bs hS8) Tryz.underlying150 (by rw[Z2,hB64];exact Z6))<|oc (g_cb Uc (fun uZ bZ=>hblk.out uZ (hV.below bZ h1b)))<|oc g_nl<|oc (g_fd (fdR0 _))<|oc (g_sm 0 0 [] (U32 s) (U8 b2++[iU ((cn:Nat):Int)]) Z8 (post:=U32 s2) (h1:=Xt _) (hm:=by rw[Z9,hs28]) (hl:=by rw[Z9,Z9,hS8,hs28])) on
    intro u6 HB6 _ K6
    simp only[sQ] at K6⊢
    go_wp2
    refine⟨⟨j+n,L2,c2,sl2,by omega,rfl,(by rw[<-Nat.add_assoc];exact hsl2),by omega,HB6,(by rw[show c+(j+n)=cn by omega];exact(by rw[hS2'.out,heb2.out];exact(K6.cv 0))),(K6.lt 0)⟩,?_⟩
    show L2<L
    omega
   ·have hz:((rm:Int)==0)=false:=by rw[beq_eq_false_iff_ne];omega
    have hS2:=hSm.out
    rw[if_neg (by omega)] at hS2
    have hS2:Hid _:=hS2
    go_upto_region 4 with fail
    apply rgP K4 HB4 (Nat.le_of_lt (by omega)) [] [] [(0,31,_),(1,32,_),(2,33,_),(3,34,_),(4,35,_),(5,36,_)] [] [] []
    ·exact oc g_mv<|oc g_nl<|oc (g_fd (fdR2 _))<|oc (g_lw 0 (72) l64 (RB_c hS8 hB64))<|oc (g_bn (fun uZ=>rem64x _ _ cn 64 rm uZ (by omega) (by decide) erm))<|oc (g_bn (fun uZ=>eql_u _ _ _ (rm:Int) 0 _ uZ hz)) on
    intro u5 HB5 sz5 K5
    simp only[sQ] at K5⊢
    go_wp2
    refine⟨⟨j+n,L2,c2,sl2,by omega,rfl,(by rw[<-Nat.add_assoc];exact hsl2),by omega,HB5,(by rw[show c+(j+n)=cn by omega];exact(by rw[hS2.out,heb2.out];exact(K5.cv 0))),(K5.lt 0)⟩,?_⟩
    show L2<L
    omega
theorem cTake_o (xs:List Nat) (S B:Nat->List Nat) (c b0 gb cap:Nat) (sl:Option Addr) (w:World) (hxl:xs.length<=10000) (hc:c<=1000000) (hcap:xs.length<=cap) (hsl:xs.length=0\/sl=some ⟨gb,0+0,none⟩) (h1b:6<b0) (hlt:b0<w.heap.size) (hV:GV w) (hne:gb≠b0) (hglt:gb<w.heap.size) (hsrc:Hid (CV w gb (U8 (xs)))) (hcv:Hid (CV w b0 (RB (S 0) (B 0) (c+0))))
 (hBB:Hid (∀j,BB 64 (B j))) (hSW:Hid (∀j,WW 8 (S j))) (hBM:Hid (∀j k n,(c+j)%64=k->k+n<=64->j+n<=xs.length->B (j+n)=(B j).take k++(xs.drop j).take n++(B j).drop (k+n))) (hSM:Hid (∀j k n,(c+j)%64=k->1<=n->k+n<=64->j+n<=xs.length->S (j+n)=if (c+j+n)%64=0 then blk (S j) (B (j+n)) else S j)):
 Calls Tryz.prog 157 #[.pointer (some ⟨b0,0,none⟩),.slice sl xs.length cap] w fun e w'=>e= .returned (.tuple #[])/\Below b0 w w'/\CV w' b0 (RB (S xs.length) (B xs.length) (c+xs.length)):=by
 go_enter Tryz.func157,Tryz.ntmps157
 go_wp2_with fail
 have HB0:Below b0 w w:=Below.refl _ _
 go_loopw [1] (fun s1 wr=> ∃(j L cp:Nat) (sl:Option Addr),j+L=xs.length/\s1= .slice sl L cp/\(L=0\/sl=some ⟨gb,0+j,none⟩)/\L<=cp/\Below b0 w wr/\Hid (CV wr b0 (RB (S j) (B j) (c+j)))/\b0<wr.heap.size/\Hid (CV wr gb (U8 (xs)))/\gb<wr.heap.size) (fun s1 _=>(match s1 with | .slice _ n _=>n | _=>0))
 case atStart=>exact⟨0,xs.length,cap,sl,by omega,rfl,hsl,hcap,HB0,hcv.out,hlt,hsrc.out,hglt⟩
 case round=>
  obtain⟨j,L,cp,sl',hjL,rfl,hs',hcp,HBr,Kr,lr,Kx,lx⟩:=hrel
  by_cases hL:L=0
  ·have hl1:decide (0<(L:Int))=false:=by simp;omega
   have hj:j=xs.length:=by omega
   have K0_1:Bk b0 wr [(false,b0,RB (S j) (B j) (c+j))]:=⟨.c lr Kr.out<|trivial,by simp⟩
   go_upto_region 0 with fail
   apply rgP K0_1 HBr (Nat.le_of_lt (by omega)) [] [] [(0,5,_),(1,6,_),(2,7,_)] [] [] []
   ·exact oc g_mv<|oc (g_ln Tryz.underlying43)<|oc (g_bn (fun uZ=>gtr_i _ _ (L:Int) 0 _ uZ hl1)) on
   intro u1 HB1 sz1 K1
   simp only[sQ] at K1⊢
   go_wp2
   refine bodyPost_end (v:= .tuple #[]) (by simp[results,Tryz.results157,go_sem]) rfl ⟨rfl,HB1,?_⟩
   rw[<-hj]
   exact K1.cv 0
  ·have hs2:=hs'.resolve_left hL
   subst hs2
   clear hs'
   have hl1:decide (0<(L:Int))=true:=by simp;omega
   obtain⟨cj,ecj⟩: ∃cj,c+j=cj:=⟨_,rfl⟩
   obtain⟨k,ek⟩: ∃k,cj%64=k:=⟨_,rfl⟩
   obtain⟨n,en⟩: ∃n,Nat.min L (64 -k)=n:=⟨_,rfl⟩
   have hk:k<64:=by omega
   have hn1:1<=n:=by rw[<-en];exact Nat.le_min.2 ⟨by omega,by omega⟩
   have hnL:n<=L:=by rw[<-en];exact Nat.min_le_left _ _
   have hnk:k+n<=64:=by
    have:n<=64 -k:=by {rw[<-en];exact Nat.min_le_right _ _}
    omega
   have hBm:=hBM.out j k n (by omega) hnk (by omega)
   have hSm:=hSM.out j k n (by omega) hn1 hnk (by omega)
   have hB1:=hBB.out j
   have hB2:=hBB.out (j+n)
   have hS1:=hSW.out j
   obtain⟨s,es⟩: ∃s,S j=s:=⟨_,rfl⟩
   obtain⟨b,eb⟩: ∃b,B j=b:=⟨_,rfl⟩
   obtain⟨b2,eb2⟩: ∃b2,B (j+n)=b2:=⟨_,rfl⟩
   rw[es] at hS1 Kr hSm
   rw[eb] at hB1 hBm Kr
   rw[eb2] at hB2 hBm hSm
   rw[ecj] at Kr
   obtain⟨cn,ecn⟩: ∃cn,cj+n=cn:=⟨_,rfl⟩
   rw[show c+j+n=cn by omega] at hSm
   obtain⟨cs,ecs⟩: ∃cs,(xs.drop j).take n=cs:=⟨_,rfl⟩
   have hcl:cs.length=n:=by rw[<-ecs,List.length_take,List.length_drop];omega
   rw[ecs] at hBm
   obtain⟨L2,eL2⟩: ∃L2,L -n=L2:=⟨_,rfl⟩
   obtain⟨c2,ec2⟩: ∃c2,cp -n=c2:=⟨_,rfl⟩
   obtain⟨sl2,hsl2,hcut⟩:=slC gb (0+j) L cp n hnL hcp
   rw[eL2] at hsl2 hcut
   rw[ec2] at hcut
   have hS8:=hS1.len
   have hB64:=hB2.len
   have hB64':=hB1.len
   have hsp:=cut3 b k n
   have Kr:Hid (CV wr b0 (RBm (U32 s++U8 (b.take k)) (U8 ((b.drop k).take n)) (U8 (b.drop (k+n))++[iU (cj:Int)]))):=by
    have h:=Kr.out
    rw[RB_mid _ hsp] at h
    exact h
   have h72:(RBm (U32 s++U8 (b.take k)) (U8 ((b.drop k).take n)) (U8 (b.drop (k+n))++[iU (cj:Int)]))[72]?=some (iU ((cj:Nat):Int)):=by
    rw[<-RB_mid _ hsp];exact RB_c hS8 hB64'
   have hx1:(U32 s++U8 (b.take k)).length=8+k:=by rw[List.length_append,Z9,Z2,List.length_take];omega
   have hy1:(U8 ((b.drop k).take n)).length=(U8 cs).length:=by rw[Z2,Z2,List.length_take,List.length_drop];omega
   have hgi:goInt (U8 cs).length=iI (n:Int):=by rw[Z2,hcl];rfl
   have hmn:(U8 cs).length=Nat.min L (64 -k):=by rw[Z2,hcl];exact en.symm
   have hcut:Hid _:=hcut
   have hBm:Hid _:=hBm
   have hSm:Hid _:=hSm
   have hcs:Hid ((xs.drop j).take n=cs):=ecs
   have hes:Hid (S j=s):=es
   have heb2:Hid (B (j+n)=b2):=eb2
   clear es eb eb2 ecs en hsp hB64'
   have K0_1:Bk b0 wr [(true,b0,RBm (U32 s++U8 (b.take k)) (U8 ((b.drop k).take n)) (U8 (b.drop (k+n))++[iU (cj:Int)])),(false,gb,U8 (xs))]:=⟨.o lr (by omega) Kr.out<| .c lx Kx.out<|trivial,by simp;omega⟩
   go_upto_region 0 with fail
   apply rgP K0_1 HBr (Nat.le_of_lt (by omega)) [] [] [(0,5,_),(1,6,_),(2,7,_)] [] [] []
   ·exact oc g_mv<|oc (g_ln Tryz.underlying43)<|oc (g_bn (fun uZ=>gtr_i _ _ (L:Int) 0 _ uZ hl1)) on
   intro u1 HB1 sz1 K1
   simp only[sQ] at K1⊢
   go_upto_region 1 with fail
   apply rgD K1 HB1 (Nat.le_of_lt (by omega)) [.all 10 (RBm (U32 s++U8 (b.take k)) (U8 cs) (U8 (b.drop (k+n))++[iU (cj:Int)]))] [] [(0,8,_),(1,9,_),(2,10,_),(3,11,_),(4,12,_),(5,13,_),(6,14,_),(7,15,_),(8,16,_),(9,17,_),(10,18,_),(11,4,_)] [(10,6),(8,6),(7,6)] [] []
   ·exact oc g_mv<|oc g_nl<|oc (g_fd (fdR1 _))<|oc g_mv<|oc g_nl<|oc (g_fd (fdR2 _))<|oc (g_lw 0 (72) l64 (h72))<|oc (g_bn (fun uZ=>rem64x _ _ cj 64 k uZ (by omega) (by decide) ek))<|oc (g_sl (slA b0 k hk))<|oc g_mv<|oc (g_cp 0 (U32 s++U8 (b.take k)) (U8 ((b.drop k).take n)) (U8 (b.drop (k+n))++[iU (cj:Int)]) (U8 cs) Tryz.underlying43 Vf hmn (fun f u kZ bZ=>by have:=(KC.cv kZ 1).sb;rw[<-hcs.out];exact this.cells j n) Va hx1 hy1 (hv:=congrArg some hgi))<|oc g_as on
   intro u2 HB2 _ K2
   simp only[sQ] at K2⊢
   rw[RB_mid2 cs hBm.out] at K2
   go_upto_region 2 with fail
   apply rgP K2 HB2 (Nat.le_of_lt (by omega)) [] [] [(0,19,_),(1,20,_),(2,21,_),(3,1,_)] [(3,0)] [(3,1)] []
   ·exact oc g_mv<|oc g_mv<|oc (g_sl hcut.out)<|oc g_as on
   intro u3 HB3 _ K3
   simp only[sQ] at K3⊢
   go_upto_region 3 with fail
   apply rgP K3 HB3 (Nat.le_of_lt (by omega)) [.all 9 (RB (s) (b2) (cn))] [] [(0,22,_),(1,23,_),(2,24,_),(3,25,_),(4,26,_),(5,27,_),(6,28,_),(7,29,_),(8,30,_)] [(9,3)] [] []
   ·exact oc g_mv<|oc g_nl<|oc (g_fd (fdR2 _))<|oc (g_lw 0 (72) l64 (RB_c hS8 hB64))<|oc g_mv<|oc (g_op (fun ev uZ he=>cvi64 uZ (by omega) rfl (he _ _ rfl)))<|oc (g_bn (fun uZ=>Xv _ _ cj n cn uZ ecn (by omega)))<|oc g_nl<|oc (g_fd (fdR2 _))<|oc (g_sw 0 (72) s64 (RB_c hS8 hB64) (RB_set _ _ _ _ hS8 hB64)) on
   intro u4 HB4 _ K4
   simp only[sQ] at K4⊢
   obtain⟨rm,erm⟩: ∃rm,cn%64=rm:=⟨_,rfl⟩
   by_cases hrm:rm=0
   ·have hz:((rm:Int)==0)=true:=by rw[beq_iff_eq];omega
    have hS2:=hSm.out
    rw[if_pos (by omega)] at hS2
    have hS2:Hid _:=hS2
    go_upto_region 4 with fail
    apply rgP K4 HB4 (Nat.le_of_lt (by omega)) [] [] [(0,31,_),(1,32,_),(2,33,_),(3,34,_),(4,35,_),(5,36,_)] [] [] []
    ·exact oc g_mv<|oc g_nl<|oc (g_fd (fdR2 _))<|oc (g_lw 0 (72) l64 (RB_c hS8 hB64))<|oc (g_bn (fun uZ=>rem64x _ _ cn 64 rm uZ (by omega) (by decide) erm))<|oc (g_bn (fun uZ=>eql_u _ _ _ (rm:Int) 0 _ uZ hz)) on
    intro u5 HB5 sz5 K5
    simp only[sQ] at K5⊢
    obtain⟨s2,es2⟩: ∃s2,blk s b2=s2:=⟨_,rfl⟩
    have hs28:s2.length=8:=by rw[<-es2];exact(blk_W hS1 b2).len
    have hblk:Hid (∀u,GV u->CC 162 #[.agg (U32 (s)).toArray,.agg (U8 (b2)).toArray] u (.agg (U32 (s2)).toArray)):=fun u hu=>by rw[<-es2];exact cBlock s b2 u hS1 hB2.len hB2.lt hu
    have hS2':Hid _:=hS2.out
    rw[es2] at hS2'
    clear es2 hS2
    go_upto_region 5 with fail
    apply rgD K5 HB5 (Nat.le_of_lt (by omega)) [.all 12 (RB (s2) (b2) (cn))] [] [(0,37,_),(1,38,_),(2,39,_),(3,40,_),(4,41,_),(5,42,_),(6,43,_),(7,44,_),(8,45,_),(9,46,_),(10,47,_),(11,48,_)] [(12,4),(12,8)] [] []
    ·exact oc g_mv<|oc g_mv<|oc g_nl<|oc (g_fd (fdR0 _))<|oc (g_lR 0 (0) (cs:=U32 (s)) RB_ss Tryz.underlying164 (by rw[Z9,hS8];exact Z8))<|oc g_mv<|oc g_nl<|oc (g_fd (fdR1 _))<|oc (g_lR 0 (8) (cs:=U8 (b2)) (RB_bs hS8) Tryz.underlying150 (by rw[Z2,hB64];exact Z6))<|oc (g_cb Uc (fun uZ bZ=>hblk.out uZ (hV.below bZ h1b)))<|oc g_nl<|oc (g_fd (fdR0 _))<|oc (g_sm 0 0 [] (U32 s) (U8 b2++[iU ((cn:Nat):Int)]) Z8 (post:=U32 s2) (h1:=Xt _) (hm:=by rw[Z9,hs28]) (hl:=by rw[Z9,Z9,hS8,hs28])) on
    intro u6 HB6 _ K6
    simp only[sQ] at K6⊢
    go_wp2
    refine⟨⟨j+n,L2,c2,sl2,by omega,rfl,(by rw[<-Nat.add_assoc];exact hsl2),by omega,HB6,(by rw[show c+(j+n)=cn by omega];exact(by rw[hS2'.out,heb2.out];exact(K6.cv 0))),(K6.lt 0),(K6.cv 1),(K6.lt 1)⟩,?_⟩
    show L2<L
    omega
   ·have hz:((rm:Int)==0)=false:=by rw[beq_eq_false_iff_ne];omega
    have hS2:=hSm.out
    rw[if_neg (by omega)] at hS2
    have hS2:Hid _:=hS2
    go_upto_region 4 with fail
    apply rgP K4 HB4 (Nat.le_of_lt (by omega)) [] [] [(0,31,_),(1,32,_),(2,33,_),(3,34,_),(4,35,_),(5,36,_)] [] [] []
    ·exact oc g_mv<|oc g_nl<|oc (g_fd (fdR2 _))<|oc (g_lw 0 (72) l64 (RB_c hS8 hB64))<|oc (g_bn (fun uZ=>rem64x _ _ cn 64 rm uZ (by omega) (by decide) erm))<|oc (g_bn (fun uZ=>eql_u _ _ _ (rm:Int) 0 _ uZ hz)) on
    intro u5 HB5 sz5 K5
    simp only[sQ] at K5⊢
    go_wp2
    refine⟨⟨j+n,L2,c2,sl2,by omega,rfl,(by rw[<-Nat.add_assoc];exact hsl2),by omega,HB5,(by rw[show c+(j+n)=cn by omega];exact(by rw[hS2.out,heb2.out];exact(K5.cv 0))),(K5.lt 0),(K5.cv 1),(K5.lt 1)⟩,?_⟩
    show L2<L
    omega
end Go.Proofs.YtofcppgfaelloaaGreatDoor
