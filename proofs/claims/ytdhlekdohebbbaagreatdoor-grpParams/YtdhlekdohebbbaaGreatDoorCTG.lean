import Derived.Test.YtdhlekdohebbbaaGreatDoorCTD
import Derived.Test.YtdhlekdohebbbaaGreatDoorCT8
import Derived.Test.YtdhlekdohebbbaaGreatDoorOC
namespace Go.Proofs.YtdhlekdohebbbaaGreatDoor
set_option linter.unusedVariables false
set_option linter.unusedSimpArgs false
set_option maxRecDepth 100000
set_option maxHeartbeats 4000000
open Go.RowKit
abbrev L0g:List Value:=[.int .u64 0,.int .u64 0,.int .u64 0,.int .u64 0,.int .u64 0,.int .u64 0,.int .u64 0,.int .u64 0,.int .u64 0,.int .u64 0,.int .u64 0,.int .u64 0,.int .u64 0,.int .u64 0,.int .u64 0,.int .u64 0]
theorem Xg(w:World):(Instr.alloc 26 true (.tuple #[])).run Tryz.prog w= .ok (.pointer (some ⟨w.heap.size,0,none⟩)) (w.alloc (.cells L0g.toArray 26)):=by kernel_rfl
theorem Z3:(Tryz.prog.info? 26).map (·.size)=some 16:=by kernel_rfl
theorem fdG0(b:Nat)(w:World):(Instr.fieldAt 26 (.pointer (some ⟨b,0,none⟩)) 0).run Tryz.prog w= .ok (.pointer (some ⟨b,0,none⟩)) w:=by go_simp
theorem fdG1(b:Nat)(w:World):(Instr.fieldAt 26 (.pointer (some ⟨b,0,none⟩)) 1).run Tryz.prog w= .ok (.pointer (some ⟨b,4,none⟩)) w:=by go_simp
theorem fdG2(b:Nat)(w:World):(Instr.fieldAt 26 (.pointer (some ⟨b,0,none⟩)) 2).run Tryz.prog w= .ok (.pointer (some ⟨b,8,none⟩)) w:=by go_simp
theorem fdG3(b:Nat)(w:World):(Instr.fieldAt 26 (.pointer (some ⟨b,0,none⟩)) 3).run Tryz.prog w= .ok (.pointer (some ⟨b,12,none⟩)) w:=by go_simp
theorem bdG(p q g h:Int)(w:World):(Instr.build 26 [(0,NV p),(1,NV q),(2,NV g),(3,NV h)].toArray).run Tryz.prog w= .ok (GX p q g h) w:=by kernel_rfl
def twB(p q:Int):Bool:=decide (p=2*q+1)
def gnB(a p q:Int):Bool:=decide (1<a/\a<p -1/\a^q.toNat%p=1)
theorem fdC1x(b x:Nat)(w:World):(Instr.fieldAt 48 (.pointer (some ⟨b,x,none⟩)) 1).run Tryz.prog w= .ok (.pointer (some ⟨b,x+4,none⟩)) w:=by go_simp
noncomputable def gpB (p q g h:Int) (cs:List (Int×Int×Int)):Bool:=cfB cs&&(decide ((cat cs (cs.length -1)).1=p)&&(decide ((cat cs (cs.length -1)).2.1=q)&&(twB p q&&(gnB g p q&&(gnB h p q&&!decide (g=h))))))
noncomputable def gpE (p q g h:Int) (cs:List (Int×Int×Int)):Int:=if gpB p q g h cs then 0 else 30
theorem gpE_f{p q g h:Int}{cs:List (Int×Int×Int)}(e:gpB p q g h cs=false):gpE p q g h cs=30:=by unfold gpE;rw[e];rfl
theorem gpE_t{p q g h:Int}{cs:List (Int×Int×Int)}(e:gpB p q g h cs=true):gpE p q g h cs=0:=by unfold gpE;rw[e];rfl
theorem Xd:EnT 38:=fun _ _=>by kernel_rfl
theorem Y5:EnT 39:=fun _ _=>by kernel_rfl
theorem Zc:EnT 21:=fun _ _=>by kernel_rfl
theorem Zr:EnT 23:=fun _ _=>by kernel_rfl
theorem Wo:EnT 8:=fun _ _=>by kernel_rfl
theorem Wd{w:World}{g o:Nat}{n f a:Int}(h:w.rangeAt g o (CE n f a)):w.rangeAt g (o+4) (LN f):=fun c v hc=>by
 have hl:c<4:=by have:=(List.getElem?_eq_some_iff.1 hc).1;simpa using this
 have:=h (4+c) v (by rcases (by omega:c=0\/c=1\/c=2\/c=3) with rfl | rfl | rfl | rfl<;>simpa using hc)
 rwa [<-Nat.add_assoc] at this
theorem V4{w:World}{b:Nat}{cs:List (Int×Int×Int)}(h:CV w b (flC cs))(j:Nat)(hj:j<cs.length):w.rangeAt b (0+12*j) (CE (cat cs j).1 (cat cs j).2.1 (cat cs j).2.2):=h.sct.at j hj
theorem xCheck(cs:List (Int×Int×Int))(N:Int)(R:Value)(b0 cap:Nat)(w:World)(hcs:cs.length<=256)(hin:Hid (∀j,j<cs.length->In (cat cs j).1/\In (cat cs j).2.1/\In (cat cs j).2.2))(hlt:b0<w.heap.size)(hcv:Hid (CV w b0 (flC cs)))(hlast:Hid ((cat cs (cs.length -1)).1=N))(hF:cfB cs=false->R= .tuple #[A4 0 0 0 0,.int .i64 30])(hTr:cfB cs=true->R= .tuple #[NV N,.int .i64 0]):
 CC 21 #[.slice (some ⟨b0,0,none⟩) cs.length cap] w R:=by
 go_enter Tryz.func21,Tryz.ntmps21
 go_upto_region 1 with fail
 obtain⟨v0,hC,HB0,K0⟩:=bx1 w L0s 24
 rw[hC]
 clear hC
 have hl:decide (256<(cs.length:Int))=false:=by simp;omega
 refine Rn K0 HB0 [(0,5,.slice (some ⟨b0,0,none⟩) cs.length cap),(1,6,.int .i64 (cs.length:Int)),(2,7,.bool false)] ?_ ?_
 ·exact oc g_mv<|oc (g_ln Tryz.underlying31)<|oc (g_bn (fun uZ=>Ww _ _ (cs.length:Int) 256 _ uZ hl)) on
 intro u1 HB1 sz1 K1
 simp only[sQ] at K1⊢
 clear K0 HB0
 by_cases h0:cs.length=0
 ·have hz:((cs.length:Int)==0)=true:=by rw[beq_iff_eq];omega
  have hFF:cfB cs=false:=by rw[cfB,h0];simp
  go_upto_region 3 with fail
  refine Rn K1 HB1 [(0,9,.slice (some ⟨b0,0,none⟩) cs.length cap),(1,10,.int .i64 (cs.length:Int)),(2,11,.bool true),(3,12,.bool true),(4,13,undef),(5,14,undef),(6,15,undef),(7,16,undef),(8,17,undef),(9,18,undef),(10,19,(Go.Value.bool Bool.true))] ?_ ?_
  ·exact oc g_mv<|oc (g_ln Tryz.underlying31)<|oc (g_bn (fun uZ=>Vb _ _ _ (cs.length:Int) 0 _ uZ hz))<|oc g_mv<|oc g_sk<|oc g_sk<|oc g_sk<|oc g_sk<|oc g_sk<|oc g_sk<|oc g_pk on
  intro u2 HB2 sz2 K2
  simp only[sQ] at K2⊢
  clear K1 HB1
  go_upto_region 4 with fail
  refine Rp K2 HB2 [.all 1 ([.int .u64 (0),.int .u64 (0),.int .u64 (0),.int .u64 (0)])] [] [(0,20,A4 (0) (0) (0) (0)),(2,3,(Go.Value.int Go.IntKind.i64 30))] [] [] [] ?_ ?_
  ·exact oc (g_bd zN)<|oc (g_st 0 iN)<|oc g_as on
  intro u3 HB3 sz3 K3
  simp only[sQ] at K3⊢
  clear K2 HB2
  have c2:=(K3.cv 0).n4
  go_wp2
  refine bodyPost_ret (v:= .tuple #[A4 0 0 0 0,.int .i64 30]) (by simp[results,Tryz.results21,go_sem,c2]) rfl ⟨by first | rfl | rw[hF hFF],HB3⟩
 ·have hz:((cs.length:Int)==0)=false:=by rw[beq_eq_false_iff_ne];omega
  obtain⟨n0,f0,a0,hc0⟩: ∃n f a,cat cs 0=(n,f,a):=⟨_,_,_,rfl⟩
  have hR0:=V4 hcv.out 0 (by omega)
  have hI0:=(hin.out 0 (by omega)).2.1
  rw[hc0] at hR0 hI0
  have hR0:Hid _:=Wd hR0
  have hF0:= @cfB_f cs 0 (by omega)
  rw[hc0] at hF0
  have hk0:knB cs 0=smB f0:=by rw[knB,hc0]
  obtain⟨s0,hs0⟩: ∃s,smB f0=s:=⟨_,rfl⟩
  have hsm:Hid (∀u,CC 38 #[NV f0] u (.bool s0)):=fun u=>by rw[<-hs0];exact xSmall f0 u hI0
  cases s0
  ·have hFF:cfB cs=false:=hF0 (by rw[hk0,hs0];rfl)
   go_upto_region 3 with fail
   refine Rn K1 HB1 [(0,9,.slice (some ⟨b0,0,none⟩) cs.length cap),(1,10,.int .i64 (cs.length:Int)),(2,11,.bool false),(3,12,.bool false),(4,13,.slice (some ⟨b0,0,none⟩) cs.length cap),(5,14,.pointer (some ⟨b0,0+12*0,none⟩)),(6,15,.pointer (some ⟨b0,0+12*0+4,none⟩)),(7,16,NV f0),(8,17,.bool false),(9,18,.bool true),(10,19,.bool true)] ?_ ?_
   ·exact oc g_mv<|oc (g_ln Tryz.underlying31)<|oc (g_bn (fun uZ=>Vb _ _ _ (cs.length:Int) 0 _ uZ hz))<|oc g_mv<|oc g_mv<|oc (g_ix (fun uZ=>ixC b0 0 cs.length cap 0 (by omega) uZ))<|oc (g_fd (fun uZ=>fdC1x _ _ uZ))<|oc (g_lf hR0.out hlt uN iN)<|oc (g_cl Xd (fun uZ=>hsm.out uZ))<|oc (g_un (fun uZ=>rfl))<|oc g_pk on
   intro u2 HB2 sz2 K2
   simp only[sQ] at K2⊢
   clear K1 HB1
   go_upto_region 4 with fail
   refine Rp K2 HB2 [.all 1 ([.int .u64 (0),.int .u64 (0),.int .u64 (0),.int .u64 (0)])] [] [(0,20,A4 (0) (0) (0) (0)),(2,3,(Go.Value.int Go.IntKind.i64 30))] [] [] [] ?_ ?_
   ·exact oc (g_bd zN)<|oc (g_st 0 iN)<|oc g_as on
   intro u3 HB3 sz3 K3
   simp only[sQ] at K3⊢
   clear K2 HB2
   have c2:=(K3.cv 0).n4
   go_wp2
   refine bodyPost_ret (v:= .tuple #[A4 0 0 0 0,.int .i64 30]) (by simp[results,Tryz.results21,go_sem,c2]) rfl ⟨by first | rfl | rw[hF hFF],HB3⟩
  ·skip
   go_upto_region 3 with fail
   refine Rn K1 HB1 [(0,9,.slice (some ⟨b0,0,none⟩) cs.length cap),(1,10,.int .i64 (cs.length:Int)),(2,11,.bool false),(3,12,.bool false),(4,13,.slice (some ⟨b0,0,none⟩) cs.length cap),(5,14,.pointer (some ⟨b0,0+12*0,none⟩)),(6,15,.pointer (some ⟨b0,0+12*0+4,none⟩)),(7,16,NV f0),(8,17,.bool true),(9,18,.bool false),(10,19,.bool false)] ?_ ?_
   ·exact oc g_mv<|oc (g_ln Tryz.underlying31)<|oc (g_bn (fun uZ=>Vb _ _ _ (cs.length:Int) 0 _ uZ hz))<|oc g_mv<|oc g_mv<|oc (g_ix (fun uZ=>ixC b0 0 cs.length cap 0 (by omega) uZ))<|oc (g_fd (fun uZ=>fdC1x _ _ uZ))<|oc (g_lf hR0.out hlt uN iN)<|oc (g_cl Xd (fun uZ=>hsm.out uZ))<|oc (g_un (fun uZ=>rfl))<|oc g_pk on
   intro u2 HB2 sz2 K2
   simp only[sQ] at K2⊢
   clear K1 HB1
   go_upto_region 5 with fail
   refine Rn K2 HB2 [(0,4,(Go.Value.int Go.IntKind.i64 0))] ?_ ?_
   ·exact oc g_as on
   intro u3 HB3 sz3 K3
   simp only[sQ] at K3⊢
   clear K2 HB2
   go_wp2_with fail
   go_loopw [4] (fun s4 wr=> ∃(k:Nat),k<=cs.length/\s4= .int .i64 (k:Int)/\Hid (crB cs k=true)/\Bw w wr/\CV wr w.heap.size L0s/\w.heap.size<wr.heap.size) (fun s4 _=>cs.length -(intOf s4).toNat)
   case atStart=>exact⟨0,by omega,rfl,rfl,HB3,(K3.cv 0),(K3.lt 0)⟩
   case round=>
    obtain⟨k,hk,rfl,hA,HBr,KR,lR⟩:=hrel
    clear HB3
    by_cases hj:k<cs.length
    ·have hl1:decide ((k:Int)<(cs.length:Int))=true:=by simp;omega
     obtain⟨n,f,a,hc⟩: ∃n f a,cat cs k=(n,f,a):=⟨_,_,_,rfl⟩
     have hR:=V4 hcv.out k hj
     have hI:=hin.out k hj
     have hFk:= @cfB_f cs k hj
     have hT:crB cs (k+1)=(crB cs k&&(knB cs k&&stB (cat cs k).1 (cat cs k).2.1 (cat cs k).2.2)):=rfl
     rw[hc] at hR hI hFk hT
     rw[hA.out] at hT
     obtain⟨hn,hf,ha⟩:=hI
     have hRF:Hid _:=Wd hR
     have hR:Hid _:=hR
     have hX:=ixC b0 0 cs.length cap k hj
     have hX:Hid _:=hX
     obtain⟨s,hs⟩: ∃s,stB n f a=s:=⟨_,rfl⟩
     have hst:Hid (∀u,CC 39 #[CX n f a] u (.bool s)):=fun u=>by rw[<-hs];exact xStep n f a u hn hf ha
     have K3_1:Bk w.heap.size wr [(true,w.heap.size,L0s)]:=⟨.o lR (K3.lo 0) KR<|trivial,by simp⟩
     go_upto_region 6 with fail
     refine Rn K3_1 HBr [(0,21,.int .i64 (k:Int)),(1,22,.slice (some ⟨b0,0,none⟩) cs.length cap),(2,23,.int .i64 (cs.length:Int)),(3,24,.bool true)] ?_ ?_
     ·exact oc g_mv<|oc g_mv<|oc (g_ln Tryz.underlying31)<|oc (g_bn (fun uZ=>Zg _ _ (k:Int) (cs.length:Int) _ uZ hl1)) on
     intro u4 HB4 sz4 K4
     simp only[sQ] at K4⊢
     by_cases hz0:k=0
     ·have hz2:decide (0<(k:Int))=false:=by simp;omega
      have hkn:knB cs k=true:=by subst hz0;rw[hk0,hs0]
      cases s
      ·have hFF:cfB cs=false:=hFk (by rw[hs,Bool.and_false])
       go_upto_region 8 with fail
       refine Rm K4 HB4 [(0,27,.int .i64 (k:Int)),(1,28,.bool false),(2,29,.bool false),(3,30,undef),(4,31,undef),(5,32,undef),(6,33,undef),(7,34,undef),(8,35,undef),(9,36,undef),(10,37,undef),(11,38,undef),(12,39,undef),(13,40,undef),(14,41,undef),(15,42,(Go.Value.bool Bool.false)),(16,43,(Go.Value.bool Bool.false)),(17,44,.slice (some ⟨b0,0,none⟩) cs.length cap),(18,45,.int .i64 (k:Int)),(19,46,.pointer (some ⟨b0,0+12*k,none⟩)),(20,47,CX n f a),(21,48,.bool false),(22,49,.bool true),(23,50,.bool true)] ?_ ?_
       ·exact oc g_mv<|oc (g_bn (fun uZ=>Ww _ _ (k:Int) 0 _ uZ hz2))<|oc g_mv<|oc g_sk<|oc g_sk<|oc g_sk<|oc g_sk<|oc g_sk<|oc g_sk<|oc g_sk<|oc g_sk<|oc g_sk<|oc g_sk<|oc g_sk<|oc g_sk<|oc g_pk<|oc g_mv<|oc g_mv<|oc g_mv<|oc (g_ix (fun uZ=>hX.out uZ))<|oc (g_lf hR.out hlt Tryz.underlying48 Yu)<|oc (g_cl Y5 (fun uZ=>hst.out uZ))<|oc (g_un (fun uZ=>rfl))<|oc g_pk on
       intro u5 HB5 sz5 K5
       simp only[sQ] at K5⊢
       clear K4 HB4
       go_upto_region 9 with fail
       refine Rp K5 HB5 [.all 1 ([.int .u64 (0),.int .u64 (0),.int .u64 (0),.int .u64 (0)])] [] [(0,51,A4 (0) (0) (0) (0)),(2,3,(Go.Value.int Go.IntKind.i64 30))] [] [] [] ?_ ?_
       ·exact oc (g_bd zN)<|oc (g_st 0 iN)<|oc g_as on
       intro u6 HB6 sz6 K6
       simp only[sQ] at K6⊢
       clear K5 HB5
       have c2:=(K6.cv 0).n4
       go_wp2
       refine bodyPost_ret (v:= .tuple #[A4 0 0 0 0,.int .i64 30]) (by simp[results,Tryz.results21,go_sem,c2]) rfl ⟨by first | rfl | rw[hF hFF],HB6⟩
      ·skip
       go_upto_region 8 with fail
       refine Rm K4 HB4 [(0,27,.int .i64 (k:Int)),(1,28,.bool false),(2,29,.bool false),(3,30,undef),(4,31,undef),(5,32,undef),(6,33,undef),(7,34,undef),(8,35,undef),(9,36,undef),(10,37,undef),(11,38,undef),(12,39,undef),(13,40,undef),(14,41,undef),(15,42,(Go.Value.bool Bool.false)),(16,43,(Go.Value.bool Bool.false)),(17,44,.slice (some ⟨b0,0,none⟩) cs.length cap),(18,45,.int .i64 (k:Int)),(19,46,.pointer (some ⟨b0,0+12*k,none⟩)),(20,47,CX n f a),(21,48,.bool true),(22,49,.bool false),(23,50,.bool false)] ?_ ?_
       ·exact oc g_mv<|oc (g_bn (fun uZ=>Ww _ _ (k:Int) 0 _ uZ hz2))<|oc g_mv<|oc g_sk<|oc g_sk<|oc g_sk<|oc g_sk<|oc g_sk<|oc g_sk<|oc g_sk<|oc g_sk<|oc g_sk<|oc g_sk<|oc g_sk<|oc g_sk<|oc g_pk<|oc g_mv<|oc g_mv<|oc g_mv<|oc (g_ix (fun uZ=>hX.out uZ))<|oc (g_lf hR.out hlt Tryz.underlying48 Yu)<|oc (g_cl Y5 (fun uZ=>hst.out uZ))<|oc (g_un (fun uZ=>rfl))<|oc g_pk on
       intro u5 HB5 sz5 K5
       simp only[sQ] at K5⊢
       clear K4 HB4
       go_upto_region 7 with fail
       refine Rp K5 HB5 [] [] [(0,25,.int .i64 (k:Int)),(1,26,.int .i64 ((k+1:Nat):Int)),(2,4,.int .i64 ((k+1:Nat):Int))] [(2,0)] [(2,4)] [] ?_ ?_
       ·exact oc g_mv<|oc (g_bn (fun uZ=>Zy _ _ (k:Int) 1 ((k+1:Nat):Int) uZ (by omega) (by omega) (by omega)))<|oc g_as on
       intro u6 HB6 sz6 K6
       simp only[sQ] at K6⊢
       clear K5 HB5
       go_wp2
       refine⟨⟨k+1,by omega,rfl,(by rw[hT,hkn,hs];rfl),HB6,(K6.cv 0),(K6.lt 0)⟩,?_⟩
       simp[intOf]<;>omega
     ·obtain⟨n',f',a',hc'⟩: ∃n f a,cat cs (k -1)=(n,f,a):=⟨_,_,_,rfl⟩
      have hR2:=V4 hcv.out (k -1) (by omega)
      have hI2:=hin.out (k -1) (by omega)
      rw[hc'] at hR2 hI2
      have hR2:Hid _:=range_N hR2
      have hn':In n':=hI2.1
      clear hI2
      have hX2:=ixC b0 0 cs.length cap (k -1) (by omega)
      have hX2:Hid _:=hX2
      have hz2:decide (0<(k:Int))=true:=by simp;omega
      have hz3:(k:Int) -1=((k -1:Nat):Int):=by omega
      have hke:knB cs k=decide (f=n'):=by
       obtain⟨j,rfl⟩: ∃j,k=j+1:=⟨k -1,by omega⟩
       rw[Nat.add_sub_cancel] at hc'
       rw[knB,hc,hc']
      obtain⟨b,hkn⟩: ∃b,knB cs k=b:=⟨_,rfl⟩
      have hkd:decide (f=n')=!!b:=by rw[<-hke,hkn,Bool.not_not]
      cases b
      ·have hFF:cfB cs=false:=hFk (by rw[hkn];rfl)
       go_upto_region 8 with fail
       refine Rm K4 HB4 [(0,27,.int .i64 (k:Int)),(1,28,.bool true),(2,29,.bool true),(3,30,.slice (some ⟨b0,0,none⟩) cs.length cap),(4,31,.int .i64 (k:Int)),(5,32,.pointer (some ⟨b0,0+12*k,none⟩)),(6,33,.pointer (some ⟨b0,0+12*k+4,none⟩)),(7,34,NV f),(8,35,.slice (some ⟨b0,0,none⟩) cs.length cap),(9,36,.int .i64 (k:Int)),(10,37,.int .i64 ((k -1:Nat):Int)),(11,38,.pointer (some ⟨b0,0+12*(k -1),none⟩)),(12,39,.pointer (some ⟨b0,0+12*(k -1),none⟩)),(13,40,NV (n')),(14,41,.bool true),(15,42,.bool true),(16,43,.bool true),(17,44,undef),(18,45,undef),(19,46,undef),(20,47,undef),(21,48,undef),(22,49,undef),(23,50,(Go.Value.bool Bool.true))] ?_ ?_
       ·exact oc g_mv<|oc (g_bn (fun uZ=>Ww _ _ (k:Int) 0 _ uZ hz2))<|oc g_mv<|oc g_mv<|oc g_mv<|oc (g_ix (fun uZ=>hX.out uZ))<|oc (g_fd (fun uZ=>fdC1x _ _ uZ))<|oc (g_lf hRF.out hlt uN iN)<|oc g_mv<|oc g_mv<|oc (g_bn (fun uZ=>Y6 _ _ (k:Int) 1 ((k -1:Nat):Int) uZ hz3 (by omega) (by omega)))<|oc (g_ix (fun uZ=>hX2.out uZ))<|oc (g_fd (fun uZ=>fdCx _ _ uZ))<|oc (g_lf hR2.out hlt uN iN)<|oc (g_bn (fun uZ=>Yy _ _ hf hn' _ hkd uZ))<|oc g_pk<|oc g_mv<|oc g_sk<|oc g_sk<|oc g_sk<|oc g_sk<|oc g_sk<|oc g_sk<|oc g_pk on
       intro u5 HB5 sz5 K5
       simp only[sQ] at K5⊢
       clear K4 HB4
       go_upto_region 9 with fail
       refine Rp K5 HB5 [.all 1 ([.int .u64 (0),.int .u64 (0),.int .u64 (0),.int .u64 (0)])] [] [(0,51,A4 (0) (0) (0) (0)),(2,3,(Go.Value.int Go.IntKind.i64 30))] [] [] [] ?_ ?_
       ·exact oc (g_bd zN)<|oc (g_st 0 iN)<|oc g_as on
       intro u6 HB6 sz6 K6
       simp only[sQ] at K6⊢
       clear K5 HB5
       have c2:=(K6.cv 0).n4
       go_wp2
       refine bodyPost_ret (v:= .tuple #[A4 0 0 0 0,.int .i64 30]) (by simp[results,Tryz.results21,go_sem,c2]) rfl ⟨by first | rfl | rw[hF hFF],HB6⟩
      ·cases s
       ·have hFF:cfB cs=false:=hFk (by rw[hs,Bool.and_false])
        go_upto_region 8 with fail
        refine Rm K4 HB4 [(0,27,.int .i64 (k:Int)),(1,28,.bool true),(2,29,.bool true),(3,30,.slice (some ⟨b0,0,none⟩) cs.length cap),(4,31,.int .i64 (k:Int)),(5,32,.pointer (some ⟨b0,0+12*k,none⟩)),(6,33,.pointer (some ⟨b0,0+12*k+4,none⟩)),(7,34,NV f),(8,35,.slice (some ⟨b0,0,none⟩) cs.length cap),(9,36,.int .i64 (k:Int)),(10,37,.int .i64 ((k -1:Nat):Int)),(11,38,.pointer (some ⟨b0,0+12*(k -1),none⟩)),(12,39,.pointer (some ⟨b0,0+12*(k -1),none⟩)),(13,40,NV (n')),(14,41,.bool false),(15,42,.bool false),(16,43,.bool false),(17,44,.slice (some ⟨b0,0,none⟩) cs.length cap),(18,45,.int .i64 (k:Int)),(19,46,.pointer (some ⟨b0,0+12*k,none⟩)),(20,47,CX n f a),(21,48,.bool false),(22,49,.bool true),(23,50,.bool true)] ?_ ?_
        ·exact oc g_mv<|oc (g_bn (fun uZ=>Ww _ _ (k:Int) 0 _ uZ hz2))<|oc g_mv<|oc g_mv<|oc g_mv<|oc (g_ix (fun uZ=>hX.out uZ))<|oc (g_fd (fun uZ=>fdC1x _ _ uZ))<|oc (g_lf hRF.out hlt uN iN)<|oc g_mv<|oc g_mv<|oc (g_bn (fun uZ=>Y6 _ _ (k:Int) 1 ((k -1:Nat):Int) uZ hz3 (by omega) (by omega)))<|oc (g_ix (fun uZ=>hX2.out uZ))<|oc (g_fd (fun uZ=>fdCx _ _ uZ))<|oc (g_lf hR2.out hlt uN iN)<|oc (g_bn (fun uZ=>Yy _ _ hf hn' _ hkd uZ))<|oc g_pk<|oc g_mv<|oc g_mv<|oc g_mv<|oc (g_ix (fun uZ=>hX.out uZ))<|oc (g_lf hR.out hlt Tryz.underlying48 Yu)<|oc (g_cl Y5 (fun uZ=>hst.out uZ))<|oc (g_un (fun uZ=>rfl))<|oc g_pk on
        intro u5 HB5 sz5 K5
        simp only[sQ] at K5⊢
        clear K4 HB4
        go_upto_region 9 with fail
        refine Rp K5 HB5 [.all 1 ([.int .u64 (0),.int .u64 (0),.int .u64 (0),.int .u64 (0)])] [] [(0,51,A4 (0) (0) (0) (0)),(2,3,(Go.Value.int Go.IntKind.i64 30))] [] [] [] ?_ ?_
        ·exact oc (g_bd zN)<|oc (g_st 0 iN)<|oc g_as on
        intro u6 HB6 sz6 K6
        simp only[sQ] at K6⊢
        clear K5 HB5
        have c2:=(K6.cv 0).n4
        go_wp2
        refine bodyPost_ret (v:= .tuple #[A4 0 0 0 0,.int .i64 30]) (by simp[results,Tryz.results21,go_sem,c2]) rfl ⟨by first | rfl | rw[hF hFF],HB6⟩
       ·skip
        go_upto_region 8 with fail
        refine Rm K4 HB4 [(0,27,.int .i64 (k:Int)),(1,28,.bool true),(2,29,.bool true),(3,30,.slice (some ⟨b0,0,none⟩) cs.length cap),(4,31,.int .i64 (k:Int)),(5,32,.pointer (some ⟨b0,0+12*k,none⟩)),(6,33,.pointer (some ⟨b0,0+12*k+4,none⟩)),(7,34,NV f),(8,35,.slice (some ⟨b0,0,none⟩) cs.length cap),(9,36,.int .i64 (k:Int)),(10,37,.int .i64 ((k -1:Nat):Int)),(11,38,.pointer (some ⟨b0,0+12*(k -1),none⟩)),(12,39,.pointer (some ⟨b0,0+12*(k -1),none⟩)),(13,40,NV (n')),(14,41,.bool false),(15,42,.bool false),(16,43,.bool false),(17,44,.slice (some ⟨b0,0,none⟩) cs.length cap),(18,45,.int .i64 (k:Int)),(19,46,.pointer (some ⟨b0,0+12*k,none⟩)),(20,47,CX n f a),(21,48,.bool true),(22,49,.bool false),(23,50,.bool false)] ?_ ?_
        ·exact oc g_mv<|oc (g_bn (fun uZ=>Ww _ _ (k:Int) 0 _ uZ hz2))<|oc g_mv<|oc g_mv<|oc g_mv<|oc (g_ix (fun uZ=>hX.out uZ))<|oc (g_fd (fun uZ=>fdC1x _ _ uZ))<|oc (g_lf hRF.out hlt uN iN)<|oc g_mv<|oc g_mv<|oc (g_bn (fun uZ=>Y6 _ _ (k:Int) 1 ((k -1:Nat):Int) uZ hz3 (by omega) (by omega)))<|oc (g_ix (fun uZ=>hX2.out uZ))<|oc (g_fd (fun uZ=>fdCx _ _ uZ))<|oc (g_lf hR2.out hlt uN iN)<|oc (g_bn (fun uZ=>Yy _ _ hf hn' _ hkd uZ))<|oc g_pk<|oc g_mv<|oc g_mv<|oc g_mv<|oc (g_ix (fun uZ=>hX.out uZ))<|oc (g_lf hR.out hlt Tryz.underlying48 Yu)<|oc (g_cl Y5 (fun uZ=>hst.out uZ))<|oc (g_un (fun uZ=>rfl))<|oc g_pk on
        intro u5 HB5 sz5 K5
        simp only[sQ] at K5⊢
        clear K4 HB4
        go_upto_region 7 with fail
        refine Rp K5 HB5 [] [] [(0,25,.int .i64 (k:Int)),(1,26,.int .i64 ((k+1:Nat):Int)),(2,4,.int .i64 ((k+1:Nat):Int))] [(2,0)] [(2,4)] [] ?_ ?_
        ·exact oc g_mv<|oc (g_bn (fun uZ=>Zy _ _ (k:Int) 1 ((k+1:Nat):Int) uZ (by omega) (by omega) (by omega)))<|oc g_as on
        intro u6 HB6 sz6 K6
        simp only[sQ] at K6⊢
        clear K5 HB5
        go_wp2
        refine⟨⟨k+1,by omega,rfl,(by rw[hT,hkn,hs];rfl),HB6,(K6.cv 0),(K6.lt 0)⟩,?_⟩
        simp[intOf]<;>omega
    ·have hl1:decide ((k:Int)<(cs.length:Int))=false:=by simp;omega
     have hkn:k=cs.length:=by omega
     have hTT:cfB cs=true:=by rw[cfB,<-hkn,hA.out,Bool.true_and];simp;omega
     have hR:=range_N (V4 hcv.out (cs.length -1) (by omega))
     rw[hlast.out] at hR
     have hR:Hid _:=hR
     have hX:=ixC b0 0 cs.length cap (cs.length -1) (by omega)
     have hX:Hid _:=hX
     have hz3:(cs.length:Int) -1=((cs.length -1:Nat):Int):=by omega
     have K3_1:Bk w.heap.size wr [(true,w.heap.size,L0s)]:=⟨.o lR (K3.lo 0) KR<|trivial,by simp⟩
     go_upto_region 6 with fail
     refine Rn K3_1 HBr [(0,21,.int .i64 (k:Int)),(1,22,.slice (some ⟨b0,0,none⟩) cs.length cap),(2,23,.int .i64 (cs.length:Int)),(3,24,.bool false)] ?_ ?_
     ·exact oc g_mv<|oc g_mv<|oc (g_ln Tryz.underlying31)<|oc (g_bn (fun uZ=>Zg _ _ (k:Int) (cs.length:Int) _ uZ hl1)) on
     intro u4 HB4 sz4 K4
     simp only[sQ] at K4⊢
     go_upto_region 10 with fail
     refine Rp K4 HB4 [.all 7 (LN N)] [] [(0,52,.slice (some ⟨b0,0,none⟩) cs.length cap),(1,53,.slice (some ⟨b0,0,none⟩) cs.length cap),(2,54,.int .i64 (cs.length:Int)),(3,55,.int .i64 ((cs.length -1:Nat):Int)),(4,56,.pointer (some ⟨b0,0+12*(cs.length -1),none⟩)),(5,57,.pointer (some ⟨b0,0+12*(cs.length -1),none⟩)),(6,58,NV N),(8,3,(Go.Value.int Go.IntKind.i64 0))] [] [] [] ?_ ?_
     ·exact oc g_mv<|oc g_mv<|oc (g_ln Tryz.underlying31)<|oc (g_bn (fun uZ=>Y6 _ _ (cs.length:Int) 1 ((cs.length -1:Nat):Int) uZ hz3 (by omega) (by omega)))<|oc (g_ix (fun uZ=>hX.out uZ))<|oc (g_fd (fun uZ=>fdCx _ _ uZ))<|oc (g_lf hR.out hlt uN iN)<|oc (g_st 0 iN)<|oc g_as on
     intro u5 HB5 sz5 K5
     simp only[sQ] at K5⊢
     clear K4 HB4
     have c2:=(K5.cv 0).n4
     go_wp2
     refine bodyPost_ret (v:= .tuple #[NV N,.int .i64 0]) (by simp[results,Tryz.results21,go_sem,c2]) rfl ⟨by first | rfl | rw[hTr hTT],HB5⟩
theorem xmem_lo(x p q:Int)(w:World)(hx:In x)(hp:In p)(hq:In q)(ip:In (p -1))(hp0:1<=p)(h1:decide (cmpI x 1<=0)=true):
 CC 23 #[NV x,NV p,NV q] w (.bool false):=by
 go_enter Tryz.func23,Tryz.ntmps23
 go_upto_region 1 with fail
 obtain⟨v0,hC,HB0,K0⟩:=bx3 w (LN x) 24 (LN p) 24 (LN q) 24
 rw[hC]
 clear hC
 refine Rp K0 HB0 [] [(6,7,L0s,some (7,LN (p -1)))] [(0,12,NV p),(1,13,NV 1),(2,14,.tuple #[NV (p -1),.bool false]),(3,11,.tuple #[NV (p -1),.bool false]),(4,15,NV (p -1)),(5,16,.bool false),(8,8,.bool false)] [(7,6)] [] [true,false,false,false] ?_ ?_
 ·exact oc (g_ld 1 uN iN)<|oc (g_bd (fun uZ=>bdX 1 (by omega) (by omega) uZ))<|oc (g_cl Z6 (fun uZ=>Vp p 1 uZ hp In_1 hp0))<|oc g_mv<|oc g_ex<|oc g_ex<|oc (g_al 0 aN)<|oc (g_sn 0 iN)<|oc g_as on
 intro u1 b1_6 HB1 sz1 K1
 simp only[sQ] at K1⊢
 clear K0 HB0
 go_upto_region 2 with fail
 refine Rp K1 HB1 [] [] [(0,17,NV x),(1,18,NV 1),(2,19,.int .i64 (cmpI x 1)),(3,20,.bool true),(4,21,.bool true),(5,22,undef),(6,23,undef),(7,24,undef),(8,25,undef),(9,26,(Go.Value.bool Bool.true))] [] [] [false] ?_ ?_
 ·exact oc (g_ld 0 uN iN)<|oc (g_bd (fun uZ=>bdX 1 (by omega) (by omega) uZ))<|oc (g_cl Z0 (fun uZ=>Zk x 1 uZ hx In_1))<|oc (g_bn (fun uZ=>leq_i _ _ (cmpI x 1) 0 _ uZ h1))<|oc g_mv<|oc g_sk<|oc g_sk<|oc g_sk<|oc g_sk<|oc g_pk on
 intro u2 HB2 sz2 K2
 simp only[sQ] at K2⊢
 clear K1 HB1
 go_upto_region 3 with fail
 refine Rn K2 HB2 [(0,6,(Go.Value.bool Bool.false))] ?_ ?_
 ·exact oc g_as on
 intro u3 HB3 sz3 K3
 simp only[sQ] at K3⊢
 clear K2 HB2
 go_wp2
 refine bodyPost_ret (v:= .bool false) (by simp[results,Tryz.results23,go_sem,]) rfl ⟨rfl,HB3⟩
theorem xmem_hi(x p q:Int)(w:World)(hx:In x)(hp:In p)(hq:In q)(ip:In (p -1))(hp0:1<=p)(h1:decide (cmpI x 1<=0)=false)(h2:decide (0<=cmpI x (p -1))=true):
 CC 23 #[NV x,NV p,NV q] w (.bool false):=by
 go_enter Tryz.func23,Tryz.ntmps23
 go_upto_region 1 with fail
 obtain⟨v0,hC,HB0,K0⟩:=bx3 w (LN x) 24 (LN p) 24 (LN q) 24
 rw[hC]
 clear hC
 refine Rp K0 HB0 [] [(6,7,L0s,some (7,LN (p -1)))] [(0,12,NV p),(1,13,NV 1),(2,14,.tuple #[NV (p -1),.bool false]),(3,11,.tuple #[NV (p -1),.bool false]),(4,15,NV (p -1)),(5,16,.bool false),(8,8,.bool false)] [(7,6)] [] [true,false,false] ?_ ?_
 ·exact oc (g_ld 1 uN iN)<|oc (g_bd (fun uZ=>bdX 1 (by omega) (by omega) uZ))<|oc (g_cl Z6 (fun uZ=>Vp p 1 uZ hp In_1 hp0))<|oc g_mv<|oc g_ex<|oc g_ex<|oc (g_al 0 aN)<|oc (g_sn 0 iN)<|oc g_as on
 intro u1 b1_6 HB1 sz1 K1
 simp only[sQ] at K1⊢
 clear K0 HB0
 go_upto_region 2 with fail
 refine Rp K1 HB1 [] [] [(0,17,NV x),(1,18,NV 1),(2,19,.int .i64 (cmpI x 1)),(3,20,.bool false),(4,21,.bool false),(5,22,NV x),(6,23,NV (p -1)),(7,24,.int .i64 (cmpI x (p -1))),(8,25,.bool true),(9,26,.bool true)] [] [] [false,false] ?_ ?_
 ·exact oc (g_ld 0 uN iN)<|oc (g_bd (fun uZ=>bdX 1 (by omega) (by omega) uZ))<|oc (g_cl Z0 (fun uZ=>Zk x 1 uZ hx In_1))<|oc (g_bn (fun uZ=>leq_i _ _ (cmpI x 1) 0 _ uZ h1))<|oc g_mv<|oc (g_ld 0 uN iN)<|oc (g_ld 1 uN iN)<|oc (g_cl Z0 (fun uZ=>Zk x (p -1) uZ hx ip))<|oc (g_bn (fun uZ=>Tn _ _ (cmpI x (p -1)) 0 _ uZ h2))<|oc g_pk on
 intro u2 HB2 sz2 K2
 simp only[sQ] at K2⊢
 clear K1 HB1
 go_upto_region 3 with fail
 refine Rn K2 HB2 [(0,6,(Go.Value.bool Bool.false))] ?_ ?_
 ·exact oc g_as on
 intro u3 HB3 sz3 K3
 simp only[sQ] at K3⊢
 clear K2 HB2
 go_wp2
 refine bodyPost_ret (v:= .bool false) (by simp[results,Tryz.results23,go_sem,]) rfl ⟨rfl,HB3⟩
theorem xmem_go(x p q:Int)(w:World)(hx:In x)(hp:In p)(hq:In q)(ip:In (p -1))(hp0:1<=p)(b:Bool)(h1:decide (cmpI x 1<=0)=false)(h2:decide (0<=cmpI x (p -1))=false)(h3:decide (x^q.toNat%p=1)=b):
 CC 23 #[NV x,NV p,NV q] w (.bool b):=by
 go_enter Tryz.func23,Tryz.ntmps23
 go_upto_region 1 with fail
 obtain⟨v0,hC,HB0,K0⟩:=bx3 w (LN x) 24 (LN p) 24 (LN q) 24
 rw[hC]
 clear hC
 refine Rp K0 HB0 [] [(6,7,L0s,some (7,LN (p -1)))] [(0,12,NV p),(1,13,NV 1),(2,14,.tuple #[NV (p -1),.bool false]),(3,11,.tuple #[NV (p -1),.bool false]),(4,15,NV (p -1)),(5,16,.bool false),(8,8,.bool false)] [(7,6)] [] [] ?_ ?_
 ·exact oc (g_ld 1 uN iN)<|oc (g_bd (fun uZ=>bdX 1 (by omega) (by omega) uZ))<|oc (g_cl Z6 (fun uZ=>Vp p 1 uZ hp In_1 hp0))<|oc g_mv<|oc g_ex<|oc g_ex<|oc (g_al 0 aN)<|oc (g_sn 0 iN)<|oc g_as on
 intro u1 b1_6 HB1 sz1 K1
 simp only[sQ] at K1⊢
 clear K0 HB0
 go_upto_region 2 with fail
 refine Rp K1 HB1 [] [] [(0,17,NV x),(1,18,NV 1),(2,19,.int .i64 (cmpI x 1)),(3,20,.bool false),(4,21,.bool false),(5,22,NV x),(6,23,NV (p -1)),(7,24,.int .i64 (cmpI x (p -1))),(8,25,.bool false),(9,26,.bool false)] [] [] [true,true,true,false] ?_ ?_
 ·exact oc (g_ld 0 uN iN)<|oc (g_bd (fun uZ=>bdX 1 (by omega) (by omega) uZ))<|oc (g_cl Z0 (fun uZ=>Zk x 1 uZ hx In_1))<|oc (g_bn (fun uZ=>leq_i _ _ (cmpI x 1) 0 _ uZ h1))<|oc g_mv<|oc (g_ld 0 uN iN)<|oc (g_ld 3 uN iN)<|oc (g_cl Z0 (fun uZ=>Zk x (p -1) uZ hx ip))<|oc (g_bn (fun uZ=>Tn _ _ (cmpI x (p -1)) 0 _ uZ h2))<|oc g_pk on
 intro u2 HB2 sz2 K2
 simp only[sQ] at K2⊢
 clear K1 HB1
 go_upto_region 4 with fail
 refine Rp K2 HB2 [] [(7,9,L0s,some (8,LN (x^q.toNat%p)))] [(0,28,NV x),(1,29,NV q),(2,30,NV p),(3,31,.tuple #[NV (x^q.toNat%p),.int .i64 0]),(4,27,.tuple #[NV (x^q.toNat%p),.int .i64 0]),(5,32,NV (x^q.toNat%p)),(6,33,.int .i64 0),(9,10,.int .i64 0)] [(8,7)] [] [false,false,false] ?_ ?_
 ·exact oc (g_ld 0 uN iN)<|oc (g_ld 2 uN iN)<|oc (g_ld 1 uN iN)<|oc (g_cl Z9 (fun uZ=>xExp x q p uZ hx hq hp (by omega)))<|oc g_mv<|oc g_ex<|oc g_ex<|oc (g_al 0 aN)<|oc (g_sn 0 iN)<|oc g_as on
 intro u3 b3_7 HB3 sz3 K3
 simp only[sQ] at K3⊢
 clear K2 HB2
 go_upto_region 5 with fail
 refine Rp K3 HB3 [] [] [(0,34,NV (x^q.toNat%p)),(1,35,NV 1),(2,36,.bool b),(3,6,.bool b)] [] [] [false] ?_ ?_
 ·exact oc (g_ld 0 uN iN)<|oc (g_bd (fun uZ=>bdX 1 (by omega) (by omega) uZ))<|oc (g_bn (fun uZ=>W3 _ _ (Y9 hp (by omega)) In_1 _ h3 uZ))<|oc g_as on
 intro u4 HB4 sz4 K4
 simp only[sQ] at K4⊢
 clear K3 HB3
 go_wp2
 refine bodyPost_ret (v:= .bool b) (by simp[results,Tryz.results23,go_sem,]) rfl ⟨rfl,HB4⟩
theorem xMember(x p q:Int)(w:World)(hx:In x)(hp:In p)(hq:In q)(hp0:1<=p):CC 23 #[NV x,NV p,NV q] w (.bool (gnB x p q)):=by
 have ip:In (p -1):=⟨by omega,by have:=hp.2;omega⟩
 by_cases h1:x<=1
 ·rw[show gnB x p q=false by unfold gnB;simp;omega]
  exact xmem_lo x p q w hx hp hq ip hp0 (by rw[cmp_le0];simp only[h1,decide_true])
 have h1':decide (cmpI x 1<=0)=false:=by rw[cmp_le0];simp only[h1,decide_false]
 by_cases h2:p -1<=x
 ·rw[show gnB x p q=false by unfold gnB;simp;omega]
  exact xmem_hi x p q w hx hp hq ip hp0 h1' (by rw[cmp_ge];simp only[h2,decide_true])
 have h2':decide (0<=cmpI x (p -1))=false:=by rw[cmp_ge];simp only[h2,decide_false]
 rw[show gnB x p q=decide (x^q.toNat%p=1) by unfold gnB;rw[Bool.eq_iff_iff];simp;omega]
 exact xmem_go x p q w hx hp hq ip hp0 _ h1' h2' rfl
theorem xgroup_f(p q g h n f:Int)(b0 cap:Nat)(cs:List (Int×Int×Int))(w:World)(hp:In p)(hq:In q)(hg:In g)(hh:In h)(hcs:cs.length<=256)(hin:Hid (∀j,j<cs.length->In (cat cs j).1/\In (cat cs j).2.1/\In (cat cs j).2.2))(hlt:b0<w.heap.size)(hcv:Hid (CV w b0 (flC cs)))(hChk:Hid (∀u,b0<u.heap.size->CV u b0 (flC cs)->CC 21 #[.slice (some ⟨b0,0,none⟩) cs.length cap] u (.tuple #[A4 0 0 0 0,.int .i64 30]))):
 CC 8 #[GX p q g h,.slice (some ⟨b0,0,none⟩) cs.length cap] w (.int .i64 30):=by
 go_enter Tryz.func8,Tryz.ntmps8
 go_upto_region 1 with fail
 obtain⟨v0,hC,HB0,K0⟩:=bx1 w (GE p q g h) 26
 rw[hC]
 clear hC
 refine Rp K0 HB0 [] [(5,5,L0s,some (6,[.int .u64 (0),.int .u64 (0),.int .u64 (0),.int .u64 (0)]))] [(0,10,.slice (some ⟨b0,0,none⟩) cs.length cap),(1,11,.tuple #[A4 (0) (0) (0) (0),.int .i64 30]),(2,9,.tuple #[A4 (0) (0) (0) (0),.int .i64 30]),(3,12,A4 (0) (0) (0) (0)),(4,13,.int .i64 30),(7,6,.int .i64 30)] [(6,5)] [] [false,false] ?_ ?_
 ·exact oc g_mv<|oc (g_cb Zc (fun uZ bZ=>hChk.out uZ (Nat.lt_of_lt_of_le hlt bZ.size) (hcv.out.below bZ hlt)))<|oc g_mv<|oc g_ex<|oc g_ex<|oc (g_al 0 aN)<|oc (g_sn 0 iN)<|oc g_as on
 intro u1 b1_5 HB1 sz1 K1
 simp only[sQ] at K1⊢
 clear K0 HB0
 go_upto_region 2 with fail
 refine Rn K1 HB1 [(0,14,.int .i64 30),(1,15,.bool true)] ?_ ?_
 ·exact oc g_mv<|oc (g_bn (fun uZ=>V9 _ _ _ 30 0 _ uZ rfl)) on
 intro u2 HB2 sz2 K2
 simp only[sQ] at K2⊢
 clear K1 HB1
 go_upto_region 3 with fail
 refine Rn K2 HB2 [(0,16,.int .i64 30),(1,4,.int .i64 30)] ?_ ?_
 ·exact oc g_mv<|oc g_as on
 intro u3 HB3 sz3 K3
 simp only[sQ] at K3⊢
 clear K2 HB2
 go_wp2
 refine bodyPost_ret (v:= .int .i64 30) (by simp[results,Tryz.results8,go_sem,]) rfl ⟨rfl,HB3⟩
theorem xgroup_o(p q g h n f t:Int)(b0 cap:Nat)(cs:List (Int×Int×Int))(w:World)(hp:In p)(hq:In q)(hg:In g)(hh:In h)(hcs:cs.length<=256)(hin:Hid (∀j,j<cs.length->In (cat cs j).1/\In (cat cs j).2.1/\In (cat cs j).2.2))(hlt:b0<w.heap.size)(hcv:Hid (CV w b0 (flC cs)))(h0:0<cs.length)(hlf:Hid ((cat cs (cs.length -1)).2.1=f))(hn:In n)(hf:In f)(hChk:Hid (∀u,b0<u.heap.size->CV u b0 (flC cs)->CC 21 #[.slice (some ⟨b0,0,none⟩) cs.length cap] u (.tuple #[NV n,.int .i64 0])))(it:In t)(hAd:Hid (∀u,CC 22 #[NV q,NV q] u (.tuple #[NV t,.bool true]))):
 CC 8 #[GX p q g h,.slice (some ⟨b0,0,none⟩) cs.length cap] w (.int .i64 30):=by
 go_enter Tryz.func8,Tryz.ntmps8
 go_upto_region 1 with fail
 obtain⟨v0,hC,HB0,K0⟩:=bx1 w (GE p q g h) 26
 rw[hC]
 clear hC
 refine Rp K0 HB0 [] [(5,5,L0s,some (6,LN n))] [(0,10,.slice (some ⟨b0,0,none⟩) cs.length cap),(1,11,.tuple #[NV n,.int .i64 0]),(2,9,.tuple #[NV n,.int .i64 0]),(3,12,NV n),(4,13,.int .i64 0),(7,6,.int .i64 0)] [(6,5)] [] [true,false] ?_ ?_
 ·exact oc g_mv<|oc (g_cb Zc (fun uZ bZ=>hChk.out uZ (Nat.lt_of_lt_of_le hlt bZ.size) (hcv.out.below bZ hlt)))<|oc g_mv<|oc g_ex<|oc g_ex<|oc (g_al 0 aN)<|oc (g_sn 0 iN)<|oc g_as on
 intro u1 b1_5 HB1 sz1 K1
 simp only[sQ] at K1⊢
 clear K0 HB0
 have hz3:(cs.length:Int) -1=((cs.length -1:Nat):Int):=by omega
 have hR:w.rangeAt b0 (0+12*(cs.length -1)+4) (LN f):=by
  have:=Wd (V4 hcv.out (cs.length -1) (by omega))
  rwa [hlf.out] at this
 have hR:Hid _:=hR
 go_upto_region 2 with fail
 refine Rn K1 HB1 [(0,14,.int .i64 0),(1,15,.bool false)] ?_ ?_
 ·exact oc g_mv<|oc (g_bn (fun uZ=>V9 _ _ _ 0 0 _ uZ rfl)) on
 intro u2 HB2 sz2 K2
 simp only[sQ] at K2⊢
 clear K1 HB1
 go_upto_region 4 with fail
 refine Rp K2 HB2 [] [(8,7,L0s,some (9,LN t))] [(0,18,.pointer (some ⟨w.heap.size,4,none⟩)),(1,19,NV q),(2,20,.pointer (some ⟨w.heap.size,4,none⟩)),(3,21,NV q),(4,22,.tuple #[NV t,.bool true]),(5,17,.tuple #[NV t,.bool true]),(6,23,NV t),(7,24,.bool true),(10,8,.bool true)] [(9,8)] [] [false,false] ?_ ?_
 ·exact oc (g_fd (fun uZ=>fdG1 _ uZ))<|oc (g_lo 0 4 uN iN)<|oc (g_fd (fun uZ=>fdG1 _ uZ))<|oc (g_lo 0 4 uN iN)<|oc (g_cl Z1 (fun uZ=>hAd.out uZ))<|oc g_mv<|oc g_ex<|oc g_ex<|oc (g_al 0 aN)<|oc (g_sn 0 iN)<|oc g_as on
 intro u3 b3_8 HB3 sz3 K3
 simp only[sQ] at K3⊢
 clear K2 HB2
 go_upto_region 5 with fail
 refine Rm K3 HB3 [(0,25,.bool true),(1,26,.bool true),(2,27,undef),(3,28,undef),(4,29,undef),(5,30,undef),(6,31,(Go.Value.bool Bool.true)),(7,32,(Go.Value.bool Bool.true)),(8,33,undef),(9,34,undef),(10,35,undef),(11,36,undef),(12,37,undef),(13,38,undef),(14,39,undef),(15,40,undef),(16,41,undef),(17,42,undef),(18,43,(Go.Value.bool Bool.true))] ?_ ?_
 ·exact oc g_mv<|oc g_mv<|oc g_sk<|oc g_sk<|oc g_sk<|oc g_sk<|oc g_pk<|oc g_mv<|oc g_sk<|oc g_sk<|oc g_sk<|oc g_sk<|oc g_sk<|oc g_sk<|oc g_sk<|oc g_sk<|oc g_sk<|oc g_sk<|oc g_pk on
 intro u4 HB4 sz4 K4
 simp only[sQ] at K4⊢
 clear K3 HB3
 go_upto_region 6 with fail
 refine Rn K4 HB4 [(0,4,(Go.Value.int Go.IntKind.i64 30))] ?_ ?_
 ·exact oc g_as on
 intro u5 HB5 sz5 K5
 simp only[sQ] at K5⊢
 clear K4 HB4
 go_wp2
 refine bodyPost_ret (v:= .int .i64 30) (by simp[results,Tryz.results8,go_sem,]) rfl ⟨rfl,HB5⟩
theorem xgroup_n(p q g h n f t:Int)(b0 cap:Nat)(cs:List (Int×Int×Int))(w:World)(hp:In p)(hq:In q)(hg:In g)(hh:In h)(hcs:cs.length<=256)(hin:Hid (∀j,j<cs.length->In (cat cs j).1/\In (cat cs j).2.1/\In (cat cs j).2.2))(hlt:b0<w.heap.size)(hcv:Hid (CV w b0 (flC cs)))(h0:0<cs.length)(hlf:Hid ((cat cs (cs.length -1)).2.1=f))(hn:In n)(hf:In f)(hChk:Hid (∀u,b0<u.heap.size->CV u b0 (flC cs)->CC 21 #[.slice (some ⟨b0,0,none⟩) cs.length cap] u (.tuple #[NV n,.int .i64 0])))(it:In t)(hAd:Hid (∀u,CC 22 #[NV q,NV q] u (.tuple #[NV t,.bool false])))(h1:decide (n=p)=!true):
 CC 8 #[GX p q g h,.slice (some ⟨b0,0,none⟩) cs.length cap] w (.int .i64 30):=by
 go_enter Tryz.func8,Tryz.ntmps8
 go_upto_region 1 with fail
 obtain⟨v0,hC,HB0,K0⟩:=bx1 w (GE p q g h) 26
 rw[hC]
 clear hC
 refine Rp K0 HB0 [] [(5,5,L0s,some (6,LN n))] [(0,10,.slice (some ⟨b0,0,none⟩) cs.length cap),(1,11,.tuple #[NV n,.int .i64 0]),(2,9,.tuple #[NV n,.int .i64 0]),(3,12,NV n),(4,13,.int .i64 0),(7,6,.int .i64 0)] [(6,5)] [] [] ?_ ?_
 ·exact oc g_mv<|oc (g_cb Zc (fun uZ bZ=>hChk.out uZ (Nat.lt_of_lt_of_le hlt bZ.size) (hcv.out.below bZ hlt)))<|oc g_mv<|oc g_ex<|oc g_ex<|oc (g_al 0 aN)<|oc (g_sn 0 iN)<|oc g_as on
 intro u1 b1_5 HB1 sz1 K1
 simp only[sQ] at K1⊢
 clear K0 HB0
 have hz3:(cs.length:Int) -1=((cs.length -1:Nat):Int):=by omega
 have hR:w.rangeAt b0 (0+12*(cs.length -1)+4) (LN f):=by
  have:=Wd (V4 hcv.out (cs.length -1) (by omega))
  rwa [hlf.out] at this
 have hR:Hid _:=hR
 go_upto_region 2 with fail
 refine Rn K1 HB1 [(0,14,.int .i64 0),(1,15,.bool false)] ?_ ?_
 ·exact oc g_mv<|oc (g_bn (fun uZ=>V9 _ _ _ 0 0 _ uZ rfl)) on
 intro u2 HB2 sz2 K2
 simp only[sQ] at K2⊢
 clear K1 HB1
 go_upto_region 4 with fail
 refine Rp K2 HB2 [] [(8,7,L0s,some (9,LN t))] [(0,18,.pointer (some ⟨w.heap.size,4,none⟩)),(1,19,NV q),(2,20,.pointer (some ⟨w.heap.size,4,none⟩)),(3,21,NV q),(4,22,.tuple #[NV t,.bool false]),(5,17,.tuple #[NV t,.bool false]),(6,23,NV t),(7,24,.bool false),(10,8,.bool false)] [(9,8)] [] [true,true,false] ?_ ?_
 ·exact oc (g_fd (fun uZ=>fdG1 _ uZ))<|oc (g_lo 0 4 uN iN)<|oc (g_fd (fun uZ=>fdG1 _ uZ))<|oc (g_lo 0 4 uN iN)<|oc (g_cl Z1 (fun uZ=>hAd.out uZ))<|oc g_mv<|oc g_ex<|oc g_ex<|oc (g_al 0 aN)<|oc (g_sn 0 iN)<|oc g_as on
 intro u3 b3_8 HB3 sz3 K3
 simp only[sQ] at K3⊢
 clear K2 HB2
 go_upto_region 5 with fail
 refine Rd K3 HB3 [] [] [(0,25,.bool false),(1,26,.bool false),(2,27,NV n),(3,28,.pointer (some ⟨w.heap.size,0,none⟩)),(4,29,NV p),(5,30,.bool true),(6,31,.bool true),(7,32,.bool true),(8,33,undef),(9,34,undef),(10,35,undef),(11,36,undef),(12,37,undef),(13,38,undef),(14,39,undef),(15,40,undef),(16,41,undef),(17,42,undef),(18,43,(Go.Value.bool Bool.true))] [] [] [false,false] ?_ ?_
 ·exact oc g_mv<|oc g_mv<|oc (g_ld 1 uN iN)<|oc (g_fd (fun uZ=>fdG0 _ uZ))<|oc (g_lo 0 0 uN iN)<|oc (g_bn (fun uZ=>Yy _ _ hn hp _ h1 uZ))<|oc g_pk<|oc g_mv<|oc g_sk<|oc g_sk<|oc g_sk<|oc g_sk<|oc g_sk<|oc g_sk<|oc g_sk<|oc g_sk<|oc g_sk<|oc g_sk<|oc g_pk on
 intro u4 HB4 sz4 K4
 simp only[sQ] at K4⊢
 clear K3 HB3
 go_upto_region 6 with fail
 refine Rn K4 HB4 [(0,4,(Go.Value.int Go.IntKind.i64 30))] ?_ ?_
 ·exact oc g_as on
 intro u5 HB5 sz5 K5
 simp only[sQ] at K5⊢
 clear K4 HB4
 go_wp2
 refine bodyPost_ret (v:= .int .i64 30) (by simp[results,Tryz.results8,go_sem,]) rfl ⟨rfl,HB5⟩
theorem xgroup_q(p q g h n f t:Int)(b0 cap:Nat)(cs:List (Int×Int×Int))(w:World)(hp:In p)(hq:In q)(hg:In g)(hh:In h)(hcs:cs.length<=256)(hin:Hid (∀j,j<cs.length->In (cat cs j).1/\In (cat cs j).2.1/\In (cat cs j).2.2))(hlt:b0<w.heap.size)(hcv:Hid (CV w b0 (flC cs)))(h0:0<cs.length)(hlf:Hid ((cat cs (cs.length -1)).2.1=f))(hn:In n)(hf:In f)(hChk:Hid (∀u,b0<u.heap.size->CV u b0 (flC cs)->CC 21 #[.slice (some ⟨b0,0,none⟩) cs.length cap] u (.tuple #[NV n,.int .i64 0])))(it:In t)(hAd:Hid (∀u,CC 22 #[NV q,NV q] u (.tuple #[NV t,.bool false])))(h1:decide (n=p)=!false)(h2:decide (f=q)=!true):
 CC 8 #[GX p q g h,.slice (some ⟨b0,0,none⟩) cs.length cap] w (.int .i64 30):=by
 go_enter Tryz.func8,Tryz.ntmps8
 go_upto_region 1 with fail
 obtain⟨v0,hC,HB0,K0⟩:=bx1 w (GE p q g h) 26
 rw[hC]
 clear hC
 refine Rp K0 HB0 [] [(5,5,L0s,some (6,LN n))] [(0,10,.slice (some ⟨b0,0,none⟩) cs.length cap),(1,11,.tuple #[NV n,.int .i64 0]),(2,9,.tuple #[NV n,.int .i64 0]),(3,12,NV n),(4,13,.int .i64 0),(7,6,.int .i64 0)] [(6,5)] [] [] ?_ ?_
 ·exact oc g_mv<|oc (g_cb Zc (fun uZ bZ=>hChk.out uZ (Nat.lt_of_lt_of_le hlt bZ.size) (hcv.out.below bZ hlt)))<|oc g_mv<|oc g_ex<|oc g_ex<|oc (g_al 0 aN)<|oc (g_sn 0 iN)<|oc g_as on
 intro u1 b1_5 HB1 sz1 K1
 simp only[sQ] at K1⊢
 clear K0 HB0
 have hz3:(cs.length:Int) -1=((cs.length -1:Nat):Int):=by omega
 have hR:w.rangeAt b0 (0+12*(cs.length -1)+4) (LN f):=by
  have:=Wd (V4 hcv.out (cs.length -1) (by omega))
  rwa [hlf.out] at this
 have hR:Hid _:=hR
 go_upto_region 2 with fail
 refine Rn K1 HB1 [(0,14,.int .i64 0),(1,15,.bool false)] ?_ ?_
 ·exact oc g_mv<|oc (g_bn (fun uZ=>V9 _ _ _ 0 0 _ uZ rfl)) on
 intro u2 HB2 sz2 K2
 simp only[sQ] at K2⊢
 clear K1 HB1
 go_upto_region 4 with fail
 refine Rp K2 HB2 [] [(8,7,L0s,some (9,LN t))] [(0,18,.pointer (some ⟨w.heap.size,4,none⟩)),(1,19,NV q),(2,20,.pointer (some ⟨w.heap.size,4,none⟩)),(3,21,NV q),(4,22,.tuple #[NV t,.bool false]),(5,17,.tuple #[NV t,.bool false]),(6,23,NV t),(7,24,.bool false),(10,8,.bool false)] [(9,8)] [] [true,true,false] ?_ ?_
 ·exact oc (g_fd (fun uZ=>fdG1 _ uZ))<|oc (g_lo 0 4 uN iN)<|oc (g_fd (fun uZ=>fdG1 _ uZ))<|oc (g_lo 0 4 uN iN)<|oc (g_cl Z1 (fun uZ=>hAd.out uZ))<|oc g_mv<|oc g_ex<|oc g_ex<|oc (g_al 0 aN)<|oc (g_sn 0 iN)<|oc g_as on
 intro u3 b3_8 HB3 sz3 K3
 simp only[sQ] at K3⊢
 clear K2 HB2
 go_upto_region 5 with fail
 refine Rd K3 HB3 [] [] [(0,25,.bool false),(1,26,.bool false),(2,27,NV n),(3,28,.pointer (some ⟨w.heap.size,0,none⟩)),(4,29,NV p),(5,30,.bool false),(6,31,.bool false),(7,32,.bool false),(8,33,.slice (some ⟨b0,0,none⟩) cs.length cap),(9,34,.slice (some ⟨b0,0,none⟩) cs.length cap),(10,35,.int .i64 (cs.length:Int)),(11,36,.int .i64 ((cs.length -1:Nat):Int)),(12,37,.pointer (some ⟨b0,0+12*(cs.length -1),none⟩)),(13,38,.pointer (some ⟨b0,0+12*(cs.length -1)+4,none⟩)),(14,39,NV f),(15,40,.pointer (some ⟨w.heap.size,4,none⟩)),(16,41,NV q),(17,42,.bool true),(18,43,.bool true)] [] [] [false,false] ?_ ?_
 ·exact oc g_mv<|oc g_mv<|oc (g_ld 1 uN iN)<|oc (g_fd (fun uZ=>fdG0 _ uZ))<|oc (g_lo 0 0 uN iN)<|oc (g_bn (fun uZ=>Yy _ _ hn hp _ h1 uZ))<|oc g_pk<|oc g_mv<|oc g_mv<|oc g_mv<|oc (g_ln Tryz.underlying31)<|oc (g_bn (fun uZ=>Y6 _ _ (cs.length:Int) 1 ((cs.length -1:Nat):Int) uZ hz3 (by omega) (by omega)))<|oc (g_ix (fun uZ=>ixC b0 0 cs.length cap (cs.length -1) (by omega) uZ))<|oc (g_fd (fun uZ=>fdC1x _ _ uZ))<|oc (g_lf hR.out hlt uN iN)<|oc (g_fd (fun uZ=>fdG1 _ uZ))<|oc (g_lo 0 4 uN iN)<|oc (g_bn (fun uZ=>Yy _ _ hf hq _ h2 uZ))<|oc g_pk on
 intro u4 HB4 sz4 K4
 simp only[sQ] at K4⊢
 clear K3 HB3
 go_upto_region 6 with fail
 refine Rn K4 HB4 [(0,4,(Go.Value.int Go.IntKind.i64 30))] ?_ ?_
 ·exact oc g_as on
 intro u5 HB5 sz5 K5
 simp only[sQ] at K5⊢
 clear K4 HB4
 go_wp2
 refine bodyPost_ret (v:= .int .i64 30) (by simp[results,Tryz.results8,go_sem,]) rfl ⟨rfl,HB5⟩
theorem xgroup_t(p q g h n f t:Int)(b0 cap:Nat)(cs:List (Int×Int×Int))(w:World)(hp:In p)(hq:In q)(hg:In g)(hh:In h)(hcs:cs.length<=256)(hin:Hid (∀j,j<cs.length->In (cat cs j).1/\In (cat cs j).2.1/\In (cat cs j).2.2))(hlt:b0<w.heap.size)(hcv:Hid (CV w b0 (flC cs)))(h0:0<cs.length)(hlf:Hid ((cat cs (cs.length -1)).2.1=f))(hn:In n)(hf:In f)(hChk:Hid (∀u,b0<u.heap.size->CV u b0 (flC cs)->CC 21 #[.slice (some ⟨b0,0,none⟩) cs.length cap] u (.tuple #[NV n,.int .i64 0])))(it:In t)(hAd:Hid (∀u,CC 22 #[NV q,NV q] u (.tuple #[NV t,.bool false])))(h1:decide (n=p)=!false)(h2:decide (f=q)=!false)(ht1:t+1<0x10000000000000000000000000000000000000000000000000000000000000000)(it1:In (t+1))(h3:decide (t+1=p)=!true):
 CC 8 #[GX p q g h,.slice (some ⟨b0,0,none⟩) cs.length cap] w (.int .i64 30):=by
 go_enter Tryz.func8,Tryz.ntmps8
 go_upto_region 1 with fail
 obtain⟨v0,hC,HB0,K0⟩:=bx1 w (GE p q g h) 26
 rw[hC]
 clear hC
 refine Rp K0 HB0 [] [(5,5,L0s,some (6,LN n))] [(0,10,.slice (some ⟨b0,0,none⟩) cs.length cap),(1,11,.tuple #[NV n,.int .i64 0]),(2,9,.tuple #[NV n,.int .i64 0]),(3,12,NV n),(4,13,.int .i64 0),(7,6,.int .i64 0)] [(6,5)] [] [] ?_ ?_
 ·exact oc g_mv<|oc (g_cb Zc (fun uZ bZ=>hChk.out uZ (Nat.lt_of_lt_of_le hlt bZ.size) (hcv.out.below bZ hlt)))<|oc g_mv<|oc g_ex<|oc g_ex<|oc (g_al 0 aN)<|oc (g_sn 0 iN)<|oc g_as on
 intro u1 b1_5 HB1 sz1 K1
 simp only[sQ] at K1⊢
 clear K0 HB0
 have hz3:(cs.length:Int) -1=((cs.length -1:Nat):Int):=by omega
 have hR:w.rangeAt b0 (0+12*(cs.length -1)+4) (LN f):=by
  have:=Wd (V4 hcv.out (cs.length -1) (by omega))
  rwa [hlf.out] at this
 have hR:Hid _:=hR
 go_upto_region 2 with fail
 refine Rn K1 HB1 [(0,14,.int .i64 0),(1,15,.bool false)] ?_ ?_
 ·exact oc g_mv<|oc (g_bn (fun uZ=>V9 _ _ _ 0 0 _ uZ rfl)) on
 intro u2 HB2 sz2 K2
 simp only[sQ] at K2⊢
 clear K1 HB1
 go_upto_region 4 with fail
 refine Rp K2 HB2 [] [(8,7,L0s,some (9,LN t))] [(0,18,.pointer (some ⟨w.heap.size,4,none⟩)),(1,19,NV q),(2,20,.pointer (some ⟨w.heap.size,4,none⟩)),(3,21,NV q),(4,22,.tuple #[NV t,.bool false]),(5,17,.tuple #[NV t,.bool false]),(6,23,NV t),(7,24,.bool false),(10,8,.bool false)] [(9,8)] [] [] ?_ ?_
 ·exact oc (g_fd (fun uZ=>fdG1 _ uZ))<|oc (g_lo 0 4 uN iN)<|oc (g_fd (fun uZ=>fdG1 _ uZ))<|oc (g_lo 0 4 uN iN)<|oc (g_cl Z1 (fun uZ=>hAd.out uZ))<|oc g_mv<|oc g_ex<|oc g_ex<|oc (g_al 0 aN)<|oc (g_sn 0 iN)<|oc g_as on
 intro u3 b3_8 HB3 sz3 K3
 simp only[sQ] at K3⊢
 clear K2 HB2
 go_upto_region 5 with fail
 refine Rd K3 HB3 [] [] [(0,25,.bool false),(1,26,.bool false),(2,27,NV n),(3,28,.pointer (some ⟨w.heap.size,0,none⟩)),(4,29,NV p),(5,30,.bool false),(6,31,.bool false),(7,32,.bool false),(8,33,.slice (some ⟨b0,0,none⟩) cs.length cap),(9,34,.slice (some ⟨b0,0,none⟩) cs.length cap),(10,35,.int .i64 (cs.length:Int)),(11,36,.int .i64 ((cs.length -1:Nat):Int)),(12,37,.pointer (some ⟨b0,0+12*(cs.length -1),none⟩)),(13,38,.pointer (some ⟨b0,0+12*(cs.length -1)+4,none⟩)),(14,39,NV f),(15,40,.pointer (some ⟨w.heap.size,4,none⟩)),(16,41,NV q),(17,42,.bool false),(18,43,.bool false)] [] [] [true,false] ?_ ?_
 ·exact oc g_mv<|oc g_mv<|oc (g_ld 1 uN iN)<|oc (g_fd (fun uZ=>fdG0 _ uZ))<|oc (g_lo 0 0 uN iN)<|oc (g_bn (fun uZ=>Yy _ _ hn hp _ h1 uZ))<|oc g_pk<|oc g_mv<|oc g_mv<|oc g_mv<|oc (g_ln Tryz.underlying31)<|oc (g_bn (fun uZ=>Y6 _ _ (cs.length:Int) 1 ((cs.length -1:Nat):Int) uZ hz3 (by omega) (by omega)))<|oc (g_ix (fun uZ=>ixC b0 0 cs.length cap (cs.length -1) (by omega) uZ))<|oc (g_fd (fun uZ=>fdC1x _ _ uZ))<|oc (g_lf hR.out hlt uN iN)<|oc (g_fd (fun uZ=>fdG1 _ uZ))<|oc (g_lo 0 4 uN iN)<|oc (g_bn (fun uZ=>Yy _ _ hf hq _ h2 uZ))<|oc g_pk on
 intro u4 HB4 sz4 K4
 simp only[sQ] at K4⊢
 clear K3 HB3
 go_upto_region 7 with fail
 refine Rp K4 HB4 [.no,.all 6 (LN (t+1))] [] [(0,45,NV t),(1,46,NV 1),(2,47,.tuple #[NV (t+1),.bool false]),(3,44,.tuple #[NV (t+1),.bool false]),(4,48,NV (t+1)),(5,49,.bool false),(7,8,.bool false)] [(6,0)] [] [] ?_ ?_
 ·exact oc (g_ld 1 uN iN)<|oc (g_bd (fun uZ=>bdX 1 (by omega) (by omega) uZ))<|oc (g_cl Z1 (fun uZ=>X9 t 1 uZ it In_1 ht1))<|oc g_mv<|oc g_ex<|oc g_ex<|oc (g_st 1 iN)<|oc g_as on
 intro u5 HB5 sz5 K5
 simp only[sQ] at K5⊢
 clear K4 HB4
 go_upto_region 8 with fail
 refine Rp K5 HB5 [] [] [(0,50,.bool false),(1,51,.bool false),(2,52,NV (t+1)),(3,53,.pointer (some ⟨w.heap.size,0,none⟩)),(4,54,NV p),(5,55,.bool true),(6,56,.bool true),(7,57,.bool true),(8,58,undef),(9,59,undef),(10,60,undef),(11,61,undef),(12,62,undef),(13,63,(Go.Value.bool Bool.true)),(14,64,(Go.Value.bool Bool.true)),(15,65,undef),(16,66,undef),(17,67,undef),(18,68,undef),(19,69,undef),(20,70,undef),(21,71,undef),(22,72,undef),(23,73,(Go.Value.bool Bool.true)),(24,74,(Go.Value.bool Bool.true)),(25,75,undef),(26,76,undef),(27,77,undef),(28,78,undef),(29,79,undef),(30,80,undef),(31,81,undef),(32,82,undef),(33,83,(Go.Value.bool Bool.true))] [] [] [false,false] ?_ ?_
 ·exact oc g_mv<|oc g_mv<|oc (g_ld 1 uN iN)<|oc (g_fd (fun uZ=>fdG0 _ uZ))<|oc (g_lo 0 0 uN iN)<|oc (g_bn (fun uZ=>Yy _ _ it1 hp _ h3 uZ))<|oc g_pk<|oc g_mv<|oc g_sk<|oc g_sk<|oc g_sk<|oc g_sk<|oc g_sk<|oc g_pk<|oc g_mv<|oc g_sk<|oc g_sk<|oc g_sk<|oc g_sk<|oc g_sk<|oc g_sk<|oc g_sk<|oc g_sk<|oc g_pk<|oc g_mv<|oc g_sk<|oc g_sk<|oc g_sk<|oc g_sk<|oc g_sk<|oc g_sk<|oc g_sk<|oc g_sk<|oc g_pk on
 intro u6 HB6 sz6 K6
 simp only[sQ] at K6⊢
 clear K5 HB5
 go_upto_region 9 with fail
 refine Rn K6 HB6 [(0,4,(Go.Value.int Go.IntKind.i64 30))] ?_ ?_
 ·exact oc g_as on
 intro u7 HB7 sz7 K7
 simp only[sQ] at K7⊢
 clear K6 HB6
 go_wp2
 refine bodyPost_ret (v:= .int .i64 30) (by simp[results,Tryz.results8,go_sem,]) rfl ⟨rfl,HB7⟩
theorem xgroup_e(p q g h n f t:Int)(b0 cap:Nat)(cs:List (Int×Int×Int))(w:World)(hp:In p)(hq:In q)(hg:In g)(hh:In h)(hcs:cs.length<=256)(hin:Hid (∀j,j<cs.length->In (cat cs j).1/\In (cat cs j).2.1/\In (cat cs j).2.2))(hlt:b0<w.heap.size)(hcv:Hid (CV w b0 (flC cs)))(h0:0<cs.length)(hlf:Hid ((cat cs (cs.length -1)).2.1=f))(hn:In n)(hf:In f)(hChk:Hid (∀u,b0<u.heap.size->CV u b0 (flC cs)->CC 21 #[.slice (some ⟨b0,0,none⟩) cs.length cap] u (.tuple #[NV n,.int .i64 0])))(it:In t)(hAd:Hid (∀u,CC 22 #[NV q,NV q] u (.tuple #[NV t,.bool false])))(h1:decide (n=p)=!false)(h2:decide (f=q)=!false)(ht1:t+1<0x10000000000000000000000000000000000000000000000000000000000000000)(it1:In (t+1))(h3:decide (t+1=p)=!false)(h4:decide (g=h)=true):
 CC 8 #[GX p q g h,.slice (some ⟨b0,0,none⟩) cs.length cap] w (.int .i64 30):=by
 go_enter Tryz.func8,Tryz.ntmps8
 go_upto_region 1 with fail
 obtain⟨v0,hC,HB0,K0⟩:=bx1 w (GE p q g h) 26
 rw[hC]
 clear hC
 refine Rp K0 HB0 [] [(5,5,L0s,some (6,LN n))] [(0,10,.slice (some ⟨b0,0,none⟩) cs.length cap),(1,11,.tuple #[NV n,.int .i64 0]),(2,9,.tuple #[NV n,.int .i64 0]),(3,12,NV n),(4,13,.int .i64 0),(7,6,.int .i64 0)] [(6,5)] [] [] ?_ ?_
 ·exact oc g_mv<|oc (g_cb Zc (fun uZ bZ=>hChk.out uZ (Nat.lt_of_lt_of_le hlt bZ.size) (hcv.out.below bZ hlt)))<|oc g_mv<|oc g_ex<|oc g_ex<|oc (g_al 0 aN)<|oc (g_sn 0 iN)<|oc g_as on
 intro u1 b1_5 HB1 sz1 K1
 simp only[sQ] at K1⊢
 clear K0 HB0
 have hz3:(cs.length:Int) -1=((cs.length -1:Nat):Int):=by omega
 have hR:w.rangeAt b0 (0+12*(cs.length -1)+4) (LN f):=by
  have:=Wd (V4 hcv.out (cs.length -1) (by omega))
  rwa [hlf.out] at this
 have hR:Hid _:=hR
 go_upto_region 2 with fail
 refine Rn K1 HB1 [(0,14,.int .i64 0),(1,15,.bool false)] ?_ ?_
 ·exact oc g_mv<|oc (g_bn (fun uZ=>V9 _ _ _ 0 0 _ uZ rfl)) on
 intro u2 HB2 sz2 K2
 simp only[sQ] at K2⊢
 clear K1 HB1
 go_upto_region 4 with fail
 refine Rp K2 HB2 [] [(8,7,L0s,some (9,LN t))] [(0,18,.pointer (some ⟨w.heap.size,4,none⟩)),(1,19,NV q),(2,20,.pointer (some ⟨w.heap.size,4,none⟩)),(3,21,NV q),(4,22,.tuple #[NV t,.bool false]),(5,17,.tuple #[NV t,.bool false]),(6,23,NV t),(7,24,.bool false),(10,8,.bool false)] [(9,8)] [] [] ?_ ?_
 ·exact oc (g_fd (fun uZ=>fdG1 _ uZ))<|oc (g_lo 0 4 uN iN)<|oc (g_fd (fun uZ=>fdG1 _ uZ))<|oc (g_lo 0 4 uN iN)<|oc (g_cl Z1 (fun uZ=>hAd.out uZ))<|oc g_mv<|oc g_ex<|oc g_ex<|oc (g_al 0 aN)<|oc (g_sn 0 iN)<|oc g_as on
 intro u3 b3_8 HB3 sz3 K3
 simp only[sQ] at K3⊢
 clear K2 HB2
 go_upto_region 5 with fail
 refine Rd K3 HB3 [] [] [(0,25,.bool false),(1,26,.bool false),(2,27,NV n),(3,28,.pointer (some ⟨w.heap.size,0,none⟩)),(4,29,NV p),(5,30,.bool false),(6,31,.bool false),(7,32,.bool false),(8,33,.slice (some ⟨b0,0,none⟩) cs.length cap),(9,34,.slice (some ⟨b0,0,none⟩) cs.length cap),(10,35,.int .i64 (cs.length:Int)),(11,36,.int .i64 ((cs.length -1:Nat):Int)),(12,37,.pointer (some ⟨b0,0+12*(cs.length -1),none⟩)),(13,38,.pointer (some ⟨b0,0+12*(cs.length -1)+4,none⟩)),(14,39,NV f),(15,40,.pointer (some ⟨w.heap.size,4,none⟩)),(16,41,NV q),(17,42,.bool false),(18,43,.bool false)] [] [] [true,false] ?_ ?_
 ·exact oc g_mv<|oc g_mv<|oc (g_ld 1 uN iN)<|oc (g_fd (fun uZ=>fdG0 _ uZ))<|oc (g_lo 0 0 uN iN)<|oc (g_bn (fun uZ=>Yy _ _ hn hp _ h1 uZ))<|oc g_pk<|oc g_mv<|oc g_mv<|oc g_mv<|oc (g_ln Tryz.underlying31)<|oc (g_bn (fun uZ=>Y6 _ _ (cs.length:Int) 1 ((cs.length -1:Nat):Int) uZ hz3 (by omega) (by omega)))<|oc (g_ix (fun uZ=>ixC b0 0 cs.length cap (cs.length -1) (by omega) uZ))<|oc (g_fd (fun uZ=>fdC1x _ _ uZ))<|oc (g_lf hR.out hlt uN iN)<|oc (g_fd (fun uZ=>fdG1 _ uZ))<|oc (g_lo 0 4 uN iN)<|oc (g_bn (fun uZ=>Yy _ _ hf hq _ h2 uZ))<|oc g_pk on
 intro u4 HB4 sz4 K4
 simp only[sQ] at K4⊢
 clear K3 HB3
 go_upto_region 7 with fail
 refine Rp K4 HB4 [.no,.all 6 (LN (t+1))] [] [(0,45,NV t),(1,46,NV 1),(2,47,.tuple #[NV (t+1),.bool false]),(3,44,.tuple #[NV (t+1),.bool false]),(4,48,NV (t+1)),(5,49,.bool false),(7,8,.bool false)] [(6,0)] [] [] ?_ ?_
 ·exact oc (g_ld 1 uN iN)<|oc (g_bd (fun uZ=>bdX 1 (by omega) (by omega) uZ))<|oc (g_cl Z1 (fun uZ=>X9 t 1 uZ it In_1 ht1))<|oc g_mv<|oc g_ex<|oc g_ex<|oc (g_st 1 iN)<|oc g_as on
 intro u5 HB5 sz5 K5
 simp only[sQ] at K5⊢
 clear K4 HB4
 go_upto_region 8 with fail
 refine Rp K5 HB5 [] [] [(0,50,.bool false),(1,51,.bool false),(2,52,NV (t+1)),(3,53,.pointer (some ⟨w.heap.size,0,none⟩)),(4,54,NV p),(5,55,.bool false),(6,56,.bool false),(7,57,.bool false),(8,58,.pointer (some ⟨w.heap.size,8,none⟩)),(9,59,NV g),(10,60,.pointer (some ⟨w.heap.size,12,none⟩)),(11,61,NV h),(12,62,.bool true),(13,63,.bool true),(14,64,.bool true),(15,65,undef),(16,66,undef),(17,67,undef),(18,68,undef),(19,69,undef),(20,70,undef),(21,71,undef),(22,72,undef),(23,73,(Go.Value.bool Bool.true)),(24,74,(Go.Value.bool Bool.true)),(25,75,undef),(26,76,undef),(27,77,undef),(28,78,undef),(29,79,undef),(30,80,undef),(31,81,undef),(32,82,undef),(33,83,(Go.Value.bool Bool.true))] [] [] [false,false] ?_ ?_
 ·exact oc g_mv<|oc g_mv<|oc (g_ld 1 uN iN)<|oc (g_fd (fun uZ=>fdG0 _ uZ))<|oc (g_lo 0 0 uN iN)<|oc (g_bn (fun uZ=>Yy _ _ it1 hp _ h3 uZ))<|oc g_pk<|oc g_mv<|oc (g_fd (fun uZ=>fdG2 _ uZ))<|oc (g_lo 0 8 uN iN)<|oc (g_fd (fun uZ=>fdG3 _ uZ))<|oc (g_lo 0 12 uN iN)<|oc (g_bn (fun uZ=>W3 _ _ hg hh _ h4 uZ))<|oc g_pk<|oc g_mv<|oc g_sk<|oc g_sk<|oc g_sk<|oc g_sk<|oc g_sk<|oc g_sk<|oc g_sk<|oc g_sk<|oc g_pk<|oc g_mv<|oc g_sk<|oc g_sk<|oc g_sk<|oc g_sk<|oc g_sk<|oc g_sk<|oc g_sk<|oc g_sk<|oc g_pk on
 intro u6 HB6 sz6 K6
 simp only[sQ] at K6⊢
 clear K5 HB5
 go_upto_region 9 with fail
 refine Rn K6 HB6 [(0,4,(Go.Value.int Go.IntKind.i64 30))] ?_ ?_
 ·exact oc g_as on
 intro u7 HB7 sz7 K7
 simp only[sQ] at K7⊢
 clear K6 HB6
 go_wp2
 refine bodyPost_ret (v:= .int .i64 30) (by simp[results,Tryz.results8,go_sem,]) rfl ⟨rfl,HB7⟩
theorem xgroup_g(p q g h n f t:Int)(b0 cap:Nat)(cs:List (Int×Int×Int))(w:World)(hp:In p)(hq:In q)(hg:In g)(hh:In h)(hcs:cs.length<=256)(hin:Hid (∀j,j<cs.length->In (cat cs j).1/\In (cat cs j).2.1/\In (cat cs j).2.2))(hlt:b0<w.heap.size)(hcv:Hid (CV w b0 (flC cs)))(h0:0<cs.length)(hlf:Hid ((cat cs (cs.length -1)).2.1=f))(hn:In n)(hf:In f)(hChk:Hid (∀u,b0<u.heap.size->CV u b0 (flC cs)->CC 21 #[.slice (some ⟨b0,0,none⟩) cs.length cap] u (.tuple #[NV n,.int .i64 0])))(it:In t)(hAd:Hid (∀u,CC 22 #[NV q,NV q] u (.tuple #[NV t,.bool false])))(h1:decide (n=p)=!false)(h2:decide (f=q)=!false)(ht1:t+1<0x10000000000000000000000000000000000000000000000000000000000000000)(it1:In (t+1))(h3:decide (t+1=p)=!false)(h4:decide (g=h)=false)(hM1:Hid (∀u,CC 23 #[NV g,NV p,NV q] u (.bool false))):
 CC 8 #[GX p q g h,.slice (some ⟨b0,0,none⟩) cs.length cap] w (.int .i64 30):=by
 go_enter Tryz.func8,Tryz.ntmps8
 go_upto_region 1 with fail
 obtain⟨v0,hC,HB0,K0⟩:=bx1 w (GE p q g h) 26
 rw[hC]
 clear hC
 refine Rp K0 HB0 [] [(5,5,L0s,some (6,LN n))] [(0,10,.slice (some ⟨b0,0,none⟩) cs.length cap),(1,11,.tuple #[NV n,.int .i64 0]),(2,9,.tuple #[NV n,.int .i64 0]),(3,12,NV n),(4,13,.int .i64 0),(7,6,.int .i64 0)] [(6,5)] [] [] ?_ ?_
 ·exact oc g_mv<|oc (g_cb Zc (fun uZ bZ=>hChk.out uZ (Nat.lt_of_lt_of_le hlt bZ.size) (hcv.out.below bZ hlt)))<|oc g_mv<|oc g_ex<|oc g_ex<|oc (g_al 0 aN)<|oc (g_sn 0 iN)<|oc g_as on
 intro u1 b1_5 HB1 sz1 K1
 simp only[sQ] at K1⊢
 clear K0 HB0
 have hz3:(cs.length:Int) -1=((cs.length -1:Nat):Int):=by omega
 have hR:w.rangeAt b0 (0+12*(cs.length -1)+4) (LN f):=by
  have:=Wd (V4 hcv.out (cs.length -1) (by omega))
  rwa [hlf.out] at this
 have hR:Hid _:=hR
 go_upto_region 2 with fail
 refine Rn K1 HB1 [(0,14,.int .i64 0),(1,15,.bool false)] ?_ ?_
 ·exact oc g_mv<|oc (g_bn (fun uZ=>V9 _ _ _ 0 0 _ uZ rfl)) on
 intro u2 HB2 sz2 K2
 simp only[sQ] at K2⊢
 clear K1 HB1
 go_upto_region 4 with fail
 refine Rp K2 HB2 [] [(8,7,L0s,some (9,LN t))] [(0,18,.pointer (some ⟨w.heap.size,4,none⟩)),(1,19,NV q),(2,20,.pointer (some ⟨w.heap.size,4,none⟩)),(3,21,NV q),(4,22,.tuple #[NV t,.bool false]),(5,17,.tuple #[NV t,.bool false]),(6,23,NV t),(7,24,.bool false),(10,8,.bool false)] [(9,8)] [] [] ?_ ?_
 ·exact oc (g_fd (fun uZ=>fdG1 _ uZ))<|oc (g_lo 0 4 uN iN)<|oc (g_fd (fun uZ=>fdG1 _ uZ))<|oc (g_lo 0 4 uN iN)<|oc (g_cl Z1 (fun uZ=>hAd.out uZ))<|oc g_mv<|oc g_ex<|oc g_ex<|oc (g_al 0 aN)<|oc (g_sn 0 iN)<|oc g_as on
 intro u3 b3_8 HB3 sz3 K3
 simp only[sQ] at K3⊢
 clear K2 HB2
 go_upto_region 5 with fail
 refine Rd K3 HB3 [] [] [(0,25,.bool false),(1,26,.bool false),(2,27,NV n),(3,28,.pointer (some ⟨w.heap.size,0,none⟩)),(4,29,NV p),(5,30,.bool false),(6,31,.bool false),(7,32,.bool false),(8,33,.slice (some ⟨b0,0,none⟩) cs.length cap),(9,34,.slice (some ⟨b0,0,none⟩) cs.length cap),(10,35,.int .i64 (cs.length:Int)),(11,36,.int .i64 ((cs.length -1:Nat):Int)),(12,37,.pointer (some ⟨b0,0+12*(cs.length -1),none⟩)),(13,38,.pointer (some ⟨b0,0+12*(cs.length -1)+4,none⟩)),(14,39,NV f),(15,40,.pointer (some ⟨w.heap.size,4,none⟩)),(16,41,NV q),(17,42,.bool false),(18,43,.bool false)] [] [] [true,false] ?_ ?_
 ·exact oc g_mv<|oc g_mv<|oc (g_ld 1 uN iN)<|oc (g_fd (fun uZ=>fdG0 _ uZ))<|oc (g_lo 0 0 uN iN)<|oc (g_bn (fun uZ=>Yy _ _ hn hp _ h1 uZ))<|oc g_pk<|oc g_mv<|oc g_mv<|oc g_mv<|oc (g_ln Tryz.underlying31)<|oc (g_bn (fun uZ=>Y6 _ _ (cs.length:Int) 1 ((cs.length -1:Nat):Int) uZ hz3 (by omega) (by omega)))<|oc (g_ix (fun uZ=>ixC b0 0 cs.length cap (cs.length -1) (by omega) uZ))<|oc (g_fd (fun uZ=>fdC1x _ _ uZ))<|oc (g_lf hR.out hlt uN iN)<|oc (g_fd (fun uZ=>fdG1 _ uZ))<|oc (g_lo 0 4 uN iN)<|oc (g_bn (fun uZ=>Yy _ _ hf hq _ h2 uZ))<|oc g_pk on
 intro u4 HB4 sz4 K4
 simp only[sQ] at K4⊢
 clear K3 HB3
 go_upto_region 7 with fail
 refine Rp K4 HB4 [.no,.all 6 (LN (t+1))] [] [(0,45,NV t),(1,46,NV 1),(2,47,.tuple #[NV (t+1),.bool false]),(3,44,.tuple #[NV (t+1),.bool false]),(4,48,NV (t+1)),(5,49,.bool false),(7,8,.bool false)] [(6,0)] [] [] ?_ ?_
 ·exact oc (g_ld 1 uN iN)<|oc (g_bd (fun uZ=>bdX 1 (by omega) (by omega) uZ))<|oc (g_cl Z1 (fun uZ=>X9 t 1 uZ it In_1 ht1))<|oc g_mv<|oc g_ex<|oc g_ex<|oc (g_st 1 iN)<|oc g_as on
 intro u5 HB5 sz5 K5
 simp only[sQ] at K5⊢
 clear K4 HB4
 go_upto_region 8 with fail
 refine Rp K5 HB5 [] [] [(0,50,.bool false),(1,51,.bool false),(2,52,NV (t+1)),(3,53,.pointer (some ⟨w.heap.size,0,none⟩)),(4,54,NV p),(5,55,.bool false),(6,56,.bool false),(7,57,.bool false),(8,58,.pointer (some ⟨w.heap.size,8,none⟩)),(9,59,NV g),(10,60,.pointer (some ⟨w.heap.size,12,none⟩)),(11,61,NV h),(12,62,.bool false),(13,63,.bool false),(14,64,.bool false),(15,65,.pointer (some ⟨w.heap.size,8,none⟩)),(16,66,NV g),(17,67,.pointer (some ⟨w.heap.size,0,none⟩)),(18,68,NV p),(19,69,.pointer (some ⟨w.heap.size,4,none⟩)),(20,70,NV q),(21,71,.bool false),(22,72,.bool true),(23,73,.bool true),(24,74,.bool true),(25,75,undef),(26,76,undef),(27,77,undef),(28,78,undef),(29,79,undef),(30,80,undef),(31,81,undef),(32,82,undef),(33,83,(Go.Value.bool Bool.true))] [] [] [false,false] ?_ ?_
 ·exact oc g_mv<|oc g_mv<|oc (g_ld 1 uN iN)<|oc (g_fd (fun uZ=>fdG0 _ uZ))<|oc (g_lo 0 0 uN iN)<|oc (g_bn (fun uZ=>Yy _ _ it1 hp _ h3 uZ))<|oc g_pk<|oc g_mv<|oc (g_fd (fun uZ=>fdG2 _ uZ))<|oc (g_lo 0 8 uN iN)<|oc (g_fd (fun uZ=>fdG3 _ uZ))<|oc (g_lo 0 12 uN iN)<|oc (g_bn (fun uZ=>W3 _ _ hg hh _ h4 uZ))<|oc g_pk<|oc g_mv<|oc (g_fd (fun uZ=>fdG2 _ uZ))<|oc (g_lo 0 8 uN iN)<|oc (g_fd (fun uZ=>fdG0 _ uZ))<|oc (g_lo 0 0 uN iN)<|oc (g_fd (fun uZ=>fdG1 _ uZ))<|oc (g_lo 0 4 uN iN)<|oc (g_cl Zr (fun uZ=>hM1.out uZ))<|oc (g_un (fun uZ=>rfl))<|oc g_pk<|oc g_mv<|oc g_sk<|oc g_sk<|oc g_sk<|oc g_sk<|oc g_sk<|oc g_sk<|oc g_sk<|oc g_sk<|oc g_pk on
 intro u6 HB6 sz6 K6
 simp only[sQ] at K6⊢
 clear K5 HB5
 go_upto_region 9 with fail
 refine Rn K6 HB6 [(0,4,(Go.Value.int Go.IntKind.i64 30))] ?_ ?_
 ·exact oc g_as on
 intro u7 HB7 sz7 K7
 simp only[sQ] at K7⊢
 clear K6 HB6
 go_wp2
 refine bodyPost_ret (v:= .int .i64 30) (by simp[results,Tryz.results8,go_sem,]) rfl ⟨rfl,HB7⟩
theorem xgroup_h(p q g h n f t:Int)(b0 cap:Nat)(cs:List (Int×Int×Int))(w:World)(hp:In p)(hq:In q)(hg:In g)(hh:In h)(hcs:cs.length<=256)(hin:Hid (∀j,j<cs.length->In (cat cs j).1/\In (cat cs j).2.1/\In (cat cs j).2.2))(hlt:b0<w.heap.size)(hcv:Hid (CV w b0 (flC cs)))(h0:0<cs.length)(hlf:Hid ((cat cs (cs.length -1)).2.1=f))(hn:In n)(hf:In f)(hChk:Hid (∀u,b0<u.heap.size->CV u b0 (flC cs)->CC 21 #[.slice (some ⟨b0,0,none⟩) cs.length cap] u (.tuple #[NV n,.int .i64 0])))(it:In t)(hAd:Hid (∀u,CC 22 #[NV q,NV q] u (.tuple #[NV t,.bool false])))(h1:decide (n=p)=!false)(h2:decide (f=q)=!false)(ht1:t+1<0x10000000000000000000000000000000000000000000000000000000000000000)(it1:In (t+1))(h3:decide (t+1=p)=!false)(h4:decide (g=h)=false)(hM1:Hid (∀u,CC 23 #[NV g,NV p,NV q] u (.bool true)))(hM2:Hid (∀u,CC 23 #[NV h,NV p,NV q] u (.bool false))):
 CC 8 #[GX p q g h,.slice (some ⟨b0,0,none⟩) cs.length cap] w (.int .i64 30):=by
 go_enter Tryz.func8,Tryz.ntmps8
 go_upto_region 1 with fail
 obtain⟨v0,hC,HB0,K0⟩:=bx1 w (GE p q g h) 26
 rw[hC]
 clear hC
 refine Rp K0 HB0 [] [(5,5,L0s,some (6,LN n))] [(0,10,.slice (some ⟨b0,0,none⟩) cs.length cap),(1,11,.tuple #[NV n,.int .i64 0]),(2,9,.tuple #[NV n,.int .i64 0]),(3,12,NV n),(4,13,.int .i64 0),(7,6,.int .i64 0)] [(6,5)] [] [] ?_ ?_
 ·exact oc g_mv<|oc (g_cb Zc (fun uZ bZ=>hChk.out uZ (Nat.lt_of_lt_of_le hlt bZ.size) (hcv.out.below bZ hlt)))<|oc g_mv<|oc g_ex<|oc g_ex<|oc (g_al 0 aN)<|oc (g_sn 0 iN)<|oc g_as on
 intro u1 b1_5 HB1 sz1 K1
 simp only[sQ] at K1⊢
 clear K0 HB0
 have hz3:(cs.length:Int) -1=((cs.length -1:Nat):Int):=by omega
 have hR:w.rangeAt b0 (0+12*(cs.length -1)+4) (LN f):=by
  have:=Wd (V4 hcv.out (cs.length -1) (by omega))
  rwa [hlf.out] at this
 have hR:Hid _:=hR
 go_upto_region 2 with fail
 refine Rn K1 HB1 [(0,14,.int .i64 0),(1,15,.bool false)] ?_ ?_
 ·exact oc g_mv<|oc (g_bn (fun uZ=>V9 _ _ _ 0 0 _ uZ rfl)) on
 intro u2 HB2 sz2 K2
 simp only[sQ] at K2⊢
 clear K1 HB1
 go_upto_region 4 with fail
 refine Rp K2 HB2 [] [(8,7,L0s,some (9,LN t))] [(0,18,.pointer (some ⟨w.heap.size,4,none⟩)),(1,19,NV q),(2,20,.pointer (some ⟨w.heap.size,4,none⟩)),(3,21,NV q),(4,22,.tuple #[NV t,.bool false]),(5,17,.tuple #[NV t,.bool false]),(6,23,NV t),(7,24,.bool false),(10,8,.bool false)] [(9,8)] [] [] ?_ ?_
 ·exact oc (g_fd (fun uZ=>fdG1 _ uZ))<|oc (g_lo 0 4 uN iN)<|oc (g_fd (fun uZ=>fdG1 _ uZ))<|oc (g_lo 0 4 uN iN)<|oc (g_cl Z1 (fun uZ=>hAd.out uZ))<|oc g_mv<|oc g_ex<|oc g_ex<|oc (g_al 0 aN)<|oc (g_sn 0 iN)<|oc g_as on
 intro u3 b3_8 HB3 sz3 K3
 simp only[sQ] at K3⊢
 clear K2 HB2
 go_upto_region 5 with fail
 refine Rd K3 HB3 [] [] [(0,25,.bool false),(1,26,.bool false),(2,27,NV n),(3,28,.pointer (some ⟨w.heap.size,0,none⟩)),(4,29,NV p),(5,30,.bool false),(6,31,.bool false),(7,32,.bool false),(8,33,.slice (some ⟨b0,0,none⟩) cs.length cap),(9,34,.slice (some ⟨b0,0,none⟩) cs.length cap),(10,35,.int .i64 (cs.length:Int)),(11,36,.int .i64 ((cs.length -1:Nat):Int)),(12,37,.pointer (some ⟨b0,0+12*(cs.length -1),none⟩)),(13,38,.pointer (some ⟨b0,0+12*(cs.length -1)+4,none⟩)),(14,39,NV f),(15,40,.pointer (some ⟨w.heap.size,4,none⟩)),(16,41,NV q),(17,42,.bool false),(18,43,.bool false)] [] [] [true,false] ?_ ?_
 ·exact oc g_mv<|oc g_mv<|oc (g_ld 1 uN iN)<|oc (g_fd (fun uZ=>fdG0 _ uZ))<|oc (g_lo 0 0 uN iN)<|oc (g_bn (fun uZ=>Yy _ _ hn hp _ h1 uZ))<|oc g_pk<|oc g_mv<|oc g_mv<|oc g_mv<|oc (g_ln Tryz.underlying31)<|oc (g_bn (fun uZ=>Y6 _ _ (cs.length:Int) 1 ((cs.length -1:Nat):Int) uZ hz3 (by omega) (by omega)))<|oc (g_ix (fun uZ=>ixC b0 0 cs.length cap (cs.length -1) (by omega) uZ))<|oc (g_fd (fun uZ=>fdC1x _ _ uZ))<|oc (g_lf hR.out hlt uN iN)<|oc (g_fd (fun uZ=>fdG1 _ uZ))<|oc (g_lo 0 4 uN iN)<|oc (g_bn (fun uZ=>Yy _ _ hf hq _ h2 uZ))<|oc g_pk on
 intro u4 HB4 sz4 K4
 simp only[sQ] at K4⊢
 clear K3 HB3
 go_upto_region 7 with fail
 refine Rp K4 HB4 [.no,.all 6 (LN (t+1))] [] [(0,45,NV t),(1,46,NV 1),(2,47,.tuple #[NV (t+1),.bool false]),(3,44,.tuple #[NV (t+1),.bool false]),(4,48,NV (t+1)),(5,49,.bool false),(7,8,.bool false)] [(6,0)] [] [] ?_ ?_
 ·exact oc (g_ld 1 uN iN)<|oc (g_bd (fun uZ=>bdX 1 (by omega) (by omega) uZ))<|oc (g_cl Z1 (fun uZ=>X9 t 1 uZ it In_1 ht1))<|oc g_mv<|oc g_ex<|oc g_ex<|oc (g_st 1 iN)<|oc g_as on
 intro u5 HB5 sz5 K5
 simp only[sQ] at K5⊢
 clear K4 HB4
 go_upto_region 8 with fail
 refine Rp K5 HB5 [] [] [(0,50,.bool false),(1,51,.bool false),(2,52,NV (t+1)),(3,53,.pointer (some ⟨w.heap.size,0,none⟩)),(4,54,NV p),(5,55,.bool false),(6,56,.bool false),(7,57,.bool false),(8,58,.pointer (some ⟨w.heap.size,8,none⟩)),(9,59,NV g),(10,60,.pointer (some ⟨w.heap.size,12,none⟩)),(11,61,NV h),(12,62,.bool false),(13,63,.bool false),(14,64,.bool false),(15,65,.pointer (some ⟨w.heap.size,8,none⟩)),(16,66,NV g),(17,67,.pointer (some ⟨w.heap.size,0,none⟩)),(18,68,NV p),(19,69,.pointer (some ⟨w.heap.size,4,none⟩)),(20,70,NV q),(21,71,.bool true),(22,72,.bool false),(23,73,.bool false),(24,74,.bool false),(25,75,.pointer (some ⟨w.heap.size,12,none⟩)),(26,76,NV h),(27,77,.pointer (some ⟨w.heap.size,0,none⟩)),(28,78,NV p),(29,79,.pointer (some ⟨w.heap.size,4,none⟩)),(30,80,NV q),(31,81,.bool false),(32,82,.bool true),(33,83,.bool true)] [] [] [false,false] ?_ ?_
 ·exact oc g_mv<|oc g_mv<|oc (g_ld 1 uN iN)<|oc (g_fd (fun uZ=>fdG0 _ uZ))<|oc (g_lo 0 0 uN iN)<|oc (g_bn (fun uZ=>Yy _ _ it1 hp _ h3 uZ))<|oc g_pk<|oc g_mv<|oc (g_fd (fun uZ=>fdG2 _ uZ))<|oc (g_lo 0 8 uN iN)<|oc (g_fd (fun uZ=>fdG3 _ uZ))<|oc (g_lo 0 12 uN iN)<|oc (g_bn (fun uZ=>W3 _ _ hg hh _ h4 uZ))<|oc g_pk<|oc g_mv<|oc (g_fd (fun uZ=>fdG2 _ uZ))<|oc (g_lo 0 8 uN iN)<|oc (g_fd (fun uZ=>fdG0 _ uZ))<|oc (g_lo 0 0 uN iN)<|oc (g_fd (fun uZ=>fdG1 _ uZ))<|oc (g_lo 0 4 uN iN)<|oc (g_cl Zr (fun uZ=>hM1.out uZ))<|oc (g_un (fun uZ=>rfl))<|oc g_pk<|oc g_mv<|oc (g_fd (fun uZ=>fdG3 _ uZ))<|oc (g_lo 0 12 uN iN)<|oc (g_fd (fun uZ=>fdG0 _ uZ))<|oc (g_lo 0 0 uN iN)<|oc (g_fd (fun uZ=>fdG1 _ uZ))<|oc (g_lo 0 4 uN iN)<|oc (g_cl Zr (fun uZ=>hM2.out uZ))<|oc (g_un (fun uZ=>rfl))<|oc g_pk on
 intro u6 HB6 sz6 K6
 simp only[sQ] at K6⊢
 clear K5 HB5
 go_upto_region 9 with fail
 refine Rn K6 HB6 [(0,4,(Go.Value.int Go.IntKind.i64 30))] ?_ ?_
 ·exact oc g_as on
 intro u7 HB7 sz7 K7
 simp only[sQ] at K7⊢
 clear K6 HB6
 go_wp2
 refine bodyPost_ret (v:= .int .i64 30) (by simp[results,Tryz.results8,go_sem,]) rfl ⟨rfl,HB7⟩
theorem xgroup_ok(p q g h n f t:Int)(b0 cap:Nat)(cs:List (Int×Int×Int))(w:World)(hp:In p)(hq:In q)(hg:In g)(hh:In h)(hcs:cs.length<=256)(hin:Hid (∀j,j<cs.length->In (cat cs j).1/\In (cat cs j).2.1/\In (cat cs j).2.2))(hlt:b0<w.heap.size)(hcv:Hid (CV w b0 (flC cs)))(h0:0<cs.length)(hlf:Hid ((cat cs (cs.length -1)).2.1=f))(hn:In n)(hf:In f)(hChk:Hid (∀u,b0<u.heap.size->CV u b0 (flC cs)->CC 21 #[.slice (some ⟨b0,0,none⟩) cs.length cap] u (.tuple #[NV n,.int .i64 0])))(it:In t)(hAd:Hid (∀u,CC 22 #[NV q,NV q] u (.tuple #[NV t,.bool false])))(h1:decide (n=p)=!false)(h2:decide (f=q)=!false)(ht1:t+1<0x10000000000000000000000000000000000000000000000000000000000000000)(it1:In (t+1))(h3:decide (t+1=p)=!false)(h4:decide (g=h)=false)(hM1:Hid (∀u,CC 23 #[NV g,NV p,NV q] u (.bool true)))(hM2:Hid (∀u,CC 23 #[NV h,NV p,NV q] u (.bool true))):
 CC 8 #[GX p q g h,.slice (some ⟨b0,0,none⟩) cs.length cap] w (.int .i64 0):=by
 go_enter Tryz.func8,Tryz.ntmps8
 go_upto_region 1 with fail
 obtain⟨v0,hC,HB0,K0⟩:=bx1 w (GE p q g h) 26
 rw[hC]
 clear hC
 refine Rp K0 HB0 [] [(5,5,L0s,some (6,LN n))] [(0,10,.slice (some ⟨b0,0,none⟩) cs.length cap),(1,11,.tuple #[NV n,.int .i64 0]),(2,9,.tuple #[NV n,.int .i64 0]),(3,12,NV n),(4,13,.int .i64 0),(7,6,.int .i64 0)] [(6,5)] [] [] ?_ ?_
 ·exact oc g_mv<|oc (g_cb Zc (fun uZ bZ=>hChk.out uZ (Nat.lt_of_lt_of_le hlt bZ.size) (hcv.out.below bZ hlt)))<|oc g_mv<|oc g_ex<|oc g_ex<|oc (g_al 0 aN)<|oc (g_sn 0 iN)<|oc g_as on
 intro u1 b1_5 HB1 sz1 K1
 simp only[sQ] at K1⊢
 clear K0 HB0
 have hz3:(cs.length:Int) -1=((cs.length -1:Nat):Int):=by omega
 have hR:w.rangeAt b0 (0+12*(cs.length -1)+4) (LN f):=by
  have:=Wd (V4 hcv.out (cs.length -1) (by omega))
  rwa [hlf.out] at this
 have hR:Hid _:=hR
 go_upto_region 2 with fail
 refine Rn K1 HB1 [(0,14,.int .i64 0),(1,15,.bool false)] ?_ ?_
 ·exact oc g_mv<|oc (g_bn (fun uZ=>V9 _ _ _ 0 0 _ uZ rfl)) on
 intro u2 HB2 sz2 K2
 simp only[sQ] at K2⊢
 clear K1 HB1
 go_upto_region 4 with fail
 refine Rp K2 HB2 [] [(8,7,L0s,some (9,LN t))] [(0,18,.pointer (some ⟨w.heap.size,4,none⟩)),(1,19,NV q),(2,20,.pointer (some ⟨w.heap.size,4,none⟩)),(3,21,NV q),(4,22,.tuple #[NV t,.bool false]),(5,17,.tuple #[NV t,.bool false]),(6,23,NV t),(7,24,.bool false),(10,8,.bool false)] [(9,8)] [] [] ?_ ?_
 ·exact oc (g_fd (fun uZ=>fdG1 _ uZ))<|oc (g_lo 0 4 uN iN)<|oc (g_fd (fun uZ=>fdG1 _ uZ))<|oc (g_lo 0 4 uN iN)<|oc (g_cl Z1 (fun uZ=>hAd.out uZ))<|oc g_mv<|oc g_ex<|oc g_ex<|oc (g_al 0 aN)<|oc (g_sn 0 iN)<|oc g_as on
 intro u3 b3_8 HB3 sz3 K3
 simp only[sQ] at K3⊢
 clear K2 HB2
 go_upto_region 5 with fail
 refine Rd K3 HB3 [] [] [(0,25,.bool false),(1,26,.bool false),(2,27,NV n),(3,28,.pointer (some ⟨w.heap.size,0,none⟩)),(4,29,NV p),(5,30,.bool false),(6,31,.bool false),(7,32,.bool false),(8,33,.slice (some ⟨b0,0,none⟩) cs.length cap),(9,34,.slice (some ⟨b0,0,none⟩) cs.length cap),(10,35,.int .i64 (cs.length:Int)),(11,36,.int .i64 ((cs.length -1:Nat):Int)),(12,37,.pointer (some ⟨b0,0+12*(cs.length -1),none⟩)),(13,38,.pointer (some ⟨b0,0+12*(cs.length -1)+4,none⟩)),(14,39,NV f),(15,40,.pointer (some ⟨w.heap.size,4,none⟩)),(16,41,NV q),(17,42,.bool false),(18,43,.bool false)] [] [] [true,false] ?_ ?_
 ·exact oc g_mv<|oc g_mv<|oc (g_ld 1 uN iN)<|oc (g_fd (fun uZ=>fdG0 _ uZ))<|oc (g_lo 0 0 uN iN)<|oc (g_bn (fun uZ=>Yy _ _ hn hp _ h1 uZ))<|oc g_pk<|oc g_mv<|oc g_mv<|oc g_mv<|oc (g_ln Tryz.underlying31)<|oc (g_bn (fun uZ=>Y6 _ _ (cs.length:Int) 1 ((cs.length -1:Nat):Int) uZ hz3 (by omega) (by omega)))<|oc (g_ix (fun uZ=>ixC b0 0 cs.length cap (cs.length -1) (by omega) uZ))<|oc (g_fd (fun uZ=>fdC1x _ _ uZ))<|oc (g_lf hR.out hlt uN iN)<|oc (g_fd (fun uZ=>fdG1 _ uZ))<|oc (g_lo 0 4 uN iN)<|oc (g_bn (fun uZ=>Yy _ _ hf hq _ h2 uZ))<|oc g_pk on
 intro u4 HB4 sz4 K4
 simp only[sQ] at K4⊢
 clear K3 HB3
 go_upto_region 7 with fail
 refine Rp K4 HB4 [.no,.all 6 (LN (t+1))] [] [(0,45,NV t),(1,46,NV 1),(2,47,.tuple #[NV (t+1),.bool false]),(3,44,.tuple #[NV (t+1),.bool false]),(4,48,NV (t+1)),(5,49,.bool false),(7,8,.bool false)] [(6,0)] [] [] ?_ ?_
 ·exact oc (g_ld 1 uN iN)<|oc (g_bd (fun uZ=>bdX 1 (by omega) (by omega) uZ))<|oc (g_cl Z1 (fun uZ=>X9 t 1 uZ it In_1 ht1))<|oc g_mv<|oc g_ex<|oc g_ex<|oc (g_st 1 iN)<|oc g_as on
 intro u5 HB5 sz5 K5
 simp only[sQ] at K5⊢
 clear K4 HB4
 go_upto_region 8 with fail
 refine Rp K5 HB5 [] [] [(0,50,.bool false),(1,51,.bool false),(2,52,NV (t+1)),(3,53,.pointer (some ⟨w.heap.size,0,none⟩)),(4,54,NV p),(5,55,.bool false),(6,56,.bool false),(7,57,.bool false),(8,58,.pointer (some ⟨w.heap.size,8,none⟩)),(9,59,NV g),(10,60,.pointer (some ⟨w.heap.size,12,none⟩)),(11,61,NV h),(12,62,.bool false),(13,63,.bool false),(14,64,.bool false),(15,65,.pointer (some ⟨w.heap.size,8,none⟩)),(16,66,NV g),(17,67,.pointer (some ⟨w.heap.size,0,none⟩)),(18,68,NV p),(19,69,.pointer (some ⟨w.heap.size,4,none⟩)),(20,70,NV q),(21,71,.bool true),(22,72,.bool false),(23,73,.bool false),(24,74,.bool false),(25,75,.pointer (some ⟨w.heap.size,12,none⟩)),(26,76,NV h),(27,77,.pointer (some ⟨w.heap.size,0,none⟩)),(28,78,NV p),(29,79,.pointer (some ⟨w.heap.size,4,none⟩)),(30,80,NV q),(31,81,.bool true),(32,82,.bool false),(33,83,.bool false)] [] [] [false,false] ?_ ?_
 ·exact oc g_mv<|oc g_mv<|oc (g_ld 1 uN iN)<|oc (g_fd (fun uZ=>fdG0 _ uZ))<|oc (g_lo 0 0 uN iN)<|oc (g_bn (fun uZ=>Yy _ _ it1 hp _ h3 uZ))<|oc g_pk<|oc g_mv<|oc (g_fd (fun uZ=>fdG2 _ uZ))<|oc (g_lo 0 8 uN iN)<|oc (g_fd (fun uZ=>fdG3 _ uZ))<|oc (g_lo 0 12 uN iN)<|oc (g_bn (fun uZ=>W3 _ _ hg hh _ h4 uZ))<|oc g_pk<|oc g_mv<|oc (g_fd (fun uZ=>fdG2 _ uZ))<|oc (g_lo 0 8 uN iN)<|oc (g_fd (fun uZ=>fdG0 _ uZ))<|oc (g_lo 0 0 uN iN)<|oc (g_fd (fun uZ=>fdG1 _ uZ))<|oc (g_lo 0 4 uN iN)<|oc (g_cl Zr (fun uZ=>hM1.out uZ))<|oc (g_un (fun uZ=>rfl))<|oc g_pk<|oc g_mv<|oc (g_fd (fun uZ=>fdG3 _ uZ))<|oc (g_lo 0 12 uN iN)<|oc (g_fd (fun uZ=>fdG0 _ uZ))<|oc (g_lo 0 0 uN iN)<|oc (g_fd (fun uZ=>fdG1 _ uZ))<|oc (g_lo 0 4 uN iN)<|oc (g_cl Zr (fun uZ=>hM2.out uZ))<|oc (g_un (fun uZ=>rfl))<|oc g_pk on
 intro u6 HB6 sz6 K6
 simp only[sQ] at K6⊢
 clear K5 HB5
 go_upto_region 10 with fail
 refine Rn K6 HB6 [(0,4,(Go.Value.int Go.IntKind.i64 0))] ?_ ?_
 ·exact oc g_as on
 intro u7 HB7 sz7 K7
 simp only[sQ] at K7⊢
 clear K6 HB6
 go_wp2
 refine bodyPost_ret (v:= .int .i64 0) (by simp[results,Tryz.results8,go_sem,]) rfl ⟨rfl,HB7⟩
theorem xGroup(p q g h:Int)(b0 cap:Nat)(cs:List (Int×Int×Int))(w:World)(hp:In p)(hq:In q)(hg:In g)(hh:In h)(hcs:cs.length<=256)(hin:Hid (∀j,j<cs.length->In (cat cs j).1/\In (cat cs j).2.1/\In (cat cs j).2.2))(hlt:b0<w.heap.size)(hcv:Hid (CV w b0 (flC cs))):
 CC 8 #[GX p q g h,.slice (some ⟨b0,0,none⟩) cs.length cap] w (.int .i64 (gpE p q g h cs)):=by
 cases hb:cfB cs with
 | false=>
  rw[gpE_f (by unfold gpB;rw[hb];rfl)]
  exact xgroup_f p q g h 0 0 b0 cap cs w hp hq hg hh hcs hin hlt hcv fun u k1 k2=>xCheck cs _ _ b0 cap u hcs hin k1 k2 rfl (fun _=>rfl) (fun e=>by rw[hb] at e;cases e)
 | true=>
  obtain⟨h0,hpr⟩:=cfB_pr hin.out hb
  obtain⟨hn,hf,_⟩:=hin.out (cs.length -1) (by omega)
  have hChk: ∀u,b0<u.heap.size->CV u b0 (flC cs)->CC 21 #[.slice (some ⟨b0,0,none⟩) cs.length cap] u (.tuple #[NV (cat cs (cs.length -1)).1,.int .i64 0]):=
   fun u k1 k2=>xCheck cs _ _ b0 cap u hcs hin k1 k2 rfl (fun e=>by rw[hb] at e;cases e) (fun _=>rfl)
  have q0:=hq.1
  have q1:=hq.2
  have p1:=hp.2
  by_cases ho:q+q<0x10000000000000000000000000000000000000000000000000000000000000000
  rotate_left
  ·have ht:twB p q=false:=decide_eq_false (by omega)
   rw[gpE_f (by unfold gpB;rw[ht];simp only[Bool.false_and,Bool.and_false])]
   exact xgroup_o p q g h _ _ _ b0 cap cs w hp hq hg hh hcs hin hlt hcv h0 rfl hn hf hChk ⟨by omega,by omega⟩ (fun u=>nrAdd_ge q q u hq hq (by omega))
  have it:In (q+q):=⟨by omega,ho⟩
  have hAd:=fun u=>X9 q q u hq hq ho
  by_cases h1:(cat cs (cs.length -1)).1=p
  rotate_left
  ·rw[gpE_f (by unfold gpB;rw[hb,decide_eq_false h1];rfl)]
   exact xgroup_n p q g h _ _ _ b0 cap cs w hp hq hg hh hcs hin hlt hcv h0 rfl hn hf hChk it hAd (decide_eq_false h1)
  by_cases h2:(cat cs (cs.length -1)).2.1=q
  rotate_left
  ·rw[gpE_f (by unfold gpB;rw[hb,decide_eq_true h1,decide_eq_false h2];rfl)]
   exact xgroup_q p q g h _ _ _ b0 cap cs w hp hq hg hh hcs hin hlt hcv h0 rfl hn hf hChk it hAd (decide_eq_true h1) (decide_eq_false h2)
  have h1':decide ((cat cs (cs.length -1)).1=p)=!false:=decide_eq_true h1
  have h2':decide ((cat cs (cs.length -1)).2.1=q)=!false:=decide_eq_true h2
  have pp:1<=p:=by have:=hpr.1;omega
  have hM1:=fun u=>xMember g p q u hg hp hq pp
  have hM2:=fun u=>xMember h p q u hh hp hq pp
  have e:gpB p q g h cs=(twB p q&&(gnB g p q&&(gnB h p q&&!decide (g=h)))):=by unfold gpB;rw[hb,h1',h2'];rfl
  have ht1:q+q+1<0x10000000000000000000000000000000000000000000000000000000000000000:=by omega
  have it1:In (q+q+1):=⟨by omega,ht1⟩
  by_cases h3:q+q+1=p
  rotate_left
  ·have ht:twB p q=false:=decide_eq_false (by omega)
   rw[gpE_f (by rw[e,ht];rfl)]
   exact xgroup_t p q g h _ _ _ b0 cap cs w hp hq hg hh hcs hin hlt hcv h0 rfl hn hf hChk it hAd h1' h2' ht1 it1 (decide_eq_false h3)
  have h3':decide (q+q+1=p)=!false:=decide_eq_true h3
  have ht:twB p q=true:=decide_eq_true (by omega)
  rw[ht,Bool.true_and] at e
  cases h4:decide (g=h) with
  | true=>
   rw[gpE_f (by rw[e,h4];cases gnB g p q<;>cases gnB h p q<;>rfl)]
   exact xgroup_e p q g h _ _ _ b0 cap cs w hp hq hg hh hcs hin hlt hcv h0 rfl hn hf hChk it hAd h1' h2' ht1 it1 h3' h4
  | false=>
  rw[h4] at e
  cases hg1:gnB g p q with
  | false=>
   rw[hg1] at hM1 e
   rw[gpE_f (by rw[e];rfl)]
   exact xgroup_g p q g h _ _ _ b0 cap cs w hp hq hg hh hcs hin hlt hcv h0 rfl hn hf hChk it hAd h1' h2' ht1 it1 h3' h4 hM1
  | true=>
  rw[hg1] at hM1 e
  cases hg2:gnB h p q with
  | false=>
   rw[hg2] at hM2 e
   rw[gpE_f (by rw[e];rfl)]
   exact xgroup_h p q g h _ _ _ b0 cap cs w hp hq hg hh hcs hin hlt hcv h0 rfl hn hf hChk it hAd h1' h2' ht1 it1 h3' h4 hM1 hM2
  | true=>
   rw[hg2] at hM2 e
   rw[gpE_t (by rw[e];rfl)]
   exact xgroup_ok p q g h _ _ _ b0 cap cs w hp hq hg hh hcs hin hlt hcv h0 rfl hn hf hChk it hAd h1' h2' ht1 it1 h3' h4 hM1 hM2
end Go.Proofs.YtdhlekdohebbbaaGreatDoor
