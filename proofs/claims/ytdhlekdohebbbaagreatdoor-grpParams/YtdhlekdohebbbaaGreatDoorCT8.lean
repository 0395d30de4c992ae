import Derived.Test.YtdhlekdohebbbaaGreatDoorCT3
namespace Go.Proofs.YtdhlekdohebbbaaGreatDoor
set_option linter.unusedVariables false
set_option linter.unusedSimpArgs false
set_option maxRecDepth 100000
set_option maxHeartbeats 4000000
open Go.RowKit
theorem lss_u(p q:Operand)(x y:Int)(b:Bool)(w:World)(h:decide (x<y)=b):(do eqGuard .lss 22 p q (.int .u64 x) (.int .u64 y);binOp .lss 22 (.int .u64 x) (.int .u64 y):Sem Value).run Tryz.prog w= .ok (.bool b) w:=by
 subst h;go_simp
theorem geq_u(p q:Operand)(x y:Int)(b:Bool)(w:World)(h:decide (y<=x)=b):(do eqGuard .geq 22 p q (.int .u64 x) (.int .u64 y);binOp .geq 22 (.int .u64 x) (.int .u64 y):Sem Value).run Tryz.prog w= .ok (.bool b) w:=by
 subst h;go_simp
theorem bdX(x:Int)(h0:0<=x)(h1:x<18446744073709551616)(w:World):(Instr.build 24 [(0,.int .u64 x)].toArray).run Tryz.prog w= .ok (NV x) w:=by
 rw[Vs h0 h1];kernel_rfl
theorem LN_cx{n x:Int}(h:D0 n=x):(LN n)[0]?=some (.int .u64 x):=by simp[LN,h]
theorem Sm.not{x d:Int}(h2:2<=d)(hd:d<x)(hr:x%d=0): ¬Sm x:=fun h=>by
 have hp:=h.pr
 have:d.toNat∣x.toNat:=by
  have e:(d:Int)∣x:=Int.dvd_of_emod_eq_zero hr
  rw[<-Int.toNat_of_nonneg (show 0<=d by omega),<-Int.toNat_of_nonneg (show 0<=x by omega)] at e
  exact Int.ofNat_dvd.1 e
 rcases hp.2 _ this with e | e<;>omega
theorem lt_sq{e n:Int}(h2:2<=e)(h:e*e<=n):e<n:=by
 have:2*e<=e*e:=Int.mul_le_mul_of_nonneg_right h2 (by omega)
 omega
theorem lt_1024{e n:Int}(h:e*e<=n)(hn:n<1048576):e<1024:=Int.lt_of_not_ge fun hn'=>by
 have:(1024:Int)*1024<=e*e:=Int.mul_le_mul hn' hn' (by omega) (by omega)
 omega
theorem xSmall_big(n x:Int)(w:World)(hn:In n)(hx:Hid (D0 n=x))(x0:0<=x)(x1:x<18446744073709551616)(h1:decide (n=x)=!true)(hf:smB n=false):
 CC 38 #[NV n] w (.bool (smB n)):=by
 have ix:In x:=⟨x0,by omega⟩
 go_enter Tryz.func38,Tryz.ntmps38
 go_upto_region 1 with fail
 obtain⟨v0,hC,HB0,K0⟩:=bx1 w (LN n) 24
 rw[hC]
 clear hC
 refine Rn K0 HB0 [(0,5,.pointer (some ⟨w.heap.size,0,none⟩)),(1,6,.int .u64 x),(2,3,.int .u64 x)] ?_ ?_
 ·exact oc (g_ix (jN 0))<|oc (g_lv 0 0 lU (LN_cx hx.out))<|oc g_as on
 intro u1 HB1 sz1 K1
 simp only[sQ] at K1⊢
 clear K0 HB0
 go_upto_region 2 with fail
 refine Rp K1 HB1 [] [] [(0,7,NV n),(1,8,.int .u64 x),(2,9,NV x),(3,10,.bool true),(4,11,.bool true),(5,12,undef),(6,13,undef),(7,14,(Go.Value.bool Bool.true)),(8,15,(Go.Value.bool Bool.true)),(9,16,undef),(10,17,undef),(11,18,(Go.Value.bool Bool.true))] [] [] [false] ?_ ?_
 ·exact oc (g_ld 0 uN iN)<|oc g_mv<|oc (g_bd (fun uZ=>bdX x x0 x1 uZ))<|oc (g_bn (fun uZ=>Yy _ _ hn ix _ h1 uZ))<|oc g_mv<|oc g_sk<|oc g_sk<|oc g_pk<|oc g_mv<|oc g_sk<|oc g_sk<|oc g_pk on
 intro u2 HB2 sz2 K2
 simp only[sQ] at K2⊢
 clear K1 HB1
 go_upto_region 3 with fail
 refine Rn K2 HB2 [(0,2,(Go.Value.bool Bool.false))] ?_ ?_
 ·exact oc g_as on
 intro u3 HB3 sz3 K3
 simp only[sQ] at K3⊢
 clear K2 HB2
 go_wp2
 refine bodyPost_ret (v:= .bool false) (by simp[results,Tryz.results38,go_sem,]) rfl ⟨by first | rfl | rw[hf],HB3⟩
theorem xSmall_lo(n x:Int)(w:World)(hn:In n)(hx:Hid (D0 n=x))(x0:0<=x)(x1:x<18446744073709551616)(h1:decide (n=x)=!false)(h2:decide (x<2)=true)(hf:smB n=false):
 CC 38 #[NV n] w (.bool (smB n)):=by
 have ix:In x:=⟨x0,by omega⟩
 go_enter Tryz.func38,Tryz.ntmps38
 go_upto_region 1 with fail
 obtain⟨v0,hC,HB0,K0⟩:=bx1 w (LN n) 24
 rw[hC]
 clear hC
 refine Rn K0 HB0 [(0,5,.pointer (some ⟨w.heap.size,0,none⟩)),(1,6,.int .u64 x),(2,3,.int .u64 x)] ?_ ?_
 ·exact oc (g_ix (jN 0))<|oc (g_lv 0 0 lU (LN_cx hx.out))<|oc g_as on
 intro u1 HB1 sz1 K1
 simp only[sQ] at K1⊢
 clear K0 HB0
 go_upto_region 2 with fail
 refine Rp K1 HB1 [] [] [(0,7,NV n),(1,8,.int .u64 x),(2,9,NV x),(3,10,.bool false),(4,11,.bool false),(5,12,.int .u64 x),(6,13,.bool true),(7,14,.bool true),(8,15,.bool true),(9,16,undef),(10,17,undef),(11,18,(Go.Value.bool Bool.true))] [] [] [false] ?_ ?_
 ·exact oc (g_ld 0 uN iN)<|oc g_mv<|oc (g_bd (fun uZ=>bdX x x0 x1 uZ))<|oc (g_bn (fun uZ=>Yy _ _ hn ix _ h1 uZ))<|oc g_mv<|oc g_mv<|oc (g_bn (fun uZ=>lss_u _ _ x 2 _ uZ h2))<|oc g_pk<|oc g_mv<|oc g_sk<|oc g_sk<|oc g_pk on
 intro u2 HB2 sz2 K2
 simp only[sQ] at K2⊢
 clear K1 HB1
 go_upto_region 3 with fail
 refine Rn K2 HB2 [(0,2,(Go.Value.bool Bool.false))] ?_ ?_
 ·exact oc g_as on
 intro u3 HB3 sz3 K3
 simp only[sQ] at K3⊢
 clear K2 HB2
 go_wp2
 refine bodyPost_ret (v:= .bool false) (by simp[results,Tryz.results38,go_sem,]) rfl ⟨by first | rfl | rw[hf],HB3⟩
theorem xSmall_hi(n x:Int)(w:World)(hn:In n)(hx:Hid (D0 n=x))(x0:0<=x)(x1:x<18446744073709551616)(h1:decide (n=x)=!false)(h2:decide (x<2)=false)(h3:decide (1048576<=x)=true)(hf:smB n=false):
 CC 38 #[NV n] w (.bool (smB n)):=by
 have ix:In x:=⟨x0,by omega⟩
 go_enter Tryz.func38,Tryz.ntmps38
 go_upto_region 1 with fail
 obtain⟨v0,hC,HB0,K0⟩:=bx1 w (LN n) 24
 rw[hC]
 clear hC
 refine Rn K0 HB0 [(0,5,.pointer (some ⟨w.heap.size,0,none⟩)),(1,6,.int .u64 x),(2,3,.int .u64 x)] ?_ ?_
 ·exact oc (g_ix (jN 0))<|oc (g_lv 0 0 lU (LN_cx hx.out))<|oc g_as on
 intro u1 HB1 sz1 K1
 simp only[sQ] at K1⊢
 clear K0 HB0
 go_upto_region 2 with fail
 refine Rp K1 HB1 [] [] [(0,7,NV n),(1,8,.int .u64 x),(2,9,NV x),(3,10,.bool false),(4,11,.bool false),(5,12,.int .u64 x),(6,13,.bool false),(7,14,.bool false),(8,15,.bool false),(9,16,.int .u64 x),(10,17,.bool true),(11,18,.bool true)] [] [] [false] ?_ ?_
 ·exact oc (g_ld 0 uN iN)<|oc g_mv<|oc (g_bd (fun uZ=>bdX x x0 x1 uZ))<|oc (g_bn (fun uZ=>Yy _ _ hn ix _ h1 uZ))<|oc g_mv<|oc g_mv<|oc (g_bn (fun uZ=>lss_u _ _ x 2 _ uZ h2))<|oc g_pk<|oc g_mv<|oc g_mv<|oc (g_bn (fun uZ=>geq_u _ _ x 1048576 _ uZ h3))<|oc g_pk on
 intro u2 HB2 sz2 K2
 simp only[sQ] at K2⊢
 clear K1 HB1
 go_upto_region 3 with fail
 refine Rn K2 HB2 [(0,2,(Go.Value.bool Bool.false))] ?_ ?_
 ·exact oc g_as on
 intro u3 HB3 sz3 K3
 simp only[sQ] at K3⊢
 clear K2 HB2
 go_wp2
 refine bodyPost_ret (v:= .bool false) (by simp[results,Tryz.results38,go_sem,]) rfl ⟨by first | rfl | rw[hf],HB3⟩
theorem xSmall_in(n x:Int)(w:World)(hn:In n)(hx:Hid (D0 n=x))(x0:0<=x)(x1:x<18446744073709551616)(h1:decide (n=x)=!false)(h2:decide (x<2)=false)(h3:decide (1048576<=x)=false)(hnx:Hid (n=x))(x2:2<=x)(x3:x<1048576):
 CC 38 #[NV n] w (.bool (smB n)):=by
 have ix:In x:=⟨x0,by omega⟩
 go_enter Tryz.func38,Tryz.ntmps38
 go_upto_region 1 with fail
 obtain⟨v0,hC,HB0,K0⟩:=bx1 w (LN n) 24
 rw[hC]
 clear hC
 refine Rn K0 HB0 [(0,5,.pointer (some ⟨w.heap.size,0,none⟩)),(1,6,.int .u64 x),(2,3,.int .u64 x)] ?_ ?_
 ·exact oc (g_ix (jN 0))<|oc (g_lv 0 0 lU (LN_cx hx.out))<|oc g_as on
 intro u1 HB1 sz1 K1
 simp only[sQ] at K1⊢
 clear K0 HB0
 go_upto_region 2 with fail
 refine Rp K1 HB1 [] [] [(0,7,NV n),(1,8,.int .u64 x),(2,9,NV x),(3,10,.bool false),(4,11,.bool false),(5,12,.int .u64 x),(6,13,.bool false),(7,14,.bool false),(8,15,.bool false),(9,16,.int .u64 x),(10,17,.bool false),(11,18,.bool false)] [] [] [false] ?_ ?_
 ·exact oc (g_ld 0 uN iN)<|oc g_mv<|oc (g_bd (fun uZ=>bdX x x0 x1 uZ))<|oc (g_bn (fun uZ=>Yy _ _ hn ix _ h1 uZ))<|oc g_mv<|oc g_mv<|oc (g_bn (fun uZ=>lss_u _ _ x 2 _ uZ h2))<|oc g_pk<|oc g_mv<|oc g_mv<|oc (g_bn (fun uZ=>geq_u _ _ x 1048576 _ uZ h3))<|oc g_pk on
 intro u2 HB2 sz2 K2
 simp only[sQ] at K2⊢
 clear K1 HB1
 go_upto_region 4 with fail
 refine Rn K2 HB2 [(0,4,(Go.Value.int Go.IntKind.u64 2))] ?_ ?_
 ·exact oc g_as on
 intro u3 HB3 sz3 K3
 simp only[sQ] at K3⊢
 clear K2 HB2
 go_wp2_with fail
 go_loopw [4] (fun s4 wr=> ∃(d:Int),s4= .int .u64 d/\2<=d/\d<=1024/\Hid (∀e:Int,2<=e->e<d->x%e≠0)/\Bw w wr) (fun s4 _=>1024 -(intOf s4).toNat)
 case atStart=>exact⟨2,rfl,by omega,by omega,(fun e h1 h2=>by omega),HB3⟩
 case round=>
  obtain⟨d,rfl,hd2,hdl,hA,HBr⟩:=hrel
  clear HB3
  by_cases hj:d<1024
  ·have hl:decide (d<1024)=true:=by simp[hj]
   by_cases hk:d<x
   ·have hl2:decide (d<x)=true:=by simp[hk]
    have K3_1:=Bk.nil (w.heap.size) wr
    go_upto_region 5 with fail
    refine Rn K3_1 HBr [(0,19,.int .u64 d),(1,20,.bool true),(2,21,.bool true),(3,22,.int .u64 d),(4,23,.int .u64 x),(5,24,.bool true),(6,25,.bool true)] ?_ ?_
    ·exact oc g_mv<|oc (g_bn (fun uZ=>lss_u _ _ d 1024 _ uZ hl))<|oc g_mv<|oc g_mv<|oc g_mv<|oc (g_bn (fun uZ=>lss_u _ _ d x _ uZ hl2))<|oc g_pk on
    intro u4 HB4 sz4 K4
    simp only[sQ] at K4⊢
    by_cases hr:x%d=0
    ·have hl3:(x%d==0)=true:=by simp[hr]
     have hf:smB n=false:=by rw[hnx.out];exact smB_f (Sm.not hd2 hk hr)
     go_upto_region 7 with fail
     refine Rn K4 HB4 [(0,28,.int .u64 x),(1,29,.int .u64 d),(2,30,.int .u64 (x%d)),(3,31,.bool true)] ?_ ?_
     ·exact oc g_mv<|oc g_mv<|oc (g_bn (fun uZ=>Uu _ _ x d (x%d) uZ (by omega) (by omega) (by omega) rfl))<|oc (g_bn (fun uZ=>Vg _ _ _ (x%d) 0 _ uZ hl3)) on
     intro u5 HB5 sz5 K5
     simp only[sQ] at K5⊢
     clear K4 HB4
     go_upto_region 8 with fail
     refine Rn K5 HB5 [(0,2,(Go.Value.bool Bool.false))] ?_ ?_
     ·exact oc g_as on
     intro u6 HB6 sz6 K6
     simp only[sQ] at K6⊢
     clear K5 HB5
     go_wp2
     refine bodyPost_ret (v:= .bool false) (by simp[results,Tryz.results38,go_sem,]) rfl ⟨by first | rfl | rw[hf],HB6⟩
    ·have hl3:(x%d==0)=false:=by simp[hr]
     go_upto_region 7 with fail
     refine Rn K4 HB4 [(0,28,.int .u64 x),(1,29,.int .u64 d),(2,30,.int .u64 (x%d)),(3,31,.bool false)] ?_ ?_
     ·exact oc g_mv<|oc g_mv<|oc (g_bn (fun uZ=>Uu _ _ x d (x%d) uZ (by omega) (by omega) (by omega) rfl))<|oc (g_bn (fun uZ=>Vg _ _ _ (x%d) 0 _ uZ hl3)) on
     intro u5 HB5 sz5 K5
     simp only[sQ] at K5⊢
     clear K4 HB4
     go_upto_region 6 with fail
     refine Rp K5 HB5 [] [] [(0,26,.int .u64 d),(1,27,.int .u64 (d+1)),(2,4,.int .u64 (d+1))] [(2,0)] [(2,4)] [] ?_ ?_
     ·exact oc g_mv<|oc (g_bn (fun uZ=>add_u _ _ d 1 (d+1) uZ (by omega)))<|oc g_as on
     intro u6 HB6 sz6 K6
     simp only[sQ] at K6⊢
     clear K5 HB5
     go_wp2
     refine⟨⟨d+1,rfl,by omega,by omega,(fun e h1 h2=>by
      by_cases he:e=d
      ·rw[he];exact hr
      ·exact hA.out e h1 (by omega)),HB6⟩,?_⟩
     simp[intOf]<;>omega
   ·have hl2:decide (d<x)=false:=by simp;omega
    have hf:smB n=true:=by rw[hnx.out];exact smB_t ⟨x2,x3,fun e h3 h4=>hA.out e h3 (by have:=lt_sq h3 h4;have:=lt_1024 h4 x3;omega)⟩
    have K3_1:=Bk.nil (w.heap.size) wr
    go_upto_region 5 with fail
    refine Rn K3_1 HBr [(0,19,.int .u64 d),(1,20,.bool true),(2,21,.bool true),(3,22,.int .u64 d),(4,23,.int .u64 x),(5,24,.bool false),(6,25,.bool false)] ?_ ?_
    ·exact oc g_mv<|oc (g_bn (fun uZ=>lss_u _ _ d 1024 _ uZ hl))<|oc g_mv<|oc g_mv<|oc g_mv<|oc (g_bn (fun uZ=>lss_u _ _ d x _ uZ hl2))<|oc g_pk on
    intro u4 HB4 sz4 K4
    simp only[sQ] at K4⊢
    go_upto_region 9 with fail
    refine Rn K4 HB4 [(0,2,(Go.Value.bool Bool.true))] ?_ ?_
    ·exact oc g_as on
    intro u5 HB5 sz5 K5
    simp only[sQ] at K5⊢
    clear K4 HB4
    go_wp2
    refine bodyPost_ret (v:= .bool true) (by simp[results,Tryz.results38,go_sem,]) rfl ⟨by first | rfl | rw[hf],HB5⟩
  ·have hl:decide (d<1024)=false:=by simp;omega
   have hf:smB n=true:=by rw[hnx.out];exact smB_t ⟨x2,x3,fun e h3 h4=>hA.out e h3 (by have:=lt_sq h3 h4;have:=lt_1024 h4 x3;omega)⟩
   have K3_1:=Bk.nil (w.heap.size) wr
   go_upto_region 5 with fail
   refine Rn K3_1 HBr [(0,19,.int .u64 d),(1,20,.bool false),(2,21,.bool false),(3,22,undef),(4,23,undef),(5,24,undef),(6,25,(Go.Value.bool Bool.false))] ?_ ?_
   ·exact oc g_mv<|oc (g_bn (fun uZ=>lss_u _ _ d 1024 _ uZ hl))<|oc g_mv<|oc g_sk<|oc g_sk<|oc g_sk<|oc g_pk on
   intro u4 HB4 sz4 K4
   simp only[sQ] at K4⊢
   go_upto_region 9 with fail
   refine Rn K4 HB4 [(0,2,(Go.Value.bool Bool.true))] ?_ ?_
   ·exact oc g_as on
   intro u5 HB5 sz5 K5
   simp only[sQ] at K5⊢
   clear K4 HB4
   go_wp2
   refine bodyPost_ret (v:= .bool true) (by simp[results,Tryz.results38,go_sem,]) rfl ⟨by first | rfl | rw[hf],HB5⟩
theorem xSmall(n:Int)(w:World)(hn:In n):
 CC 38 #[NV n] w (.bool (smB n)):=by
 have hW:=W_D0 n
 obtain⟨x,hx⟩: ∃x,D0 n=x:=⟨_,rfl⟩
 rw[hx] at hW
 have x0:0<=x:=hW.1
 have x1:x<18446744073709551616:=hW.2
 by_cases e:n=x
 ·by_cases a:x<2
  ·exact xSmall_lo n x w hn hx x0 x1 (by simp[e]) (by simp[a]) (smB_f fun k=>by have:=k.1;omega)
  ·by_cases b:x<1048576
   ·exact xSmall_in n x w hn hx x0 x1 (by simp[e]) (by simp;omega) (by simp;omega) e (by omega) b
   ·exact xSmall_hi n x w hn hx x0 x1 (by simp[e]) (by simp;omega) (by simp;omega) (smB_f fun k=>by have:=k.2.1;omega)
 ·refine xSmall_big n x w hn hx x0 x1 (by simp[e]) (smB_f fun k=>e ?_)
  have:=k.1
  have:=k.2.1
  rw[<-hx];unfold D0;omega
theorem Va(p q:Operand)(x y:Int)(b:Bool)(w:World)(h:decide (y<x)=b):(do eqGuard .gtr 22 p q (.int .u64 x) (.int .u64 y);binOp .gtr 22 (.int .u64 x) (.int .u64 y):Sem Value).run Tryz.prog w= .ok (.bool b) w:=by
 subst h;go_simp
theorem leq_i(p q:Operand)(x y:Int)(b:Bool)(w:World)(h:decide (x<=y)=b):(do eqGuard .leq 3 p q (.int .i64 x) (.int .i64 y);binOp .leq 3 (.int .i64 x) (.int .i64 y):Sem Value).run Tryz.prog w= .ok (.bool b) w:=by
 subst h;go_simp
theorem Zk(n m:Int)(w:World)(hn:In n)(hm:In m):CC 34 #[NV n,NV m] w (.int .i64 (cmpI n m)):=by
 have k:=Td _ _ _ _ _ _ _ _ w (W_D0 n) (W_D1 n) (W_D2 n) (W_D3 n) (W_D0 m) (W_D1 m) (W_D2 m) (W_D3 m)
 simp only[V_In hn,V_In hm] at k
 exact k
theorem Z0:EnT 34:=fun _ _=>by kernel_rfl
theorem xstep_even(n f a:Int)(w:World)(hn:In n)(hf:In f)(h1:(D0 n%2==0)=true):
 CC 39 #[CX n f a] w (.bool false):=by
 have d0:0<=D0 n:=by unfold D0;omega
 have d1:D0 n<18446744073709551616:=by unfold D0;omega
 go_enter Tryz.func39,Tryz.ntmps39
 go_upto_region 1 with fail
 obtain⟨v0,hC,HB0,K0⟩:=bx1 w (CE n f a) 48
 rw[hC]
 clear hC
 refine Rp K0 HB0 [] [] [(0,17,.pointer (some ⟨w.heap.size,0,none⟩)),(1,18,.pointer (some ⟨w.heap.size,0,none⟩)),(2,19,.int .u64 (D0 n)),(3,20,.int .u64 (D0 n%2)),(4,21,.bool true),(5,22,.bool true),(6,23,undef),(7,24,undef),(8,25,undef),(9,26,undef),(10,27,undef),(11,28,(Go.Value.bool Bool.true)),(12,29,(Go.Value.bool Bool.true)),(13,30,undef),(14,31,undef),(15,32,undef),(16,33,undef),(17,34,undef),(18,35,(Go.Value.bool Bool.true))] [] [] [false] ?_ ?_
 ·exact oc (g_fd (fun uZ=>fdC0 _ uZ))<|oc (g_ix (jN 0))<|oc (g_lc 0 0 lU)<|oc (g_bn (fun uZ=>Uu _ _ (D0 n) 2 (D0 n%2) uZ d0 d1 (by omega) rfl))<|oc (g_bn (fun uZ=>Vg _ _ _ (D0 n%2) 0 _ uZ h1))<|oc g_mv<|oc g_sk<|oc g_sk<|oc g_sk<|oc g_sk<|oc g_sk<|oc g_pk<|oc g_mv<|oc g_sk<|oc g_sk<|oc g_sk<|oc g_sk<|oc g_sk<|oc g_pk on
 intro u1 HB1 sz1 K1
 simp only[sQ] at K1⊢
 clear K0 HB0
 go_upto_region 2 with fail
 refine Rn K1 HB1 [(0,2,(Go.Value.bool Bool.false))] ?_ ?_
 ·exact oc g_as on
 intro u2 HB2 sz2 K2
 simp only[sQ] at K2⊢
 clear K1 HB1
 go_wp2
 refine bodyPost_ret (v:= .bool false) (by simp[results,Tryz.results39,go_sem,]) rfl ⟨rfl,HB2⟩
theorem xstep_lo(n f a:Int)(w:World)(hn:In n)(hf:In f)(h1:(D0 n%2==0)=false)(h2:decide (cmpI n 3<0)=true):
 CC 39 #[CX n f a] w (.bool false):=by
 have d0:0<=D0 n:=by unfold D0;omega
 have d1:D0 n<18446744073709551616:=by unfold D0;omega
 go_enter Tryz.func39,Tryz.ntmps39
 go_upto_region 1 with fail
 obtain⟨v0,hC,HB0,K0⟩:=bx1 w (CE n f a) 48
 rw[hC]
 clear hC
 refine Rp K0 HB0 [] [] [(0,17,.pointer (some ⟨w.heap.size,0,none⟩)),(1,18,.pointer (some ⟨w.heap.size,0,none⟩)),(2,19,.int .u64 (D0 n)),(3,20,.int .u64 (D0 n%2)),(4,21,.bool false),(5,22,.bool false),(6,23,.pointer (some ⟨w.heap.size,0,none⟩)),(7,24,NV n),(8,25,NV 3),(9,26,.int .i64 (cmpI n 3)),(10,27,.bool true),(11,28,.bool true),(12,29,.bool true),(13,30,undef),(14,31,undef),(15,32,undef),(16,33,undef),(17,34,undef),(18,35,(Go.Value.bool Bool.true))] [] [] [false] ?_ ?_
 ·exact oc (g_fd (fun uZ=>fdC0 _ uZ))<|oc (g_ix (jN 0))<|oc (g_lc 0 0 lU)<|oc (g_bn (fun uZ=>Uu _ _ (D0 n) 2 (D0 n%2) uZ d0 d1 (by omega) rfl))<|oc (g_bn (fun uZ=>Vg _ _ _ (D0 n%2) 0 _ uZ h1))<|oc g_mv<|oc (g_fd (fun uZ=>fdC0 _ uZ))<|oc (g_lo 0 0 uN iN)<|oc (g_bd (fun uZ=>bdX 3 (by omega) (by omega) uZ))<|oc (g_cl Z0 (fun uZ=>Zk n 3 uZ hn In_3))<|oc (g_bn (fun uZ=>Zg _ _ (cmpI n 3) 0 _ uZ h2))<|oc g_pk<|oc g_mv<|oc g_sk<|oc g_sk<|oc g_sk<|oc g_sk<|oc g_sk<|oc g_pk on
 intro u1 HB1 sz1 K1
 simp only[sQ] at K1⊢
 clear K0 HB0
 go_upto_region 2 with fail
 refine Rn K1 HB1 [(0,2,(Go.Value.bool Bool.false))] ?_ ?_
 ·exact oc g_as on
 intro u2 HB2 sz2 K2
 simp only[sQ] at K2⊢
 clear K1 HB1
 go_wp2
 refine bodyPost_ret (v:= .bool false) (by simp[results,Tryz.results39,go_sem,]) rfl ⟨rfl,HB2⟩
theorem xstep_f(n f a:Int)(w:World)(hn:In n)(hf:In f)(h1:(D0 n%2==0)=false)(h2:decide (cmpI n 3<0)=false)(h3:decide (cmpI f 2<0)=true):
 CC 39 #[CX n f a] w (.bool false):=by
 have d0:0<=D0 n:=by unfold D0;omega
 have d1:D0 n<18446744073709551616:=by unfold D0;omega
 go_enter Tryz.func39,Tryz.ntmps39
 go_upto_region 1 with fail
 obtain⟨v0,hC,HB0,K0⟩:=bx1 w (CE n f a) 48
 rw[hC]
 clear hC
 refine Rp K0 HB0 [] [] [(0,17,.pointer (some ⟨w.heap.size,0,none⟩)),(1,18,.pointer (some ⟨w.heap.size,0,none⟩)),(2,19,.int .u64 (D0 n)),(3,20,.int .u64 (D0 n%2)),(4,21,.bool false),(5,22,.bool false),(6,23,.pointer (some ⟨w.heap.size,0,none⟩)),(7,24,NV n),(8,25,NV 3),(9,26,.int .i64 (cmpI n 3)),(10,27,.bool false),(11,28,.bool false),(12,29,.bool false),(13,30,.pointer (some ⟨w.heap.size,4,none⟩)),(14,31,NV f),(15,32,NV 2),(16,33,.int .i64 (cmpI f 2)),(17,34,.bool true),(18,35,.bool true)] [] [] [false] ?_ ?_
 ·exact oc (g_fd (fun uZ=>fdC0 _ uZ))<|oc (g_ix (jN 0))<|oc (g_lc 0 0 lU)<|oc (g_bn (fun uZ=>Uu _ _ (D0 n) 2 (D0 n%2) uZ d0 d1 (by omega) rfl))<|oc (g_bn (fun uZ=>Vg _ _ _ (D0 n%2) 0 _ uZ h1))<|oc g_mv<|oc (g_fd (fun uZ=>fdC0 _ uZ))<|oc (g_lo 0 0 uN iN)<|oc (g_bd (fun uZ=>bdX 3 (by omega) (by omega) uZ))<|oc (g_cl Z0 (fun uZ=>Zk n 3 uZ hn In_3))<|oc (g_bn (fun uZ=>Zg _ _ (cmpI n 3) 0 _ uZ h2))<|oc g_pk<|oc g_mv<|oc (g_fd (fun uZ=>fdC1 _ uZ))<|oc (g_lo 0 4 uN iN)<|oc (g_bd (fun uZ=>bdX 2 (by omega) (by omega) uZ))<|oc (g_cl Z0 (fun uZ=>Zk f 2 uZ hf In_2))<|oc (g_bn (fun uZ=>Zg _ _ (cmpI f 2) 0 _ uZ h3))<|oc g_pk on
 intro u1 HB1 sz1 K1
 simp only[sQ] at K1⊢
 clear K0 HB0
 go_upto_region 2 with fail
 refine Rn K1 HB1 [(0,2,(Go.Value.bool Bool.false))] ?_ ?_
 ·exact oc g_as on
 intro u2 HB2 sz2 K2
 simp only[sQ] at K2⊢
 clear K1 HB1
 go_wp2
 refine bodyPost_ret (v:= .bool false) (by simp[results,Tryz.results39,go_sem,]) rfl ⟨rfl,HB2⟩
theorem xstep_r(n f a L q r:Int)(w:World)(hn:In n)(hf:In f)(bo:Bool)(h1:(D0 n%2==0)=false)(h2:decide (cmpI n 3<0)=false)(h3:decide (cmpI f 2<0)=false)(hS:Hid (∀u,CC 17 #[NV n,NV 1] u (.tuple #[NV L,.bool bo])))(hD:Hid (∀u,CC 60 #[WV L,NV f] u (.tuple #[WV q,NV r,.int .i64 0])))(hL:In L)(ir:In r)(hr:decide (r=0)=!true):
 CC 39 #[CX n f a] w (.bool false):=by
 have d0:0<=D0 n:=by unfold D0;omega
 have d1:D0 n<18446744073709551616:=by unfold D0;omega
 go_enter Tryz.func39,Tryz.ntmps39
 go_upto_region 1 with fail
 obtain⟨v0,hC,HB0,K0⟩:=bx1 w (CE n f a) 48
 rw[hC]
 clear hC
 refine Rn K0 HB0 [(0,17,.pointer (some ⟨w.heap.size,0,none⟩)),(1,18,.pointer (some ⟨w.heap.size,0,none⟩)),(2,19,.int .u64 (D0 n)),(3,20,.int .u64 (D0 n%2)),(4,21,.bool false),(5,22,.bool false),(6,23,.pointer (some ⟨w.heap.size,0,none⟩)),(7,24,NV n),(8,25,NV 3),(9,26,.int .i64 (cmpI n 3)),(10,27,.bool false),(11,28,.bool false),(12,29,.bool false),(13,30,.pointer (some ⟨w.heap.size,4,none⟩)),(14,31,NV f),(15,32,NV 2),(16,33,.int .i64 (cmpI f 2)),(17,34,.bool false),(18,35,.bool false)] ?_ ?_
 ·exact oc (g_fd (fun uZ=>fdC0 _ uZ))<|oc (g_ix (jN 0))<|oc (g_lc 0 0 lU)<|oc (g_bn (fun uZ=>Uu _ _ (D0 n) 2 (D0 n%2) uZ d0 d1 (by omega) rfl))<|oc (g_bn (fun uZ=>Vg _ _ _ (D0 n%2) 0 _ uZ h1))<|oc g_mv<|oc (g_fd (fun uZ=>fdC0 _ uZ))<|oc (g_lo 0 0 uN iN)<|oc (g_bd (fun uZ=>bdX 3 (by omega) (by omega) uZ))<|oc (g_cl Z0 (fun uZ=>Zk n 3 uZ hn In_3))<|oc (g_bn (fun uZ=>Zg _ _ (cmpI n 3) 0 _ uZ h2))<|oc g_pk<|oc g_mv<|oc (g_fd (fun uZ=>fdC1 _ uZ))<|oc (g_lo 0 4 uN iN)<|oc (g_bd (fun uZ=>bdX 2 (by omega) (by omega) uZ))<|oc (g_cl Z0 (fun uZ=>Zk f 2 uZ hf In_2))<|oc (g_bn (fun uZ=>Zg _ _ (cmpI f 2) 0 _ uZ h3))<|oc g_pk on
 intro u1 HB1 sz1 K1
 simp only[sQ] at K1⊢
 clear K0 HB0
 go_upto_region 3 with fail
 refine Rp K1 HB1 [] [(7,3,L0s,some (8,LN L))] [(0,37,.pointer (some ⟨w.heap.size,0,none⟩)),(1,38,NV n),(2,39,NV 1),(3,40,.tuple #[NV L,.bool bo]),(4,36,.tuple #[NV L,.bool bo]),(5,41,NV L),(6,42,.bool bo),(9,4,.bool bo)] [(8,7)] [] [] ?_ ?_
 ·exact oc (g_fd (fun uZ=>fdC0 _ uZ))<|oc (g_lo 0 0 uN iN)<|oc (g_bd (fun uZ=>bdX 1 (by omega) (by omega) uZ))<|oc (g_cl Z6 (fun uZ=>hS.out uZ))<|oc g_mv<|oc g_ex<|oc g_ex<|oc (g_al 0 aN)<|oc (g_sn 0 iN)<|oc g_as on
 intro u2 b2_7 HB2 sz2 K2
 simp only[sQ] at K2⊢
 clear K1 HB1
 go_upto_region 4 with fail
 refine Rd K2 HB2 [] [(9,5,L0w,some (11,LW q)),(10,6,L0s,some (12,LN r))] [(0,44,NV L),(1,45,WV L),(2,46,.pointer (some ⟨w.heap.size,4,none⟩)),(3,47,NV f),(4,48,.tuple #[WV q,NV r,.int .i64 0]),(5,43,.tuple #[WV q,NV r,.int .i64 0]),(6,49,WV q),(7,50,NV r),(8,51,.int .i64 0),(13,7,.int .i64 0)] [(11,9),(12,10)] [] [false,false,false] ?_ ?_
 ·exact oc (g_ld 1 uN iN)<|oc (g_cl Z8 (fun uZ=>We L uZ hL))<|oc (g_fd (fun uZ=>fdC1 _ uZ))<|oc (g_lo 0 4 uN iN)<|oc (g_cl Zf (fun uZ=>hD.out uZ))<|oc g_mv<|oc g_ex<|oc g_ex<|oc g_ex<|oc (g_al 0 aW)<|oc (g_al 1 aN)<|oc (g_sn 0 iW)<|oc (g_sn 1 iN)<|oc g_as on
 intro u3 b3_9 b3_10 HB3 sz3 K3
 simp only[sQ] at K3⊢
 clear K2 HB2
 go_upto_region 5 with fail
 refine Rp K3 HB3 [] [] [(0,52,NV r),(1,53,A4 (0) (0) (0) (0)),(2,54,.bool true)] [] [] [false] ?_ ?_
 ·exact oc (g_ld 0 uN iN)<|oc (g_bd zN)<|oc (g_bn (fun uZ=>neq_0 _ _ ir _ hr uZ)) on
 intro u4 HB4 sz4 K4
 simp only[sQ] at K4⊢
 clear K3 HB3
 go_upto_region 6 with fail
 refine Rn K4 HB4 [(0,2,(Go.Value.bool Bool.false))] ?_ ?_
 ·exact oc g_as on
 intro u5 HB5 sz5 K5
 simp only[sQ] at K5⊢
 clear K4 HB4
 go_wp2
 refine bodyPost_ret (v:= .bool false) (by simp[results,Tryz.results39,go_sem,]) rfl ⟨rfl,HB5⟩
theorem xstep_w0(n f a L q r s P1 P2 S G:Int)(w:World)(hn:In n)(hf:In f)(bo:Bool)(h1:(D0 n%2==0)=false)(h2:decide (cmpI n 3<0)=false)(h3:decide (cmpI f 2<0)=false)(hS:Hid (∀u,CC 17 #[NV n,NV 1] u (.tuple #[NV L,.bool bo])))(hD:Hid (∀u,CC 60 #[WV L,NV f] u (.tuple #[WV q,NV r,.int .i64 0])))(hL:In L)(ir:In r)(hr:decide (r=0)=!false)(hM:Hid (∀u,CC 55 #[NV f,NV f] u (WV s)))(w0:decide (0<D0 (D4 s))=true)(iP1:In P1)(iG:In G)(hX:Hid (∀u,CC 40 #[NV a,NV L,NV n] u (.tuple #[NV P1,.int .i64 0])))(hY:Hid (∀u,CC 40 #[NV a,NV q,NV n] u (.tuple #[NV P2,.int .i64 0])))(hZ:Hid (∀u,CC 62 #[NV P2,NV 1,NV n] u (.tuple #[NV S,.int .i64 0])))(hG:Hid (∀u,CC 63 #[NV S,NV n] u (NV G))):
 CC 39 #[CX n f a] w (.bool (decide (P1=1)&&decide (G=1))):=by
 have d0:0<=D0 n:=by unfold D0;omega
 have d1:D0 n<18446744073709551616:=by unfold D0;omega
 go_enter Tryz.func39,Tryz.ntmps39
 go_upto_region 1 with fail
 obtain⟨v0,hC,HB0,K0⟩:=bx1 w (CE n f a) 48
 rw[hC]
 clear hC
 refine Rn K0 HB0 [(0,17,.pointer (some ⟨w.heap.size,0,none⟩)),(1,18,.pointer (some ⟨w.heap.size,0,none⟩)),(2,19,.int .u64 (D0 n)),(3,20,.int .u64 (D0 n%2)),(4,21,.bool false),(5,22,.bool false),(6,23,.pointer (some ⟨w.heap.size,0,none⟩)),(7,24,NV n),(8,25,NV 3),(9,26,.int .i64 (cmpI n 3)),(10,27,.bool false),(11,28,.bool false),(12,29,.bool false),(13,30,.pointer (some ⟨w.heap.size,4,none⟩)),(14,31,NV f),(15,32,NV 2),(16,33,.int .i64 (cmpI f 2)),(17,34,.bool false),(18,35,.bool false)] ?_ ?_
 ·exact oc (g_fd (fun uZ=>fdC0 _ uZ))<|oc (g_ix (jN 0))<|oc (g_lc 0 0 lU)<|oc (g_bn (fun uZ=>Uu _ _ (D0 n) 2 (D0 n%2) uZ d0 d1 (by omega) rfl))<|oc (g_bn (fun uZ=>Vg _ _ _ (D0 n%2) 0 _ uZ h1))<|oc g_mv<|oc (g_fd (fun uZ=>fdC0 _ uZ))<|oc (g_lo 0 0 uN iN)<|oc (g_bd (fun uZ=>bdX 3 (by omega) (by omega) uZ))<|oc (g_cl Z0 (fun uZ=>Zk n 3 uZ hn In_3))<|oc (g_bn (fun uZ=>Zg _ _ (cmpI n 3) 0 _ uZ h2))<|oc g_pk<|oc g_mv<|oc (g_fd (fun uZ=>fdC1 _ uZ))<|oc (g_lo 0 4 uN iN)<|oc (g_bd (fun uZ=>bdX 2 (by omega) (by omega) uZ))<|oc (g_cl Z0 (fun uZ=>Zk f 2 uZ hf In_2))<|oc (g_bn (fun uZ=>Zg _ _ (cmpI f 2) 0 _ uZ h3))<|oc g_pk on
 intro u1 HB1 sz1 K1
 simp only[sQ] at K1⊢
 clear K0 HB0
 go_upto_region 3 with fail
 refine Rp K1 HB1 [] [(7,3,L0s,some (8,LN L))] [(0,37,.pointer (some ⟨w.heap.size,0,none⟩)),(1,38,NV n),(2,39,NV 1),(3,40,.tuple #[NV L,.bool bo]),(4,36,.tuple #[NV L,.bool bo]),(5,41,NV L),(6,42,.bool bo),(9,4,.bool bo)] [(8,7)] [] [] ?_ ?_
 ·exact oc (g_fd (fun uZ=>fdC0 _ uZ))<|oc (g_lo 0 0 uN iN)<|oc (g_bd (fun uZ=>bdX 1 (by omega) (by omega) uZ))<|oc (g_cl Z6 (fun uZ=>hS.out uZ))<|oc g_mv<|oc g_ex<|oc g_ex<|oc (g_al 0 aN)<|oc (g_sn 0 iN)<|oc g_as on
 intro u2 b2_7 HB2 sz2 K2
 simp only[sQ] at K2⊢
 clear K1 HB1
 go_upto_region 4 with fail
 refine Rd K2 HB2 [] [(9,5,L0w,some (11,LW q)),(10,6,L0s,some (12,LN r))] [(0,44,NV L),(1,45,WV L),(2,46,.pointer (some ⟨w.heap.size,4,none⟩)),(3,47,NV f),(4,48,.tuple #[WV q,NV r,.int .i64 0]),(5,43,.tuple #[WV q,NV r,.int .i64 0]),(6,49,WV q),(7,50,NV r),(8,51,.int .i64 0),(13,7,.int .i64 0)] [(11,9),(12,10)] [] [] ?_ ?_
 ·exact oc (g_ld 1 uN iN)<|oc (g_cl Z8 (fun uZ=>We L uZ hL))<|oc (g_fd (fun uZ=>fdC1 _ uZ))<|oc (g_lo 0 4 uN iN)<|oc (g_cl Zf (fun uZ=>hD.out uZ))<|oc g_mv<|oc g_ex<|oc g_ex<|oc g_ex<|oc (g_al 0 aW)<|oc (g_al 1 aN)<|oc (g_sn 0 iW)<|oc (g_sn 1 iN)<|oc g_as on
 intro u3 b3_9 b3_10 HB3 sz3 K3
 simp only[sQ] at K3⊢
 clear K2 HB2
 go_upto_region 5 with fail
 refine Rp K3 HB3 [] [] [(0,52,NV r),(1,53,A4 (0) (0) (0) (0)),(2,54,.bool false)] [] [] [true,true,true,false] ?_ ?_
 ·exact oc (g_ld 3 uN iN)<|oc (g_bd zN)<|oc (g_bn (fun uZ=>neq_0 _ _ ir _ hr uZ)) on
 intro u4 HB4 sz4 K4
 simp only[sQ] at K4⊢
 clear K3 HB3
 go_upto_region 7 with fail
 refine Rp K4 HB4 [] [(5,8,L0w,some (6,LW s))] [(0,55,.pointer (some ⟨w.heap.size,4,none⟩)),(1,56,NV f),(2,57,.pointer (some ⟨w.heap.size,4,none⟩)),(3,58,NV f),(4,59,WV s)] [(6,5)] [] [] ?_ ?_
 ·exact oc (g_fd (fun uZ=>fdC1 _ uZ))<|oc (g_lo 0 4 uN iN)<|oc (g_fd (fun uZ=>fdC1 _ uZ))<|oc (g_lo 0 4 uN iN)<|oc (g_cl Zn (fun uZ=>hM.out uZ))<|oc (g_al 0 aW)<|oc (g_sn 0 iW) on
 intro u5 b5_5 HB5 sz5 K5
 simp only[sQ] at K5⊢
 clear K4 HB4
 go_upto_region 8 with fail
 refine Rp K5 HB5 [] [(9,9,L0s,some (10,LN s))] [(0,60,.pointer (some ⟨b5_5,0,none⟩)),(1,61,.int .u64 (D0 s)),(2,62,.pointer (some ⟨b5_5,1,none⟩)),(3,63,.int .u64 (D1 s)),(4,64,.pointer (some ⟨b5_5,2,none⟩)),(5,65,.int .u64 (D2 s)),(6,66,.pointer (some ⟨b5_5,3,none⟩)),(7,67,.int .u64 (D3 s)),(8,68,NV s)] [(10,9)] [] [true,true,true,true,false] ?_ ?_
 ·exact oc (g_ix (jW 0))<|oc (g_lc 3 0 lU)<|oc (g_ix (jW 1))<|oc (g_lc 3 1 lU)<|oc (g_ix (jW 2))<|oc (g_lc 3 2 lU)<|oc (g_ix (jW 3))<|oc (g_lc 3 3 lU)<|oc (g_bd (fun uZ=>bd4 _ _ _ _ uZ))<|oc (g_al 0 aN)<|oc (g_sn 0 iN) on
 intro u6 b6_9 HB6 sz6 K6
 simp only[sQ] at K6⊢
 clear K5 HB5
 go_upto_region 9 with fail
 refine Rp K6 HB6 [] [] [(0,69,.pointer (some ⟨b5_5,4,none⟩)),(1,70,.int .u64 (D0 (D4 s))),(2,71,.bool true),(3,72,.bool true),(4,73,undef),(5,74,undef),(6,75,undef),(7,76,(Go.Value.bool Bool.true)),(8,77,(Go.Value.bool Bool.true)),(9,78,undef),(10,79,undef),(11,80,undef),(12,81,(Go.Value.bool Bool.true)),(13,82,(Go.Value.bool Bool.true)),(14,83,undef),(15,84,undef),(16,85,undef),(17,86,(Go.Value.bool Bool.true)),(18,10,(Go.Value.bool Bool.true))] [] [] [true,true,true,false] ?_ ?_
 ·exact oc (g_ix (jW 4))<|oc (g_lc 3 4 lU)<|oc (g_bn (fun uZ=>Va _ _ (D0 (D4 s)) 0 _ uZ w0))<|oc g_mv<|oc g_sk<|oc g_sk<|oc g_sk<|oc g_pk<|oc g_mv<|oc g_sk<|oc g_sk<|oc g_sk<|oc g_pk<|oc g_mv<|oc g_sk<|oc g_sk<|oc g_sk<|oc g_pk<|oc g_as on
 intro u7 HB7 sz7 K7
 simp only[sQ] at K7⊢
 clear K6 HB6
 go_upto_region 10 with fail
 refine Rn K7 HB7 [(0,87,(Go.Value.bool Bool.true)),(1,88,.bool false),(2,89,.bool false),(3,90,undef),(4,91,undef),(5,92,undef),(6,93,undef),(7,94,undef),(8,95,(Go.Value.bool Bool.false))] ?_ ?_
 ·exact oc g_mv<|oc (g_un (fun uZ=>rfl))<|oc g_mv<|oc g_sk<|oc g_sk<|oc g_sk<|oc g_sk<|oc g_sk<|oc g_pk on
 intro u8 HB8 sz8 K8
 simp only[sQ] at K8⊢
 clear K7 HB7
 go_upto_region 12 with fail
 refine Rp K8 HB8 [] [(9,11,L0s,some (10,LN P1))] [(0,97,.pointer (some ⟨w.heap.size,8,none⟩)),(1,98,NV a),(2,99,NV L),(3,100,.pointer (some ⟨w.heap.size,0,none⟩)),(4,101,NV n),(5,102,.tuple #[NV P1,.int .i64 0]),(6,96,.tuple #[NV P1,.int .i64 0]),(7,103,NV P1),(8,104,.int .i64 0),(11,12,.int .i64 0)] [(10,9)] [] [true,false] ?_ ?_
 ·exact oc (g_fd (fun uZ=>fdC2 _ uZ))<|oc (g_lo 0 8 uN iN)<|oc (g_ld 1 uN iN)<|oc (g_fd (fun uZ=>fdC0 _ uZ))<|oc (g_lo 0 0 uN iN)<|oc (g_cl Z9 (fun uZ=>hX.out uZ))<|oc g_mv<|oc g_ex<|oc g_ex<|oc (g_al 0 aN)<|oc (g_sn 0 iN)<|oc g_as on
 intro u9 b9_9 HB9 sz9 K9
 simp only[sQ] at K9⊢
 clear K8 HB8
 go_upto_region 13 with fail
 refine Rp K9 HB9 [] [(17,13,L0s,some (18,LN P2))] [(0,106,.pointer (some ⟨w.heap.size,8,none⟩)),(1,107,NV a),(2,108,.pointer (some ⟨b3_9,0,none⟩)),(3,109,.int .u64 (D0 q)),(4,110,.pointer (some ⟨b3_9,1,none⟩)),(5,111,.int .u64 (D1 q)),(6,112,.pointer (some ⟨b3_9,2,none⟩)),(7,113,.int .u64 (D2 q)),(8,114,.pointer (some ⟨b3_9,3,none⟩)),(9,115,.int .u64 (D3 q)),(10,116,NV q),(11,117,.pointer (some ⟨w.heap.size,0,none⟩)),(12,118,NV n),(13,119,.tuple #[NV P2,.int .i64 0]),(14,105,.tuple #[NV P2,.int .i64 0]),(15,120,NV P2),(16,121,.int .i64 0),(19,14,.int .i64 0)] [(18,17)] [] [true,false] ?_ ?_
 ·exact oc (g_fd (fun uZ=>fdC2 _ uZ))<|oc (g_lo 0 8 uN iN)<|oc (g_ix (jW 0))<|oc (g_lc 1 0 lU)<|oc (g_ix (jW 1))<|oc (g_lc 1 1 lU)<|oc (g_ix (jW 2))<|oc (g_lc 1 2 lU)<|oc (g_ix (jW 3))<|oc (g_lc 1 3 lU)<|oc (g_bd (fun uZ=>bd4 _ _ _ _ uZ))<|oc (g_fd (fun uZ=>fdC0 _ uZ))<|oc (g_lo 0 0 uN iN)<|oc (g_cl Z9 (fun uZ=>hY.out uZ))<|oc g_mv<|oc g_ex<|oc g_ex<|oc (g_al 0 aN)<|oc (g_sn 0 iN)<|oc g_as on
 intro u10 b10_17 HB10 sz10 K10
 simp only[sQ] at K10⊢
 clear K9 HB9
 go_upto_region 14 with fail
 refine Rp K10 HB10 [] [(8,15,L0s,some (9,LN S))] [(0,123,NV P2),(1,124,NV 1),(2,125,.pointer (some ⟨w.heap.size,0,none⟩)),(3,126,NV n),(4,127,.tuple #[NV S,.int .i64 0]),(5,122,.tuple #[NV S,.int .i64 0]),(6,128,NV S),(7,129,.int .i64 0),(10,16,.int .i64 0)] [(9,8)] [] [true,true,false] ?_ ?_
 ·exact oc (g_ld 2 uN iN)<|oc (g_bd (fun uZ=>bdX 1 (by omega) (by omega) uZ))<|oc (g_fd (fun uZ=>fdC0 _ uZ))<|oc (g_lo 0 0 uN iN)<|oc (g_cl Zv (fun uZ=>hZ.out uZ))<|oc g_mv<|oc g_ex<|oc g_ex<|oc (g_al 0 aN)<|oc (g_sn 0 iN)<|oc g_as on
 intro u11 b11_8 HB11 sz11 K11
 simp only[sQ] at K11⊢
 clear K10 HB10
 obtain⟨b1,e1⟩: ∃b,decide (P1=1)=b:=⟨_,rfl⟩
 obtain⟨b2,e2⟩: ∃b,decide (G=1)=b:=⟨_,rfl⟩
 have hE:(decide (P1=1)&&decide (G=1))=(b1&&b2):=by rw[e1,e2]
 cases b1
 ·skip
  go_upto_region 15 with fail
  refine Rp K11 HB11 [] [] [(0,130,NV P1),(1,131,NV 1),(2,132,.bool false),(3,133,.bool false),(4,134,undef),(5,135,undef),(6,136,undef),(7,137,undef),(8,138,undef),(9,139,undef),(10,140,(Go.Value.bool Bool.false)),(11,2,(Go.Value.bool Bool.false))] [] [] [false,false,false] ?_ ?_
  ·exact oc (g_ld 1 uN iN)<|oc (g_bd (fun uZ=>bdX 1 (by omega) (by omega) uZ))<|oc (g_bn (fun uZ=>W3 _ _ iP1 In_1 _ e1 uZ))<|oc g_mv<|oc g_sk<|oc g_sk<|oc g_sk<|oc g_sk<|oc g_sk<|oc g_sk<|oc g_pk<|oc g_as on
  intro u12 HB12 sz12 K12
  simp only[sQ] at K12⊢
  clear K11 HB11
  go_wp2
  refine bodyPost_ret (v:= .bool false) (by simp[results,Tryz.results39,go_sem,]) rfl ⟨by rw[hE];rfl,HB12⟩
 ·skip
  go_upto_region 15 with fail
  refine Rp K11 HB11 [] [] [(0,130,NV P1),(1,131,NV 1),(2,132,.bool true),(3,133,.bool true),(4,134,NV S),(5,135,.pointer (some ⟨w.heap.size,0,none⟩)),(6,136,NV n),(7,137,NV G),(8,138,NV 1),(9,139,.bool b2),(10,140,.bool b2),(11,2,.bool b2)] [] [] [false,false,false] ?_ ?_
  ·exact oc (g_ld 1 uN iN)<|oc (g_bd (fun uZ=>bdX 1 (by omega) (by omega) uZ))<|oc (g_bn (fun uZ=>W3 _ _ iP1 In_1 _ e1 uZ))<|oc g_mv<|oc (g_ld 2 uN iN)<|oc (g_fd (fun uZ=>fdC0 _ uZ))<|oc (g_lo 0 0 uN iN)<|oc (g_cl Zw (fun uZ=>hG.out uZ))<|oc (g_bd (fun uZ=>bdX 1 (by omega) (by omega) uZ))<|oc (g_bn (fun uZ=>W3 _ _ iG In_1 _ e2 uZ))<|oc g_pk<|oc g_as on
  intro u12 HB12 sz12 K12
  simp only[sQ] at K12⊢
  clear K11 HB11
  go_wp2
  refine bodyPost_ret (v:= .bool b2) (by simp[results,Tryz.results39,go_sem,]) rfl ⟨by rw[hE];rfl,HB12⟩
theorem xstep_w1(n f a L q r s P1 P2 S G:Int)(w:World)(hn:In n)(hf:In f)(bo:Bool)(h1:(D0 n%2==0)=false)(h2:decide (cmpI n 3<0)=false)(h3:decide (cmpI f 2<0)=false)(hS:Hid (∀u,CC 17 #[NV n,NV 1] u (.tuple #[NV L,.bool bo])))(hD:Hid (∀u,CC 60 #[WV L,NV f] u (.tuple #[WV q,NV r,.int .i64 0])))(hL:In L)(ir:In r)(hr:decide (r=0)=!false)(hM:Hid (∀u,CC 55 #[NV f,NV f] u (WV s)))(w0:decide (0<D0 (D4 s))=false)(w1:decide (0<D1 (D4 s))=true)(iP1:In P1)(iG:In G)(hX:Hid (∀u,CC 40 #[NV a,NV L,NV n] u (.tuple #[NV P1,.int .i64 0])))(hY:Hid (∀u,CC 40 #[NV a,NV q,NV n] u (.tuple #[NV P2,.int .i64 0])))(hZ:Hid (∀u,CC 62 #[NV P2,NV 1,NV n] u (.tuple #[NV S,.int .i64 0])))(hG:Hid (∀u,CC 63 #[NV S,NV n] u (NV G))):
 CC 39 #[CX n f a] w (.bool (decide (P1=1)&&decide (G=1))):=by
 have d0:0<=D0 n:=by unfold D0;omega
 have d1:D0 n<18446744073709551616:=by unfold D0;omega
 go_enter Tryz.func39,Tryz.ntmps39
 go_upto_region 1 with fail
 obtain⟨v0,hC,HB0,K0⟩:=bx1 w (CE n f a) 48
 rw[hC]
 clear hC
 refine Rn K0 HB0 [(0,17,.pointer (some ⟨w.heap.size,0,none⟩)),(1,18,.pointer (some ⟨w.heap.size,0,none⟩)),(2,19,.int .u64 (D0 n)),(3,20,.int .u64 (D0 n%2)),(4,21,.bool false),(5,22,.bool false),(6,23,.pointer (some ⟨w.heap.size,0,none⟩)),(7,24,NV n),(8,25,NV 3),(9,26,.int .i64 (cmpI n 3)),(10,27,.bool false),(11,28,.bool false),(12,29,.bool false),(13,30,.pointer (some ⟨w.heap.size,4,none⟩)),(14,31,NV f),(15,32,NV 2),(16,33,.int .i64 (cmpI f 2)),(17,34,.bool false),(18,35,.bool false)] ?_ ?_
 ·exact oc (g_fd (fun uZ=>fdC0 _ uZ))<|oc (g_ix (jN 0))<|oc (g_lc 0 0 lU)<|oc (g_bn (fun uZ=>Uu _ _ (D0 n) 2 (D0 n%2) uZ d0 d1 (by omega) rfl))<|oc (g_bn (fun uZ=>Vg _ _ _ (D0 n%2) 0 _ uZ h1))<|oc g_mv<|oc (g_fd (fun uZ=>fdC0 _ uZ))<|oc (g_lo 0 0 uN iN)<|oc (g_bd (fun uZ=>bdX 3 (by omega) (by omega) uZ))<|oc (g_cl Z0 (fun uZ=>Zk n 3 uZ hn In_3))<|oc (g_bn (fun uZ=>Zg _ _ (cmpI n 3) 0 _ uZ h2))<|oc g_pk<|oc g_mv<|oc (g_fd (fun uZ=>fdC1 _ uZ))<|oc (g_lo 0 4 uN iN)<|oc (g_bd (fun uZ=>bdX 2 (by omega) (by omega) uZ))<|oc (g_cl Z0 (fun uZ=>Zk f 2 uZ hf In_2))<|oc (g_bn (fun uZ=>Zg _ _ (cmpI f 2) 0 _ uZ h3))<|oc g_pk on
 intro u1 HB1 sz1 K1
 simp only[sQ] at K1⊢
 clear K0 HB0
 go_upto_region 3 with fail
 refine Rp K1 HB1 [] [(7,3,L0s,some (8,LN L))] [(0,37,.pointer (some ⟨w.heap.size,0,none⟩)),(1,38,NV n),(2,39,NV 1),(3,40,.tuple #[NV L,.bool bo]),(4,36,.tuple #[NV L,.bool bo]),(5,41,NV L),(6,42,.bool bo),(9,4,.bool bo)] [(8,7)] [] [] ?_ ?_
 ·exact oc (g_fd (fun uZ=>fdC0 _ uZ))<|oc (g_lo 0 0 uN iN)<|oc (g_bd (fun uZ=>bdX 1 (by omega) (by omega) uZ))<|oc (g_cl Z6 (fun uZ=>hS.out uZ))<|oc g_mv<|oc g_ex<|oc g_ex<|oc (g_al 0 aN)<|oc (g_sn 0 iN)<|oc g_as on
 intro u2 b2_7 HB2 sz2 K2
 simp only[sQ] at K2⊢
 clear K1 HB1
 go_upto_region 4 with fail
 refine Rd K2 HB2 [] [(9,5,L0w,some (11,LW q)),(10,6,L0s,some (12,LN r))] [(0,44,NV L),(1,45,WV L),(2,46,.pointer (some ⟨w.heap.size,4,none⟩)),(3,47,NV f),(4,48,.tuple #[WV q,NV r,.int .i64 0]),(5,43,.tuple #[WV q,NV r,.int .i64 0]),(6,49,WV q),(7,50,NV r),(8,51,.int .i64 0),(13,7,.int .i64 0)] [(11,9),(12,10)] [] [] ?_ ?_
 ·exact oc (g_ld 1 uN iN)<|oc (g_cl Z8 (fun uZ=>We L uZ hL))<|oc (g_fd (fun uZ=>fdC1 _ uZ))<|oc (g_lo 0 4 uN iN)<|oc (g_cl Zf (fun uZ=>hD.out uZ))<|oc g_mv<|oc g_ex<|oc g_ex<|oc g_ex<|oc (g_al 0 aW)<|oc (g_al 1 aN)<|oc (g_sn 0 iW)<|oc (g_sn 1 iN)<|oc g_as on
 intro u3 b3_9 b3_10 HB3 sz3 K3
 simp only[sQ] at K3⊢
 clear K2 HB2
 go_upto_region 5 with fail
 refine Rp K3 HB3 [] [] [(0,52,NV r),(1,53,A4 (0) (0) (0) (0)),(2,54,.bool false)] [] [] [true,true,true,false] ?_ ?_
 ·exact oc (g_ld 3 uN iN)<|oc (g_bd zN)<|oc (g_bn (fun uZ=>neq_0 _ _ ir _ hr uZ)) on
 intro u4 HB4 sz4 K4
 simp only[sQ] at K4⊢
 clear K3 HB3
 go_upto_region 7 with fail
 refine Rp K4 HB4 [] [(5,8,L0w,some (6,LW s))] [(0,55,.pointer (some ⟨w.heap.size,4,none⟩)),(1,56,NV f),(2,57,.pointer (some ⟨w.heap.size,4,none⟩)),(3,58,NV f),(4,59,WV s)] [(6,5)] [] [] ?_ ?_
 ·exact oc (g_fd (fun uZ=>fdC1 _ uZ))<|oc (g_lo 0 4 uN iN)<|oc (g_fd (fun uZ=>fdC1 _ uZ))<|oc (g_lo 0 4 uN iN)<|oc (g_cl Zn (fun uZ=>hM.out uZ))<|oc (g_al 0 aW)<|oc (g_sn 0 iW) on
 intro u5 b5_5 HB5 sz5 K5
 simp only[sQ] at K5⊢
 clear K4 HB4
 go_upto_region 8 with fail
 refine Rp K5 HB5 [] [(9,9,L0s,some (10,LN s))] [(0,60,.pointer (some ⟨b5_5,0,none⟩)),(1,61,.int .u64 (D0 s)),(2,62,.pointer (some ⟨b5_5,1,none⟩)),(3,63,.int .u64 (D1 s)),(4,64,.pointer (some ⟨b5_5,2,none⟩)),(5,65,.int .u64 (D2 s)),(6,66,.pointer (some ⟨b5_5,3,none⟩)),(7,67,.int .u64 (D3 s)),(8,68,NV s)] [(10,9)] [] [true,true,true,true,false] ?_ ?_
 ·exact oc (g_ix (jW 0))<|oc (g_lc 3 0 lU)<|oc (g_ix (jW 1))<|oc (g_lc 3 1 lU)<|oc (g_ix (jW 2))<|oc (g_lc 3 2 lU)<|oc (g_ix (jW 3))<|oc (g_lc 3 3 lU)<|oc (g_bd (fun uZ=>bd4 _ _ _ _ uZ))<|oc (g_al 0 aN)<|oc (g_sn 0 iN) on
 intro u6 b6_9 HB6 sz6 K6
 simp only[sQ] at K6⊢
 clear K5 HB5
 go_upto_region 9 with fail
 refine Rp K6 HB6 [] [] [(0,69,.pointer (some ⟨b5_5,4,none⟩)),(1,70,.int .u64 (D0 (D4 s))),(2,71,.bool false),(3,72,.bool false),(4,73,.pointer (some ⟨b5_5,5,none⟩)),(5,74,.int .u64 (D1 (D4 s))),(6,75,.bool true),(7,76,.bool true),(8,77,.bool true),(9,78,undef),(10,79,undef),(11,80,undef),(12,81,(Go.Value.bool Bool.true)),(13,82,(Go.Value.bool Bool.true)),(14,83,undef),(15,84,undef),(16,85,undef),(17,86,(Go.Value.bool Bool.true)),(18,10,(Go.Value.bool Bool.true))] [] [] [true,true,true,false] ?_ ?_
 ·exact oc (g_ix (jW 4))<|oc (g_lc 3 4 lU)<|oc (g_bn (fun uZ=>Va _ _ (D0 (D4 s)) 0 _ uZ w0))<|oc g_mv<|oc (g_ix (jW 5))<|oc (g_lc 3 5 lU)<|oc (g_bn (fun uZ=>Va _ _ (D1 (D4 s)) 0 _ uZ w1))<|oc g_pk<|oc g_mv<|oc g_sk<|oc g_sk<|oc g_sk<|oc g_pk<|oc g_mv<|oc g_sk<|oc g_sk<|oc g_sk<|oc g_pk<|oc g_as on
 intro u7 HB7 sz7 K7
 simp only[sQ] at K7⊢
 clear K6 HB6
 go_upto_region 10 with fail
 refine Rn K7 HB7 [(0,87,(Go.Value.bool Bool.true)),(1,88,.bool false),(2,89,.bool false),(3,90,undef),(4,91,undef),(5,92,undef),(6,93,undef),(7,94,undef),(8,95,(Go.Value.bool Bool.false))] ?_ ?_
 ·exact oc g_mv<|oc (g_un (fun uZ=>rfl))<|oc g_mv<|oc g_sk<|oc g_sk<|oc g_sk<|oc g_sk<|oc g_sk<|oc g_pk on
 intro u8 HB8 sz8 K8
 simp only[sQ] at K8⊢
 clear K7 HB7
 go_upto_region 12 with fail
 refine Rp K8 HB8 [] [(9,11,L0s,some (10,LN P1))] [(0,97,.pointer (some ⟨w.heap.size,8,none⟩)),(1,98,NV a),(2,99,NV L),(3,100,.pointer (some ⟨w.heap.size,0,none⟩)),(4,101,NV n),(5,102,.tuple #[NV P1,.int .i64 0]),(6,96,.tuple #[NV P1,.int .i64 0]),(7,103,NV P1),(8,104,.int .i64 0),(11,12,.int .i64 0)] [(10,9)] [] [true,false] ?_ ?_
 ·exact oc (g_fd (fun uZ=>fdC2 _ uZ))<|oc (g_lo 0 8 uN iN)<|oc (g_ld 1 uN iN)<|oc (g_fd (fun uZ=>fdC0 _ uZ))<|oc (g_lo 0 0 uN iN)<|oc (g_cl Z9 (fun uZ=>hX.out uZ))<|oc g_mv<|oc g_ex<|oc g_ex<|oc (g_al 0 aN)<|oc (g_sn 0 iN)<|oc g_as on
 intro u9 b9_9 HB9 sz9 K9
 simp only[sQ] at K9⊢
 clear K8 HB8
 go_upto_region 13 with fail
 refine Rp K9 HB9 [] [(17,13,L0s,some (18,LN P2))] [(0,106,.pointer (some ⟨w.heap.size,8,none⟩)),(1,107,NV a),(2,108,.pointer (some ⟨b3_9,0,none⟩)),(3,109,.int .u64 (D0 q)),(4,110,.pointer (some ⟨b3_9,1,none⟩)),(5,111,.int .u64 (D1 q)),(6,112,.pointer (some ⟨b3_9,2,none⟩)),(7,113,.int .u64 (D2 q)),(8,114,.pointer (some ⟨b3_9,3,none⟩)),(9,115,.int .u64 (D3 q)),(10,116,NV q),(11,117,.pointer (some ⟨w.heap.size,0,none⟩)),(12,118,NV n),(13,119,.tuple #[NV P2,.int .i64 0]),(14,105,.tuple #[NV P2,.int .i64 0]),(15,120,NV P2),(16,121,.int .i64 0),(19,14,.int .i64 0)] [(18,17)] [] [true,false] ?_ ?_
 ·exact oc (g_fd (fun uZ=>fdC2 _ uZ))<|oc (g_lo 0 8 uN iN)<|oc (g_ix (jW 0))<|oc (g_lc 1 0 lU)<|oc (g_ix (jW 1))<|oc (g_lc 1 1 lU)<|oc (g_ix (jW 2))<|oc (g_lc 1 2 lU)<|oc (g_ix (jW 3))<|oc (g_lc 1 3 lU)<|oc (g_bd (fun uZ=>bd4 _ _ _ _ uZ))<|oc (g_fd (fun uZ=>fdC0 _ uZ))<|oc (g_lo 0 0 uN iN)<|oc (g_cl Z9 (fun uZ=>hY.out uZ))<|oc g_mv<|oc g_ex<|oc g_ex<|oc (g_al 0 aN)<|oc (g_sn 0 iN)<|oc g_as on
 intro u10 b10_17 HB10 sz10 K10
 simp only[sQ] at K10⊢
 clear K9 HB9
 go_upto_region 14 with fail
 refine Rp K10 HB10 [] [(8,15,L0s,some (9,LN S))] [(0,123,NV P2),(1,124,NV 1),(2,125,.pointer (some ⟨w.heap.size,0,none⟩)),(3,126,NV n),(4,127,.tuple #[NV S,.int .i64 0]),(5,122,.tuple #[NV S,.int .i64 0]),(6,128,NV S),(7,129,.int .i64 0),(10,16,.int .i64 0)] [(9,8)] [] [true,true,false] ?_ ?_
 ·exact oc (g_ld 2 uN iN)<|oc (g_bd (fun uZ=>bdX 1 (by omega) (by omega) uZ))<|oc (g_fd (fun uZ=>fdC0 _ uZ))<|oc (g_lo 0 0 uN iN)<|oc (g_cl Zv (fun uZ=>hZ.out uZ))<|oc g_mv<|oc g_ex<|oc g_ex<|oc (g_al 0 aN)<|oc (g_sn 0 iN)<|oc g_as on
 intro u11 b11_8 HB11 sz11 K11
 simp only[sQ] at K11⊢
 clear K10 HB10
 obtain⟨b1,e1⟩: ∃b,decide (P1=1)=b:=⟨_,rfl⟩
 obtain⟨b2,e2⟩: ∃b,decide (G=1)=b:=⟨_,rfl⟩
 have hE:(decide (P1=1)&&decide (G=1))=(b1&&b2):=by rw[e1,e2]
 cases b1
 ·skip
  go_upto_region 15 with fail
  refine Rp K11 HB11 [] [] [(0,130,NV P1),(1,131,NV 1),(2,132,.bool false),(3,133,.bool false),(4,134,undef),(5,135,undef),(6,136,undef),(7,137,undef),(8,138,undef),(9,139,undef),(10,140,(Go.Value.bool Bool.false)),(11,2,(Go.Value.bool Bool.false))] [] [] [false,false,false] ?_ ?_
  ·exact oc (g_ld 1 uN iN)<|oc (g_bd (fun uZ=>bdX 1 (by omega) (by omega) uZ))<|oc (g_bn (fun uZ=>W3 _ _ iP1 In_1 _ e1 uZ))<|oc g_mv<|oc g_sk<|oc g_sk<|oc g_sk<|oc g_sk<|oc g_sk<|oc g_sk<|oc g_pk<|oc g_as on
  intro u12 HB12 sz12 K12
  simp only[sQ] at K12⊢
  clear K11 HB11
  go_wp2
  refine bodyPost_ret (v:= .bool false) (by simp[results,Tryz.results39,go_sem,]) rfl ⟨by rw[hE];rfl,HB12⟩
 ·skip
  go_upto_region 15 with fail
  refine Rp K11 HB11 [] [] [(0,130,NV P1),(1,131,NV 1),(2,132,.bool true),(3,133,.bool true),(4,134,NV S),(5,135,.pointer (some ⟨w.heap.size,0,none⟩)),(6,136,NV n),(7,137,NV G),(8,138,NV 1),(9,139,.bool b2),(10,140,.bool b2),(11,2,.bool b2)] [] [] [false,false,false] ?_ ?_
  ·exact oc (g_ld 1 uN iN)<|oc (g_bd (fun uZ=>bdX 1 (by omega) (by omega) uZ))<|oc (g_bn (fun uZ=>W3 _ _ iP1 In_1 _ e1 uZ))<|oc g_mv<|oc (g_ld 2 uN iN)<|oc (g_fd (fun uZ=>fdC0 _ uZ))<|oc (g_lo 0 0 uN iN)<|oc (g_cl Zw (fun uZ=>hG.out uZ))<|oc (g_bd (fun uZ=>bdX 1 (by omega) (by omega) uZ))<|oc (g_bn (fun uZ=>W3 _ _ iG In_1 _ e2 uZ))<|oc g_pk<|oc g_as on
  intro u12 HB12 sz12 K12
  simp only[sQ] at K12⊢
  clear K11 HB11
  go_wp2
  refine bodyPost_ret (v:= .bool b2) (by simp[results,Tryz.results39,go_sem,]) rfl ⟨by rw[hE];rfl,HB12⟩
theorem xstep_w2(n f a L q r s P1 P2 S G:Int)(w:World)(hn:In n)(hf:In f)(bo:Bool)(h1:(D0 n%2==0)=false)(h2:decide (cmpI n 3<0)=false)(h3:decide (cmpI f 2<0)=false)(hS:Hid (∀u,CC 17 #[NV n,NV 1] u (.tuple #[NV L,.bool bo])))(hD:Hid (∀u,CC 60 #[WV L,NV f] u (.tuple #[WV q,NV r,.int .i64 0])))(hL:In L)(ir:In r)(hr:decide (r=0)=!false)(hM:Hid (∀u,CC 55 #[NV f,NV f] u (WV s)))(w0:decide (0<D0 (D4 s))=false)(w1:decide (0<D1 (D4 s))=false)(w2:decide (0<D2 (D4 s))=true)(iP1:In P1)(iG:In G)(hX:Hid (∀u,CC 40 #[NV a,NV L,NV n] u (.tuple #[NV P1,.int .i64 0])))(hY:Hid (∀u,CC 40 #[NV a,NV q,NV n] u (.tuple #[NV P2,.int .i64 0])))(hZ:Hid (∀u,CC 62 #[NV P2,NV 1,NV n] u (.tuple #[NV S,.int .i64 0])))(hG:Hid (∀u,CC 63 #[NV S,NV n] u (NV G))):
 CC 39 #[CX n f a] w (.bool (decide (P1=1)&&decide (G=1))):=by
 have d0:0<=D0 n:=by unfold D0;omega
 have d1:D0 n<18446744073709551616:=by unfold D0;omega
 go_enter Tryz.func39,Tryz.ntmps39
 go_upto_region 1 with fail
 obtain⟨v0,hC,HB0,K0⟩:=bx1 w (CE n f a) 48
 rw[hC]
 clear hC
 refine Rn K0 HB0 [(0,17,.pointer (some ⟨w.heap.size,0,none⟩)),(1,18,.pointer (some ⟨w.heap.size,0,none⟩)),(2,19,.int .u64 (D0 n)),(3,20,.int .u64 (D0 n%2)),(4,21,.bool false),(5,22,.bool false),(6,23,.pointer (some ⟨w.heap.size,0,none⟩)),(7,24,NV n),(8,25,NV 3),(9,26,.int .i64 (cmpI n 3)),(10,27,.bool false),(11,28,.bool false),(12,29,.bool false),(13,30,.pointer (some ⟨w.heap.size,4,none⟩)),(14,31,NV f),(15,32,NV 2),(16,33,.int .i64 (cmpI f 2)),(17,34,.bool false),(18,35,.bool false)] ?_ ?_
 ·exact oc (g_fd (fun uZ=>fdC0 _ uZ))<|oc (g_ix (jN 0))<|oc (g_lc 0 0 lU)<|oc (g_bn (fun uZ=>Uu _ _ (D0 n) 2 (D0 n%2) uZ d0 d1 (by omega) rfl))<|oc (g_bn (fun uZ=>Vg _ _ _ (D0 n%2) 0 _ uZ h1))<|oc g_mv<|oc (g_fd (fun uZ=>fdC0 _ uZ))<|oc (g_lo 0 0 uN iN)<|oc (g_bd (fun uZ=>bdX 3 (by omega) (by omega) uZ))<|oc (g_cl Z0 (fun uZ=>Zk n 3 uZ hn In_3))<|oc (g_bn (fun uZ=>Zg _ _ (cmpI n 3) 0 _ uZ h2))<|oc g_pk<|oc g_mv<|oc (g_fd (fun uZ=>fdC1 _ uZ))<|oc (g_lo 0 4 uN iN)<|oc (g_bd (fun uZ=>bdX 2 (by omega) (by omega) uZ))<|oc (g_cl Z0 (fun uZ=>Zk f 2 uZ hf In_2))<|oc (g_bn (fun uZ=>Zg _ _ (cmpI f 2) 0 _ uZ h3))<|oc g_pk on
 intro u1 HB1 sz1 K1
 simp only[sQ] at K1⊢
 clear K0 HB0
 go_upto_region 3 with fail
 refine Rp K1 HB1 [] [(7,3,L0s,some (8,LN L))] [(0,37,.pointer (some ⟨w.heap.size,0,none⟩)),(1,38,NV n),(2,39,NV 1),(3,40,.tuple #[NV L,.bool bo]),(4,36,.tuple #[NV L,.bool bo]),(5,41,NV L),(6,42,.bool bo),(9,4,.bool bo)] [(8,7)] [] [] ?_ ?_
 ·exact oc (g_fd (fun uZ=>fdC0 _ uZ))<|oc (g_lo 0 0 uN iN)<|oc (g_bd (fun uZ=>bdX 1 (by omega) (by omega) uZ))<|oc (g_cl Z6 (fun uZ=>hS.out uZ))<|oc g_mv<|oc g_ex<|oc g_ex<|oc (g_al 0 aN)<|oc (g_sn 0 iN)<|oc g_as on
 intro u2 b2_7 HB2 sz2 K2
 simp only[sQ] at K2⊢
 clear K1 HB1
 go_upto_region 4 with fail
 refine Rd K2 HB2 [] [(9,5,L0w,some (11,LW q)),(10,6,L0s,some (12,LN r))] [(0,44,NV L),(1,45,WV L),(2,46,.pointer (some ⟨w.heap.size,4,none⟩)),(3,47,NV f),(4,48,.tuple #[WV q,NV r,.int .i64 0]),(5,43,.tuple #[WV q,NV r,.int .i64 0]),(6,49,WV q),(7,50,NV r),(8,51,.int .i64 0),(13,7,.int .i64 0)] [(11,9),(12,10)] [] [] ?_ ?_
 ·exact oc (g_ld 1 uN iN)<|oc (g_cl Z8 (fun uZ=>We L uZ hL))<|oc (g_fd (fun uZ=>fdC1 _ uZ))<|oc (g_lo 0 4 uN iN)<|oc (g_cl Zf (fun uZ=>hD.out uZ))<|oc g_mv<|oc g_ex<|oc g_ex<|oc g_ex<|oc (g_al 0 aW)<|oc (g_al 1 aN)<|oc (g_sn 0 iW)<|oc (g_sn 1 iN)<|oc g_as on
 intro u3 b3_9 b3_10 HB3 sz3 K3
 simp only[sQ] at K3⊢
 clear K2 HB2
 go_upto_region 5 with fail
 refine Rp K3 HB3 [] [] [(0,52,NV r),(1,53,A4 (0) (0) (0) (0)),(2,54,.bool false)] [] [] [true,true,true,false] ?_ ?_
 ·exact oc (g_ld 3 uN iN)<|oc (g_bd zN)<|oc (g_bn (fun uZ=>neq_0 _ _ ir _ hr uZ)) on
 intro u4 HB4 sz4 K4
 simp only[sQ] at K4⊢
 clear K3 HB3
 go_upto_region 7 with fail
 refine Rp K4 HB4 [] [(5,8,L0w,some (6,LW s))] [(0,55,.pointer (some ⟨w.heap.size,4,none⟩)),(1,56,NV f),(2,57,.pointer (some ⟨w.heap.size,4,none⟩)),(3,58,NV f),(4,59,WV s)] [(6,5)] [] [] ?_ ?_
 ·exact oc (g_fd (fun uZ=>fdC1 _ uZ))<|oc (g_lo 0 4 uN iN)<|oc (g_fd (fun uZ=>fdC1 _ uZ))<|oc (g_lo 0 4 uN iN)<|oc (g_cl Zn (fun uZ=>hM.out uZ))<|oc (g_al 0 aW)<|oc (g_sn 0 iW) on
 intro u5 b5_5 HB5 sz5 K5
 simp only[sQ] at K5⊢
 clear K4 HB4
 go_upto_region 8 with fail
 refine Rp K5 HB5 [] [(9,9,L0s,some (10,LN s))] [(0,60,.pointer (some ⟨b5_5,0,none⟩)),(1,61,.int .u64 (D0 s)),(2,62,.pointer (some ⟨b5_5,1,none⟩)),(3,63,.int .u64 (D1 s)),(4,64,.pointer (some ⟨b5_5,2,none⟩)),(5,65,.int .u64 (D2 s)),(6,66,.pointer (some ⟨b5_5,3,none⟩)),(7,67,.int .u64 (D3 s)),(8,68,NV s)] [(10,9)] [] [true,true,true,true,false] ?_ ?_
 ·exact oc (g_ix (jW 0))<|oc (g_lc 3 0 lU)<|oc (g_ix (jW 1))<|oc (g_lc 3 1 lU)<|oc (g_ix (jW 2))<|oc (g_lc 3 2 lU)<|oc (g_ix (jW 3))<|oc (g_lc 3 3 lU)<|oc (g_bd (fun uZ=>bd4 _ _ _ _ uZ))<|oc (g_al 0 aN)<|oc (g_sn 0 iN) on
 intro u6 b6_9 HB6 sz6 K6
 simp only[sQ] at K6⊢
 clear K5 HB5
 go_upto_region 9 with fail
 refine Rp K6 HB6 [] [] [(0,69,.pointer (some ⟨b5_5,4,none⟩)),(1,70,.int .u64 (D0 (D4 s))),(2,71,.bool false),(3,72,.bool false),(4,73,.pointer (some ⟨b5_5,5,none⟩)),(5,74,.int .u64 (D1 (D4 s))),(6,75,.bool false),(7,76,.bool false),(8,77,.bool false),(9,78,.pointer (some ⟨b5_5,6,none⟩)),(10,79,.int .u64 (D2 (D4 s))),(11,80,.bool true),(12,81,.bool true),(13,82,.bool true),(14,83,undef),(15,84,undef),(16,85,undef),(17,86,(Go.Value.bool Bool.true)),(18,10,(Go.Value.bool Bool.true))] [] [] [true,true,true,false] ?_ ?_
 ·exact oc (g_ix (jW 4))<|oc (g_lc 3 4 lU)<|oc (g_bn (fun uZ=>Va _ _ (D0 (D4 s)) 0 _ uZ w0))<|oc g_mv<|oc (g_ix (jW 5))<|oc (g_lc 3 5 lU)<|oc (g_bn (fun uZ=>Va _ _ (D1 (D4 s)) 0 _ uZ w1))<|oc g_pk<|oc g_mv<|oc (g_ix (jW 6))<|oc (g_lc 3 6 lU)<|oc (g_bn (fun uZ=>Va _ _ (D2 (D4 s)) 0 _ uZ w2))<|oc g_pk<|oc g_mv<|oc g_sk<|oc g_sk<|oc g_sk<|oc g_pk<|oc g_as on
 intro u7 HB7 sz7 K7
 simp only[sQ] at K7⊢
 clear K6 HB6
 go_upto_region 10 with fail
 refine Rn K7 HB7 [(0,87,(Go.Value.bool Bool.true)),(1,88,.bool false),(2,89,.bool false),(3,90,undef),(4,91,undef),(5,92,undef),(6,93,undef),(7,94,undef),(8,95,(Go.Value.bool Bool.false))] ?_ ?_
 ·exact oc g_mv<|oc (g_un (fun uZ=>rfl))<|oc g_mv<|oc g_sk<|oc g_sk<|oc g_sk<|oc g_sk<|oc g_sk<|oc g_pk on
 intro u8 HB8 sz8 K8
 simp only[sQ] at K8⊢
 clear K7 HB7
 go_upto_region 12 with fail
 refine Rp K8 HB8 [] [(9,11,L0s,some (10,LN P1))] [(0,97,.pointer (some ⟨w.heap.size,8,none⟩)),(1,98,NV a),(2,99,NV L),(3,100,.pointer (some ⟨w.heap.size,0,none⟩)),(4,101,NV n),(5,102,.tuple #[NV P1,.int .i64 0]),(6,96,.tuple #[NV P1,.int .i64 0]),(7,103,NV P1),(8,104,.int .i64 0),(11,12,.int .i64 0)] [(10,9)] [] [true,false] ?_ ?_
 ·exact oc (g_fd (fun uZ=>fdC2 _ uZ))<|oc (g_lo 0 8 uN iN)<|oc (g_ld 1 uN iN)<|oc (g_fd (fun uZ=>fdC0 _ uZ))<|oc (g_lo 0 0 uN iN)<|oc (g_cl Z9 (fun uZ=>hX.out uZ))<|oc g_mv<|oc g_ex<|oc g_ex<|oc (g_al 0 aN)<|oc (g_sn 0 iN)<|oc g_as on
 intro u9 b9_9 HB9 sz9 K9
 simp only[sQ] at K9⊢
 clear K8 HB8
 go_upto_region 13 with fail
 refine Rp K9 HB9 [] [(17,13,L0s,some (18,LN P2))] [(0,106,.pointer (some ⟨w.heap.size,8,none⟩)),(1,107,NV a),(2,108,.pointer (some ⟨b3_9,0,none⟩)),(3,109,.int .u64 (D0 q)),(4,110,.pointer (some ⟨b3_9,1,none⟩)),(5,111,.int .u64 (D1 q)),(6,112,.pointer (some ⟨b3_9,2,none⟩)),(7,113,.int .u64 (D2 q)),(8,114,.pointer (some ⟨b3_9,3,none⟩)),(9,115,.int .u64 (D3 q)),(10,116,NV q),(11,117,.pointer (some ⟨w.heap.size,0,none⟩)),(12,118,NV n),(13,119,.tuple #[NV P2,.int .i64 0]),(14,105,.tuple #[NV P2,.int .i64 0]),(15,120,NV P2),(16,121,.int .i64 0),(19,14,.int .i64 0)] [(18,17)] [] [true,false] ?_ ?_
 ·exact oc (g_fd (fun uZ=>fdC2 _ uZ))<|oc (g_lo 0 8 uN iN)<|oc (g_ix (jW 0))<|oc (g_lc 1 0 lU)<|oc (g_ix (jW 1))<|oc (g_lc 1 1 lU)<|oc (g_ix (jW 2))<|oc (g_lc 1 2 lU)<|oc (g_ix (jW 3))<|oc (g_lc 1 3 lU)<|oc (g_bd (fun uZ=>bd4 _ _ _ _ uZ))<|oc (g_fd (fun uZ=>fdC0 _ uZ))<|oc (g_lo 0 0 uN iN)<|oc (g_cl Z9 (fun uZ=>hY.out uZ))<|oc g_mv<|oc g_ex<|oc g_ex<|oc (g_al 0 aN)<|oc (g_sn 0 iN)<|oc g_as on
 intro u10 b10_17 HB10 sz10 K10
 simp only[sQ] at K10⊢
 clear K9 HB9
 go_upto_region 14 with fail
 refine Rp K10 HB10 [] [(8,15,L0s,some (9,LN S))] [(0,123,NV P2),(1,124,NV 1),(2,125,.pointer (some ⟨w.heap.size,0,none⟩)),(3,126,NV n),(4,127,.tuple #[NV S,.int .i64 0]),(5,122,.tuple #[NV S,.int .i64 0]),(6,128,NV S),(7,129,.int .i64 0),(10,16,.int .i64 0)] [(9,8)] [] [true,true,false] ?_ ?_
 ·exact oc (g_ld 2 uN iN)<|oc (g_bd (fun uZ=>bdX 1 (by omega) (by omega) uZ))<|oc (g_fd (fun uZ=>fdC0 _ uZ))<|oc (g_lo 0 0 uN iN)<|oc (g_cl Zv (fun uZ=>hZ.out uZ))<|oc g_mv<|oc g_ex<|oc g_ex<|oc (g_al 0 aN)<|oc (g_sn 0 iN)<|oc g_as on
 intro u11 b11_8 HB11 sz11 K11
 simp only[sQ] at K11⊢
 clear K10 HB10
 obtain⟨b1,e1⟩: ∃b,decide (P1=1)=b:=⟨_,rfl⟩
 obtain⟨b2,e2⟩: ∃b,decide (G=1)=b:=⟨_,rfl⟩
 have hE:(decide (P1=1)&&decide (G=1))=(b1&&b2):=by rw[e1,e2]
 cases b1
 ·skip
  go_upto_region 15 with fail
  refine Rp K11 HB11 [] [] [(0,130,NV P1),(1,131,NV 1),(2,132,.bool false),(3,133,.bool false),(4,134,undef),(5,135,undef),(6,136,undef),(7,137,undef),(8,138,undef),(9,139,undef),(10,140,(Go.Value.bool Bool.false)),(11,2,(Go.Value.bool Bool.false))] [] [] [false,false,false] ?_ ?_
  ·exact oc (g_ld 1 uN iN)<|oc (g_bd (fun uZ=>bdX 1 (by omega) (by omega) uZ))<|oc (g_bn (fun uZ=>W3 _ _ iP1 In_1 _ e1 uZ))<|oc g_mv<|oc g_sk<|oc g_sk<|oc g_sk<|oc g_sk<|oc g_sk<|oc g_sk<|oc g_pk<|oc g_as on
  intro u12 HB12 sz12 K12
  simp only[sQ] at K12⊢
  clear K11 HB11
  go_wp2
  refine bodyPost_ret (v:= .bool false) (by simp[results,Tryz.results39,go_sem,]) rfl ⟨by rw[hE];rfl,HB12⟩
 ·skip
  go_upto_region 15 with fail
  refine Rp K11 HB11 [] [] [(0,130,NV P1),(1,131,NV 1),(2,132,.bool true),(3,133,.bool true),(4,134,NV S),(5,135,.pointer (some ⟨w.heap.size,0,none⟩)),(6,136,NV n),(7,137,NV G),(8,138,NV 1),(9,139,.bool b2),(10,140,.bool b2),(11,2,.bool b2)] [] [] [false,false,false] ?_ ?_
  ·exact oc (g_ld 1 uN iN)<|oc (g_bd (fun uZ=>bdX 1 (by omega) (by omega) uZ))<|oc (g_bn (fun uZ=>W3 _ _ iP1 In_1 _ e1 uZ))<|oc g_mv<|oc (g_ld 2 uN iN)<|oc (g_fd (fun uZ=>fdC0 _ uZ))<|oc (g_lo 0 0 uN iN)<|oc (g_cl Zw (fun uZ=>hG.out uZ))<|oc (g_bd (fun uZ=>bdX 1 (by omega) (by omega) uZ))<|oc (g_bn (fun uZ=>W3 _ _ iG In_1 _ e2 uZ))<|oc g_pk<|oc g_as on
  intro u12 HB12 sz12 K12
  simp only[sQ] at K12⊢
  clear K11 HB11
  go_wp2
  refine bodyPost_ret (v:= .bool b2) (by simp[results,Tryz.results39,go_sem,]) rfl ⟨by rw[hE];rfl,HB12⟩
theorem xstep_w3(n f a L q r s P1 P2 S G:Int)(w:World)(hn:In n)(hf:In f)(bo:Bool)(h1:(D0 n%2==0)=false)(h2:decide (cmpI n 3<0)=false)(h3:decide (cmpI f 2<0)=false)(hS:Hid (∀u,CC 17 #[NV n,NV 1] u (.tuple #[NV L,.bool bo])))(hD:Hid (∀u,CC 60 #[WV L,NV f] u (.tuple #[WV q,NV r,.int .i64 0])))(hL:In L)(ir:In r)(hr:decide (r=0)=!false)(hM:Hid (∀u,CC 55 #[NV f,NV f] u (WV s)))(w0:decide (0<D0 (D4 s))=false)(w1:decide (0<D1 (D4 s))=false)(w2:decide (0<D2 (D4 s))=false)(w3:decide (0<D3 (D4 s))=true)(iP1:In P1)(iG:In G)(hX:Hid (∀u,CC 40 #[NV a,NV L,NV n] u (.tuple #[NV P1,.int .i64 0])))(hY:Hid (∀u,CC 40 #[NV a,NV q,NV n] u (.tuple #[NV P2,.int .i64 0])))(hZ:Hid (∀u,CC 62 #[NV P2,NV 1,NV n] u (.tuple #[NV S,.int .i64 0])))(hG:Hid (∀u,CC 63 #[NV S,NV n] u (NV G))):
 CC 39 #[CX n f a] w (.bool (decide (P1=1)&&decide (G=1))):=by
 have d0:0<=D0 n:=by unfold D0;omega
 have d1:D0 n<18446744073709551616:=by unfold D0;omega
 go_enter Tryz.func39,Tryz.ntmps39
 go_upto_region 1 with fail
 obtain⟨v0,hC,HB0,K0⟩:=bx1 w (CE n f a) 48
 rw[hC]
 clear hC
 refine Rn K0 HB0 [(0,17,.pointer (some ⟨w.heap.size,0,none⟩)),(1,18,.pointer (some ⟨w.heap.size,0,none⟩)),(2,19,.int .u64 (D0 n)),(3,20,.int .u64 (D0 n%2)),(4,21,.bool false),(5,22,.bool false),(6,23,.pointer (some ⟨w.heap.size,0,none⟩)),(7,24,NV n),(8,25,NV 3),(9,26,.int .i64 (cmpI n 3)),(10,27,.bool false),(11,28,.bool false),(12,29,.bool false),(13,30,.pointer (some ⟨w.heap.size,4,none⟩)),(14,31,NV f),(15,32,NV 2),(16,33,.int .i64 (cmpI f 2)),(17,34,.bool false),(18,35,.bool false)] ?_ ?_
 ·exact oc (g_fd (fun uZ=>fdC0 _ uZ))<|oc (g_ix (jN 0))<|oc (g_lc 0 0 lU)<|oc (g_bn (fun uZ=>Uu _ _ (D0 n) 2 (D0 n%2) uZ d0 d1 (by omega) rfl))<|oc (g_bn (fun uZ=>Vg _ _ _ (D0 n%2) 0 _ uZ h1))<|oc g_mv<|oc (g_fd (fun uZ=>fdC0 _ uZ))<|oc (g_lo 0 0 uN iN)<|oc (g_bd (fun uZ=>bdX 3 (by omega) (by omega) uZ))<|oc (g_cl Z0 (fun uZ=>Zk n 3 uZ hn In_3))<|oc (g_bn (fun uZ=>Zg _ _ (cmpI n 3) 0 _ uZ h2))<|oc g_pk<|oc g_mv<|oc (g_fd (fun uZ=>fdC1 _ uZ))<|oc (g_lo 0 4 uN iN)<|oc (g_bd (fun uZ=>bdX 2 (by omega) (by omega) uZ))<|oc (g_cl Z0 (fun uZ=>Zk f 2 uZ hf In_2))<|oc (g_bn (fun uZ=>Zg _ _ (cmpI f 2) 0 _ uZ h3))<|oc g_pk on
 intro u1 HB1 sz1 K1
 simp only[sQ] at K1⊢
 clear K0 HB0
 go_upto_region 3 with fail
 refine Rp K1 HB1 [] [(7,3,L0s,some (8,LN L))] [(0,37,.pointer (some ⟨w.heap.size,0,none⟩)),(1,38,NV n),(2,39,NV 1),(3,40,.tuple #[NV L,.bool bo]),(4,36,.tuple #[NV L,.bool bo]),(5,41,NV L),(6,42,.bool bo),(9,4,.bool bo)] [(8,7)] [] [] ?_ ?_
 ·exact oc (g_fd (fun uZ=>fdC0 _ uZ))<|oc (g_lo 0 0 uN iN)<|oc (g_bd (fun uZ=>bdX 1 (by omega) (by omega) uZ))<|oc (g_cl Z6 (fun uZ=>hS.out uZ))<|oc g_mv<|oc g_ex<|oc g_ex<|oc (g_al 0 aN)<|oc (g_sn 0 iN)<|oc g_as on
 intro u2 b2_7 HB2 sz2 K2
 simp only[sQ] at K2⊢
 clear K1 HB1
 go_upto_region 4 with fail
 refine Rd K2 HB2 [] [(9,5,L0w,some (11,LW q)),(10,6,L0s,some (12,LN r))] [(0,44,NV L),(1,45,WV L),(2,46,.pointer (some ⟨w.heap.size,4,none⟩)),(3,47,NV f),(4,48,.tuple #[WV q,NV r,.int .i64 0]),(5,43,.tuple #[WV q,NV r,.int .i64 0]),(6,49,WV q),(7,50,NV r),(8,51,.int .i64 0),(13,7,.int .i64 0)] [(11,9),(12,10)] [] [] ?_ ?_
 ·exact oc (g_ld 1 uN iN)<|oc (g_cl Z8 (fun uZ=>We L uZ hL))<|oc (g_fd (fun uZ=>fdC1 _ uZ))<|oc (g_lo 0 4 uN iN)<|oc (g_cl Zf (fun uZ=>hD.out uZ))<|oc g_mv<|oc g_ex<|oc g_ex<|oc g_ex<|oc (g_al 0 aW)<|oc (g_al 1 aN)<|oc (g_sn 0 iW)<|oc (g_sn 1 iN)<|oc g_as on
 intro u3 b3_9 b3_10 HB3 sz3 K3
 simp only[sQ] at K3⊢
 clear K2 HB2
 go_upto_region 5 with fail
 refine Rp K3 HB3 [] [] [(0,52,NV r),(1,53,A4 (0) (0) (0) (0)),(2,54,.bool false)] [] [] [true,true,true,false] ?_ ?_
 ·exact oc (g_ld 3 uN iN)<|oc (g_bd zN)<|oc (g_bn (fun uZ=>neq_0 _ _ ir _ hr uZ)) on
 intro u4 HB4 sz4 K4
 simp only[sQ] at K4⊢
 clear K3 HB3
 go_upto_region 7 with fail
 refine Rp K4 HB4 [] [(5,8,L0w,some (6,LW s))] [(0,55,.pointer (some ⟨w.heap.size,4,none⟩)),(1,56,NV f),(2,57,.pointer (some ⟨w.heap.size,4,none⟩)),(3,58,NV f),(4,59,WV s)] [(6,5)] [] [] ?_ ?_
 ·exact oc (g_fd (fun uZ=>fdC1 _ uZ))<|oc (g_lo 0 4 uN iN)<|oc (g_fd (fun uZ=>fdC1 _ uZ))<|oc (g_lo 0 4 uN iN)<|oc (g_cl Zn (fun uZ=>hM.out uZ))<|oc (g_al 0 aW)<|oc (g_sn 0 iW) on
 intro u5 b5_5 HB5 sz5 K5
 simp only[sQ] at K5⊢
 clear K4 HB4
 go_upto_region 8 with fail
 refine Rp K5 HB5 [] [(9,9,L0s,some (10,LN s))] [(0,60,.pointer (some ⟨b5_5,0,none⟩)),(1,61,.int .u64 (D0 s)),(2,62,.pointer (some ⟨b5_5,1,none⟩)),(3,63,.int .u64 (D1 s)),(4,64,.pointer (some ⟨b5_5,2,none⟩)),(5,65,.int .u64 (D2 s)),(6,66,.pointer (some ⟨b5_5,3,none⟩)),(7,67,.int .u64 (D3 s)),(8,68,NV s)] [(10,9)] [] [true,true,true,true,false] ?_ ?_
 ·exact oc (g_ix (jW 0))<|oc (g_lc 3 0 lU)<|oc (g_ix (jW 1))<|oc (g_lc 3 1 lU)<|oc (g_ix (jW 2))<|oc (g_lc 3 2 lU)<|oc (g_ix (jW 3))<|oc (g_lc 3 3 lU)<|oc (g_bd (fun uZ=>bd4 _ _ _ _ uZ))<|oc (g_al 0 aN)<|oc (g_sn 0 iN) on
 intro u6 b6_9 HB6 sz6 K6
 simp only[sQ] at K6⊢
 clear K5 HB5
 go_upto_region 9 with fail
 refine Rp K6 HB6 [] [] [(0,69,.pointer (some ⟨b5_5,4,none⟩)),(1,70,.int .u64 (D0 (D4 s))),(2,71,.bool false),(3,72,.bool false),(4,73,.pointer (some ⟨b5_5,5,none⟩)),(5,74,.int .u64 (D1 (D4 s))),(6,75,.bool false),(7,76,.bool false),(8,77,.bool false),(9,78,.pointer (some ⟨b5_5,6,none⟩)),(10,79,.int .u64 (D2 (D4 s))),(11,80,.bool false),(12,81,.bool false),(13,82,.bool false),(14,83,.pointer (some ⟨b5_5,7,none⟩)),(15,84,.int .u64 (D3 (D4 s))),(16,85,.bool true),(17,86,.bool true),(18,10,.bool true)] [] [] [true,true,true,false] ?_ ?_
 ·exact oc (g_ix (jW 4))<|oc (g_lc 3 4 lU)<|oc (g_bn (fun uZ=>Va _ _ (D0 (D4 s)) 0 _ uZ w0))<|oc g_mv<|oc (g_ix (jW 5))<|oc (g_lc 3 5 lU)<|oc (g_bn (fun uZ=>Va _ _ (D1 (D4 s)) 0 _ uZ w1))<|oc g_pk<|oc g_mv<|oc (g_ix (jW 6))<|oc (g_lc 3 6 lU)<|oc (g_bn (fun uZ=>Va _ _ (D2 (D4 s)) 0 _ uZ w2))<|oc g_pk<|oc g_mv<|oc (g_ix (jW 7))<|oc (g_lc 3 7 lU)<|oc (g_bn (fun uZ=>Va _ _ (D3 (D4 s)) 0 _ uZ w3))<|oc g_pk<|oc g_as on
 intro u7 HB7 sz7 K7
 simp only[sQ] at K7⊢
 clear K6 HB6
 go_upto_region 10 with fail
 refine Rn K7 HB7 [(0,87,.bool true),(1,88,.bool false),(2,89,.bool false),(3,90,undef),(4,91,undef),(5,92,undef),(6,93,undef),(7,94,undef),(8,95,(Go.Value.bool Bool.false))] ?_ ?_
 ·exact oc g_mv<|oc (g_un (fun uZ=>rfl))<|oc g_mv<|oc g_sk<|oc g_sk<|oc g_sk<|oc g_sk<|oc g_sk<|oc g_pk on
 intro u8 HB8 sz8 K8
 simp only[sQ] at K8⊢
 clear K7 HB7
 go_upto_region 12 with fail
 refine Rp K8 HB8 [] [(9,11,L0s,some (10,LN P1))] [(0,97,.pointer (some ⟨w.heap.size,8,none⟩)),(1,98,NV a),(2,99,NV L),(3,100,.pointer (some ⟨w.heap.size,0,none⟩)),(4,101,NV n),(5,102,.tuple #[NV P1,.int .i64 0]),(6,96,.tuple #[NV P1,.int .i64 0]),(7,103,NV P1),(8,104,.int .i64 0),(11,12,.int .i64 0)] [(10,9)] [] [true,false] ?_ ?_
 ·exact oc (g_fd (fun uZ=>fdC2 _ uZ))<|oc (g_lo 0 8 uN iN)<|oc (g_ld 1 uN iN)<|oc (g_fd (fun uZ=>fdC0 _ uZ))<|oc (g_lo 0 0 uN iN)<|oc (g_cl Z9 (fun uZ=>hX.out uZ))<|oc g_mv<|oc g_ex<|oc g_ex<|oc (g_al 0 aN)<|oc (g_sn 0 iN)<|oc g_as on
 intro u9 b9_9 HB9 sz9 K9
 simp only[sQ] at K9⊢
 clear K8 HB8
 go_upto_region 13 with fail
 refine Rp K9 HB9 [] [(17,13,L0s,some (18,LN P2))] [(0,106,.pointer (some ⟨w.heap.size,8,none⟩)),(1,107,NV a),(2,108,.pointer (some ⟨b3_9,0,none⟩)),(3,109,.int .u64 (D0 q)),(4,110,.pointer (some ⟨b3_9,1,none⟩)),(5,111,.int .u64 (D1 q)),(6,112,.pointer (some ⟨b3_9,2,none⟩)),(7,113,.int .u64 (D2 q)),(8,114,.pointer (some ⟨b3_9,3,none⟩)),(9,115,.int .u64 (D3 q)),(10,116,NV q),(11,117,.pointer (some ⟨w.heap.size,0,none⟩)),(12,118,NV n),(13,119,.tuple #[NV P2,.int .i64 0]),(14,105,.tuple #[NV P2,.int .i64 0]),(15,120,NV P2),(16,121,.int .i64 0),(19,14,.int .i64 0)] [(18,17)] [] [true,false] ?_ ?_
 ·exact oc (g_fd (fun uZ=>fdC2 _ uZ))<|oc (g_lo 0 8 uN iN)<|oc (g_ix (jW 0))<|oc (g_lc 1 0 lU)<|oc (g_ix (jW 1))<|oc (g_lc 1 1 lU)<|oc (g_ix (jW 2))<|oc (g_lc 1 2 lU)<|oc (g_ix (jW 3))<|oc (g_lc 1 3 lU)<|oc (g_bd (fun uZ=>bd4 _ _ _ _ uZ))<|oc (g_fd (fun uZ=>fdC0 _ uZ))<|oc (g_lo 0 0 uN iN)<|oc (g_cl Z9 (fun uZ=>hY.out uZ))<|oc g_mv<|oc g_ex<|oc g_ex<|oc (g_al 0 aN)<|oc (g_sn 0 iN)<|oc g_as on
 intro u10 b10_17 HB10 sz10 K10
 simp only[sQ] at K10⊢
 clear K9 HB9
 go_upto_region 14 with fail
 refine Rp K10 HB10 [] [(8,15,L0s,some (9,LN S))] [(0,123,NV P2),(1,124,NV 1),(2,125,.pointer (some ⟨w.heap.size,0,none⟩)),(3,126,NV n),(4,127,.tuple #[NV S,.int .i64 0]),(5,122,.tuple #[NV S,.int .i64 0]),(6,128,NV S),(7,129,.int .i64 0),(10,16,.int .i64 0)] [(9,8)] [] [true,true,false] ?_ ?_
 ·exact oc (g_ld 2 uN iN)<|oc (g_bd (fun uZ=>bdX 1 (by omega) (by omega) uZ))<|oc (g_fd (fun uZ=>fdC0 _ uZ))<|oc (g_lo 0 0 uN iN)<|oc (g_cl Zv (fun uZ=>hZ.out uZ))<|oc g_mv<|oc g_ex<|oc g_ex<|oc (g_al 0 aN)<|oc (g_sn 0 iN)<|oc g_as on
 intro u11 b11_8 HB11 sz11 K11
 simp only[sQ] at K11⊢
 clear K10 HB10
 obtain⟨b1,e1⟩: ∃b,decide (P1=1)=b:=⟨_,rfl⟩
 obtain⟨b2,e2⟩: ∃b,decide (G=1)=b:=⟨_,rfl⟩
 have hE:(decide (P1=1)&&decide (G=1))=(b1&&b2):=by rw[e1,e2]
 cases b1
 ·skip
  go_upto_region 15 with fail
  refine Rp K11 HB11 [] [] [(0,130,NV P1),(1,131,NV 1),(2,132,.bool false),(3,133,.bool false),(4,134,undef),(5,135,undef),(6,136,undef),(7,137,undef),(8,138,undef),(9,139,undef),(10,140,(Go.Value.bool Bool.false)),(11,2,(Go.Value.bool Bool.false))] [] [] [false,false,false] ?_ ?_
  ·exact oc (g_ld 1 uN iN)<|oc (g_bd (fun uZ=>bdX 1 (by omega) (by omega) uZ))<|oc (g_bn (fun uZ=>W3 _ _ iP1 In_1 _ e1 uZ))<|oc g_mv<|oc g_sk<|oc g_sk<|oc g_sk<|oc g_sk<|oc g_sk<|oc g_sk<|oc g_pk<|oc g_as on
  intro u12 HB12 sz12 K12
  simp only[sQ] at K12⊢
  clear K11 HB11
  go_wp2
  refine bodyPost_ret (v:= .bool false) (by simp[results,Tryz.results39,go_sem,]) rfl ⟨by rw[hE];rfl,HB12⟩
 ·skip
  go_upto_region 15 with fail
  refine Rp K11 HB11 [] [] [(0,130,NV P1),(1,131,NV 1),(2,132,.bool true),(3,133,.bool true),(4,134,NV S),(5,135,.pointer (some ⟨w.heap.size,0,none⟩)),(6,136,NV n),(7,137,NV G),(8,138,NV 1),(9,139,.bool b2),(10,140,.bool b2),(11,2,.bool b2)] [] [] [false,false,false] ?_ ?_
  ·exact oc (g_ld 1 uN iN)<|oc (g_bd (fun uZ=>bdX 1 (by omega) (by omega) uZ))<|oc (g_bn (fun uZ=>W3 _ _ iP1 In_1 _ e1 uZ))<|oc g_mv<|oc (g_ld 2 uN iN)<|oc (g_fd (fun uZ=>fdC0 _ uZ))<|oc (g_lo 0 0 uN iN)<|oc (g_cl Zw (fun uZ=>hG.out uZ))<|oc (g_bd (fun uZ=>bdX 1 (by omega) (by omega) uZ))<|oc (g_bn (fun uZ=>W3 _ _ iG In_1 _ e2 uZ))<|oc g_pk<|oc g_as on
  intro u12 HB12 sz12 K12
  simp only[sQ] at K12⊢
  clear K11 HB11
  go_wp2
  refine bodyPost_ret (v:= .bool b2) (by simp[results,Tryz.results39,go_sem,]) rfl ⟨by rw[hE];rfl,HB12⟩
theorem xstep_le(n f a L q r s:Int)(w:World)(hn:In n)(hf:In f)(bo:Bool)(h1:(D0 n%2==0)=false)(h2:decide (cmpI n 3<0)=false)(h3:decide (cmpI f 2<0)=false)(hS:Hid (∀u,CC 17 #[NV n,NV 1] u (.tuple #[NV L,.bool bo])))(hD:Hid (∀u,CC 60 #[WV L,NV f] u (.tuple #[WV q,NV r,.int .i64 0])))(hL:In L)(ir:In r)(hr:decide (r=0)=!false)(hM:Hid (∀u,CC 55 #[NV f,NV f] u (WV s)))(w0:decide (0<D0 (D4 s))=false)(w1:decide (0<D1 (D4 s))=false)(w2:decide (0<D2 (D4 s))=false)(w3:decide (0<D3 (D4 s))=false)(is:In s)(hc:decide (cmpI s n<=0)=true):
 CC 39 #[CX n f a] w (.bool false):=by
 have d0:0<=D0 n:=by unfold D0;omega
 have d1:D0 n<18446744073709551616:=by unfold D0;omega
 go_enter Tryz.func39,Tryz.ntmps39
 go_upto_region 1 with fail
 obtain⟨v0,hC,HB0,K0⟩:=bx1 w (CE n f a) 48
 rw[hC]
 clear hC
 refine Rn K0 HB0 [(0,17,.pointer (some ⟨w.heap.size,0,none⟩)),(1,18,.pointer (some ⟨w.heap.size,0,none⟩)),(2,19,.int .u64 (D0 n)),(3,20,.int .u64 (D0 n%2)),(4,21,.bool false),(5,22,.bool false),(6,23,.pointer (some ⟨w.heap.size,0,none⟩)),(7,24,NV n),(8,25,NV 3),(9,26,.int .i64 (cmpI n 3)),(10,27,.bool false),(11,28,.bool false),(12,29,.bool false),(13,30,.pointer (some ⟨w.heap.size,4,none⟩)),(14,31,NV f),(15,32,NV 2),(16,33,.int .i64 (cmpI f 2)),(17,34,.bool false),(18,35,.bool false)] ?_ ?_
 ·exact oc (g_fd (fun uZ=>fdC0 _ uZ))<|oc (g_ix (jN 0))<|oc (g_lc 0 0 lU)<|oc (g_bn (fun uZ=>Uu _ _ (D0 n) 2 (D0 n%2) uZ d0 d1 (by omega) rfl))<|oc (g_bn (fun uZ=>Vg _ _ _ (D0 n%2) 0 _ uZ h1))<|oc g_mv<|oc (g_fd (fun uZ=>fdC0 _ uZ))<|oc (g_lo 0 0 uN iN)<|oc (g_bd (fun uZ=>bdX 3 (by omega) (by omega) uZ))<|oc (g_cl Z0 (fun uZ=>Zk n 3 uZ hn In_3))<|oc (g_bn (fun uZ=>Zg _ _ (cmpI n 3) 0 _ uZ h2))<|oc g_pk<|oc g_mv<|oc (g_fd (fun uZ=>fdC1 _ uZ))<|oc (g_lo 0 4 uN iN)<|oc (g_bd (fun uZ=>bdX 2 (by omega) (by omega) uZ))<|oc (g_cl Z0 (fun uZ=>Zk f 2 uZ hf In_2))<|oc (g_bn (fun uZ=>Zg _ _ (cmpI f 2) 0 _ uZ h3))<|oc g_pk on
 intro u1 HB1 sz1 K1
 simp only[sQ] at K1⊢
 clear K0 HB0
 go_upto_region 3 with fail
 refine Rp K1 HB1 [] [(7,3,L0s,some (8,LN L))] [(0,37,.pointer (some ⟨w.heap.size,0,none⟩)),(1,38,NV n),(2,39,NV 1),(3,40,.tuple #[NV L,.bool bo]),(4,36,.tuple #[NV L,.bool bo]),(5,41,NV L),(6,42,.bool bo),(9,4,.bool bo)] [(8,7)] [] [] ?_ ?_
 ·exact oc (g_fd (fun uZ=>fdC0 _ uZ))<|oc (g_lo 0 0 uN iN)<|oc (g_bd (fun uZ=>bdX 1 (by omega) (by omega) uZ))<|oc (g_cl Z6 (fun uZ=>hS.out uZ))<|oc g_mv<|oc g_ex<|oc g_ex<|oc (g_al 0 aN)<|oc (g_sn 0 iN)<|oc g_as on
 intro u2 b2_7 HB2 sz2 K2
 simp only[sQ] at K2⊢
 clear K1 HB1
 go_upto_region 4 with fail
 refine Rd K2 HB2 [] [(9,5,L0w,some (11,LW q)),(10,6,L0s,some (12,LN r))] [(0,44,NV L),(1,45,WV L),(2,46,.pointer (some ⟨w.heap.size,4,none⟩)),(3,47,NV f),(4,48,.tuple #[WV q,NV r,.int .i64 0]),(5,43,.tuple #[WV q,NV r,.int .i64 0]),(6,49,WV q),(7,50,NV r),(8,51,.int .i64 0),(13,7,.int .i64 0)] [(11,9),(12,10)] [] [true,false,false] ?_ ?_
 ·exact oc (g_ld 1 uN iN)<|oc (g_cl Z8 (fun uZ=>We L uZ hL))<|oc (g_fd (fun uZ=>fdC1 _ uZ))<|oc (g_lo 0 4 uN iN)<|oc (g_cl Zf (fun uZ=>hD.out uZ))<|oc g_mv<|oc g_ex<|oc g_ex<|oc g_ex<|oc (g_al 0 aW)<|oc (g_al 1 aN)<|oc (g_sn 0 iW)<|oc (g_sn 1 iN)<|oc g_as on
 intro u3 b3_9 b3_10 HB3 sz3 K3
 simp only[sQ] at K3⊢
 clear K2 HB2
 go_upto_region 5 with fail
 refine Rp K3 HB3 [] [] [(0,52,NV r),(1,53,A4 (0) (0) (0) (0)),(2,54,.bool false)] [] [] [true,false] ?_ ?_
 ·exact oc (g_ld 1 uN iN)<|oc (g_bd zN)<|oc (g_bn (fun uZ=>neq_0 _ _ ir _ hr uZ)) on
 intro u4 HB4 sz4 K4
 simp only[sQ] at K4⊢
 clear K3 HB3
 go_upto_region 7 with fail
 refine Rp K4 HB4 [] [(5,8,L0w,some (6,LW s))] [(0,55,.pointer (some ⟨w.heap.size,4,none⟩)),(1,56,NV f),(2,57,.pointer (some ⟨w.heap.size,4,none⟩)),(3,58,NV f),(4,59,WV s)] [(6,5)] [] [] ?_ ?_
 ·exact oc (g_fd (fun uZ=>fdC1 _ uZ))<|oc (g_lo 0 4 uN iN)<|oc (g_fd (fun uZ=>fdC1 _ uZ))<|oc (g_lo 0 4 uN iN)<|oc (g_cl Zn (fun uZ=>hM.out uZ))<|oc (g_al 0 aW)<|oc (g_sn 0 iW) on
 intro u5 b5_5 HB5 sz5 K5
 simp only[sQ] at K5⊢
 clear K4 HB4
 go_upto_region 8 with fail
 refine Rp K5 HB5 [] [(9,9,L0s,some (10,LN s))] [(0,60,.pointer (some ⟨b5_5,0,none⟩)),(1,61,.int .u64 (D0 s)),(2,62,.pointer (some ⟨b5_5,1,none⟩)),(3,63,.int .u64 (D1 s)),(4,64,.pointer (some ⟨b5_5,2,none⟩)),(5,65,.int .u64 (D2 s)),(6,66,.pointer (some ⟨b5_5,3,none⟩)),(7,67,.int .u64 (D3 s)),(8,68,NV s)] [(10,9)] [] [] ?_ ?_
 ·exact oc (g_ix (jW 0))<|oc (g_lc 1 0 lU)<|oc (g_ix (jW 1))<|oc (g_lc 1 1 lU)<|oc (g_ix (jW 2))<|oc (g_lc 1 2 lU)<|oc (g_ix (jW 3))<|oc (g_lc 1 3 lU)<|oc (g_bd (fun uZ=>bd4 _ _ _ _ uZ))<|oc (g_al 0 aN)<|oc (g_sn 0 iN) on
 intro u6 b6_9 HB6 sz6 K6
 simp only[sQ] at K6⊢
 clear K5 HB5
 go_upto_region 9 with fail
 refine Rp K6 HB6 [] [] [(0,69,.pointer (some ⟨b5_5,4,none⟩)),(1,70,.int .u64 (D0 (D4 s))),(2,71,.bool false),(3,72,.bool false),(4,73,.pointer (some ⟨b5_5,5,none⟩)),(5,74,.int .u64 (D1 (D4 s))),(6,75,.bool false),(7,76,.bool false),(8,77,.bool false),(9,78,.pointer (some ⟨b5_5,6,none⟩)),(10,79,.int .u64 (D2 (D4 s))),(11,80,.bool false),(12,81,.bool false),(13,82,.bool false),(14,83,.pointer (some ⟨b5_5,7,none⟩)),(15,84,.int .u64 (D3 (D4 s))),(16,85,.bool false),(17,86,.bool false),(18,10,.bool false)] [] [] [true,false] ?_ ?_
 ·exact oc (g_ix (jW 4))<|oc (g_lc 1 4 lU)<|oc (g_bn (fun uZ=>Va _ _ (D0 (D4 s)) 0 _ uZ w0))<|oc g_mv<|oc (g_ix (jW 5))<|oc (g_lc 1 5 lU)<|oc (g_bn (fun uZ=>Va _ _ (D1 (D4 s)) 0 _ uZ w1))<|oc g_pk<|oc g_mv<|oc (g_ix (jW 6))<|oc (g_lc 1 6 lU)<|oc (g_bn (fun uZ=>Va _ _ (D2 (D4 s)) 0 _ uZ w2))<|oc g_pk<|oc g_mv<|oc (g_ix (jW 7))<|oc (g_lc 1 7 lU)<|oc (g_bn (fun uZ=>Va _ _ (D3 (D4 s)) 0 _ uZ w3))<|oc g_pk<|oc g_as on
 intro u7 HB7 sz7 K7
 simp only[sQ] at K7⊢
 clear K6 HB6
 go_upto_region 10 with fail
 refine Rp K7 HB7 [] [] [(0,87,.bool false),(1,88,.bool true),(2,89,.bool true),(3,90,NV s),(4,91,.pointer (some ⟨w.heap.size,0,none⟩)),(5,92,NV n),(6,93,.int .i64 (cmpI s n)),(7,94,.bool true),(8,95,.bool true)] [] [] [false,false] ?_ ?_
 ·exact oc g_mv<|oc (g_un (fun uZ=>rfl))<|oc g_mv<|oc (g_ld 1 uN iN)<|oc (g_fd (fun uZ=>fdC0 _ uZ))<|oc (g_lo 0 0 uN iN)<|oc (g_cl Z0 (fun uZ=>Zk s n uZ is hn))<|oc (g_bn (fun uZ=>leq_i _ _ (cmpI s n) 0 _ uZ hc))<|oc g_pk on
 intro u8 HB8 sz8 K8
 simp only[sQ] at K8⊢
 clear K7 HB7
 go_upto_region 11 with fail
 refine Rn K8 HB8 [(0,2,(Go.Value.bool Bool.false))] ?_ ?_
 ·exact oc g_as on
 intro u9 HB9 sz9 K9
 simp only[sQ] at K9⊢
 clear K8 HB8
 go_wp2
 refine bodyPost_ret (v:= .bool false) (by simp[results,Tryz.results39,go_sem,]) rfl ⟨rfl,HB9⟩
theorem xstep_gt(n f a L q r s P1 P2 S G:Int)(w:World)(hn:In n)(hf:In f)(bo:Bool)(h1:(D0 n%2==0)=false)(h2:decide (cmpI n 3<0)=false)(h3:decide (cmpI f 2<0)=false)(hS:Hid (∀u,CC 17 #[NV n,NV 1] u (.tuple #[NV L,.bool bo])))(hD:Hid (∀u,CC 60 #[WV L,NV f] u (.tuple #[WV q,NV r,.int .i64 0])))(hL:In L)(ir:In r)(hr:decide (r=0)=!false)(hM:Hid (∀u,CC 55 #[NV f,NV f] u (WV s)))(w0:decide (0<D0 (D4 s))=false)(w1:decide (0<D1 (D4 s))=false)(w2:decide (0<D2 (D4 s))=false)(w3:decide (0<D3 (D4 s))=false)(is:In s)(hc:decide (cmpI s n<=0)=false)(iP1:In P1)(iG:In G)(hX:Hid (∀u,CC 40 #[NV a,NV L,NV n] u (.tuple #[NV P1,.int .i64 0])))(hY:Hid (∀u,CC 40 #[NV a,NV q,NV n] u (.tuple #[NV P2,.int .i64 0])))(hZ:Hid (∀u,CC 62 #[NV P2,NV 1,NV n] u (.tuple #[NV S,.int .i64 0])))(hG:Hid (∀u,CC 63 #[NV S,NV n] u (NV G))):
 CC 39 #[CX n f a] w (.bool (decide (P1=1)&&decide (G=1))):=by
 have d0:0<=D0 n:=by unfold D0;omega
 have d1:D0 n<18446744073709551616:=by unfold D0;omega
 go_enter Tryz.func39,Tryz.ntmps39
 go_upto_region 1 with fail
 obtain⟨v0,hC,HB0,K0⟩:=bx1 w (CE n f a) 48
 rw[hC]
 clear hC
 refine Rn K0 HB0 [(0,17,.pointer (some ⟨w.heap.size,0,none⟩)),(1,18,.pointer (some ⟨w.heap.size,0,none⟩)),(2,19,.int .u64 (D0 n)),(3,20,.int .u64 (D0 n%2)),(4,21,.bool false),(5,22,.bool false),(6,23,.pointer (some ⟨w.heap.size,0,none⟩)),(7,24,NV n),(8,25,NV 3),(9,26,.int .i64 (cmpI n 3)),(10,27,.bool false),(11,28,.bool false),(12,29,.bool false),(13,30,.pointer (some ⟨w.heap.size,4,none⟩)),(14,31,NV f),(15,32,NV 2),(16,33,.int .i64 (cmpI f 2)),(17,34,.bool false),(18,35,.bool false)] ?_ ?_
 ·exact oc (g_fd (fun uZ=>fdC0 _ uZ))<|oc (g_ix (jN 0))<|oc (g_lc 0 0 lU)<|oc (g_bn (fun uZ=>Uu _ _ (D0 n) 2 (D0 n%2) uZ d0 d1 (by omega) rfl))<|oc (g_bn (fun uZ=>Vg _ _ _ (D0 n%2) 0 _ uZ h1))<|oc g_mv<|oc (g_fd (fun uZ=>fdC0 _ uZ))<|oc (g_lo 0 0 uN iN)<|oc (g_bd (fun uZ=>bdX 3 (by omega) (by omega) uZ))<|oc (g_cl Z0 (fun uZ=>Zk n 3 uZ hn In_3))<|oc (g_bn (fun uZ=>Zg _ _ (cmpI n 3) 0 _ uZ h2))<|oc g_pk<|oc g_mv<|oc (g_fd (fun uZ=>fdC1 _ uZ))<|oc (g_lo 0 4 uN iN)<|oc (g_bd (fun uZ=>bdX 2 (by omega) (by omega) uZ))<|oc (g_cl Z0 (fun uZ=>Zk f 2 uZ hf In_2))<|oc (g_bn (fun uZ=>Zg _ _ (cmpI f 2) 0 _ uZ h3))<|oc g_pk on
 intro u1 HB1 sz1 K1
 simp only[sQ] at K1⊢
 clear K0 HB0
 go_upto_region 3 with fail
 refine Rp K1 HB1 [] [(7,3,L0s,some (8,LN L))] [(0,37,.pointer (some ⟨w.heap.size,0,none⟩)),(1,38,NV n),(2,39,NV 1),(3,40,.tuple #[NV L,.bool bo]),(4,36,.tuple #[NV L,.bool bo]),(5,41,NV L),(6,42,.bool bo),(9,4,.bool bo)] [(8,7)] [] [] ?_ ?_
 ·exact oc (g_fd (fun uZ=>fdC0 _ uZ))<|oc (g_lo 0 0 uN iN)<|oc (g_bd (fun uZ=>bdX 1 (by omega) (by omega) uZ))<|oc (g_cl Z6 (fun uZ=>hS.out uZ))<|oc g_mv<|oc g_ex<|oc g_ex<|oc (g_al 0 aN)<|oc (g_sn 0 iN)<|oc g_as on
 intro u2 b2_7 HB2 sz2 K2
 simp only[sQ] at K2⊢
 clear K1 HB1
 go_upto_region 4 with fail
 refine Rd K2 HB2 [] [(9,5,L0w,some (11,LW q)),(10,6,L0s,some (12,LN r))] [(0,44,NV L),(1,45,WV L),(2,46,.pointer (some ⟨w.heap.size,4,none⟩)),(3,47,NV f),(4,48,.tuple #[WV q,NV r,.int .i64 0]),(5,43,.tuple #[WV q,NV r,.int .i64 0]),(6,49,WV q),(7,50,NV r),(8,51,.int .i64 0),(13,7,.int .i64 0)] [(11,9),(12,10)] [] [] ?_ ?_
 ·exact oc (g_ld 1 uN iN)<|oc (g_cl Z8 (fun uZ=>We L uZ hL))<|oc (g_fd (fun uZ=>fdC1 _ uZ))<|oc (g_lo 0 4 uN iN)<|oc (g_cl Zf (fun uZ=>hD.out uZ))<|oc g_mv<|oc g_ex<|oc g_ex<|oc g_ex<|oc (g_al 0 aW)<|oc (g_al 1 aN)<|oc (g_sn 0 iW)<|oc (g_sn 1 iN)<|oc g_as on
 intro u3 b3_9 b3_10 HB3 sz3 K3
 simp only[sQ] at K3⊢
 clear K2 HB2
 go_upto_region 5 with fail
 refine Rp K3 HB3 [] [] [(0,52,NV r),(1,53,A4 (0) (0) (0) (0)),(2,54,.bool false)] [] [] [true,true,true,false] ?_ ?_
 ·exact oc (g_ld 3 uN iN)<|oc (g_bd zN)<|oc (g_bn (fun uZ=>neq_0 _ _ ir _ hr uZ)) on
 intro u4 HB4 sz4 K4
 simp only[sQ] at K4⊢
 clear K3 HB3
 go_upto_region 7 with fail
 refine Rp K4 HB4 [] [(5,8,L0w,some (6,LW s))] [(0,55,.pointer (some ⟨w.heap.size,4,none⟩)),(1,56,NV f),(2,57,.pointer (some ⟨w.heap.size,4,none⟩)),(3,58,NV f),(4,59,WV s)] [(6,5)] [] [] ?_ ?_
 ·exact oc (g_fd (fun uZ=>fdC1 _ uZ))<|oc (g_lo 0 4 uN iN)<|oc (g_fd (fun uZ=>fdC1 _ uZ))<|oc (g_lo 0 4 uN iN)<|oc (g_cl Zn (fun uZ=>hM.out uZ))<|oc (g_al 0 aW)<|oc (g_sn 0 iW) on
 intro u5 b5_5 HB5 sz5 K5
 simp only[sQ] at K5⊢
 clear K4 HB4
 go_upto_region 8 with fail
 refine Rp K5 HB5 [] [(9,9,L0s,some (10,LN s))] [(0,60,.pointer (some ⟨b5_5,0,none⟩)),(1,61,.int .u64 (D0 s)),(2,62,.pointer (some ⟨b5_5,1,none⟩)),(3,63,.int .u64 (D1 s)),(4,64,.pointer (some ⟨b5_5,2,none⟩)),(5,65,.int .u64 (D2 s)),(6,66,.pointer (some ⟨b5_5,3,none⟩)),(7,67,.int .u64 (D3 s)),(8,68,NV s)] [(10,9)] [] [] ?_ ?_
 ·exact oc (g_ix (jW 0))<|oc (g_lc 3 0 lU)<|oc (g_ix (jW 1))<|oc (g_lc 3 1 lU)<|oc (g_ix (jW 2))<|oc (g_lc 3 2 lU)<|oc (g_ix (jW 3))<|oc (g_lc 3 3 lU)<|oc (g_bd (fun uZ=>bd4 _ _ _ _ uZ))<|oc (g_al 0 aN)<|oc (g_sn 0 iN) on
 intro u6 b6_9 HB6 sz6 K6
 simp only[sQ] at K6⊢
 clear K5 HB5
 go_upto_region 9 with fail
 refine Rp K6 HB6 [] [] [(0,69,.pointer (some ⟨b5_5,4,none⟩)),(1,70,.int .u64 (D0 (D4 s))),(2,71,.bool false),(3,72,.bool false),(4,73,.pointer (some ⟨b5_5,5,none⟩)),(5,74,.int .u64 (D1 (D4 s))),(6,75,.bool false),(7,76,.bool false),(8,77,.bool false),(9,78,.pointer (some ⟨b5_5,6,none⟩)),(10,79,.int .u64 (D2 (D4 s))),(11,80,.bool false),(12,81,.bool false),(13,82,.bool false),(14,83,.pointer (some ⟨b5_5,7,none⟩)),(15,84,.int .u64 (D3 (D4 s))),(16,85,.bool false),(17,86,.bool false),(18,10,.bool false)] [] [] [true,true,true,false] ?_ ?_
 ·exact oc (g_ix (jW 4))<|oc (g_lc 3 4 lU)<|oc (g_bn (fun uZ=>Va _ _ (D0 (D4 s)) 0 _ uZ w0))<|oc g_mv<|oc (g_ix (jW 5))<|oc (g_lc 3 5 lU)<|oc (g_bn (fun uZ=>Va _ _ (D1 (D4 s)) 0 _ uZ w1))<|oc g_pk<|oc g_mv<|oc (g_ix (jW 6))<|oc (g_lc 3 6 lU)<|oc (g_bn (fun uZ=>Va _ _ (D2 (D4 s)) 0 _ uZ w2))<|oc g_pk<|oc g_mv<|oc (g_ix (jW 7))<|oc (g_lc 3 7 lU)<|oc (g_bn (fun uZ=>Va _ _ (D3 (D4 s)) 0 _ uZ w3))<|oc g_pk<|oc g_as on
 intro u7 HB7 sz7 K7
 simp only[sQ] at K7⊢
 clear K6 HB6
 go_upto_region 10 with fail
 refine Rp K7 HB7 [] [] [(0,87,.bool false),(1,88,.bool true),(2,89,.bool true),(3,90,NV s),(4,91,.pointer (some ⟨w.heap.size,0,none⟩)),(5,92,NV n),(6,93,.int .i64 (cmpI s n)),(7,94,.bool false),(8,95,.bool false)] [] [] [true,true,true,false] ?_ ?_
 ·exact oc g_mv<|oc (g_un (fun uZ=>rfl))<|oc g_mv<|oc (g_ld 3 uN iN)<|oc (g_fd (fun uZ=>fdC0 _ uZ))<|oc (g_lo 0 0 uN iN)<|oc (g_cl Z0 (fun uZ=>Zk s n uZ is hn))<|oc (g_bn (fun uZ=>leq_i _ _ (cmpI s n) 0 _ uZ hc))<|oc g_pk on
 intro u8 HB8 sz8 K8
 simp only[sQ] at K8⊢
 clear K7 HB7
 go_upto_region 12 with fail
 refine Rp K8 HB8 [] [(9,11,L0s,some (10,LN P1))] [(0,97,.pointer (some ⟨w.heap.size,8,none⟩)),(1,98,NV a),(2,99,NV L),(3,100,.pointer (some ⟨w.heap.size,0,none⟩)),(4,101,NV n),(5,102,.tuple #[NV P1,.int .i64 0]),(6,96,.tuple #[NV P1,.int .i64 0]),(7,103,NV P1),(8,104,.int .i64 0),(11,12,.int .i64 0)] [(10,9)] [] [true,false] ?_ ?_
 ·exact oc (g_fd (fun uZ=>fdC2 _ uZ))<|oc (g_lo 0 8 uN iN)<|oc (g_ld 1 uN iN)<|oc (g_fd (fun uZ=>fdC0 _ uZ))<|oc (g_lo 0 0 uN iN)<|oc (g_cl Z9 (fun uZ=>hX.out uZ))<|oc g_mv<|oc g_ex<|oc g_ex<|oc (g_al 0 aN)<|oc (g_sn 0 iN)<|oc g_as on
 intro u9 b9_9 HB9 sz9 K9
 simp only[sQ] at K9⊢
 clear K8 HB8
 go_upto_region 13 with fail
 refine Rp K9 HB9 [] [(17,13,L0s,some (18,LN P2))] [(0,106,.pointer (some ⟨w.heap.size,8,none⟩)),(1,107,NV a),(2,108,.pointer (some ⟨b3_9,0,none⟩)),(3,109,.int .u64 (D0 q)),(4,110,.pointer (some ⟨b3_9,1,none⟩)),(5,111,.int .u64 (D1 q)),(6,112,.pointer (some ⟨b3_9,2,none⟩)),(7,113,.int .u64 (D2 q)),(8,114,.pointer (some ⟨b3_9,3,none⟩)),(9,115,.int .u64 (D3 q)),(10,116,NV q),(11,117,.pointer (some ⟨w.heap.size,0,none⟩)),(12,118,NV n),(13,119,.tuple #[NV P2,.int .i64 0]),(14,105,.tuple #[NV P2,.int .i64 0]),(15,120,NV P2),(16,121,.int .i64 0),(19,14,.int .i64 0)] [(18,17)] [] [true,false] ?_ ?_
 ·exact oc (g_fd (fun uZ=>fdC2 _ uZ))<|oc (g_lo 0 8 uN iN)<|oc (g_ix (jW 0))<|oc (g_lc 1 0 lU)<|oc (g_ix (jW 1))<|oc (g_lc 1 1 lU)<|oc (g_ix (jW 2))<|oc (g_lc 1 2 lU)<|oc (g_ix (jW 3))<|oc (g_lc 1 3 lU)<|oc (g_bd (fun uZ=>bd4 _ _ _ _ uZ))<|oc (g_fd (fun uZ=>fdC0 _ uZ))<|oc (g_lo 0 0 uN iN)<|oc (g_cl Z9 (fun uZ=>hY.out uZ))<|oc g_mv<|oc g_ex<|oc g_ex<|oc (g_al 0 aN)<|oc (g_sn 0 iN)<|oc g_as on
 intro u10 b10_17 HB10 sz10 K10
 simp only[sQ] at K10⊢
 clear K9 HB9
 go_upto_region 14 with fail
 refine Rp K10 HB10 [] [(8,15,L0s,some (9,LN S))] [(0,123,NV P2),(1,124,NV 1),(2,125,.pointer (some ⟨w.heap.size,0,none⟩)),(3,126,NV n),(4,127,.tuple #[NV S,.int .i64 0]),(5,122,.tuple #[NV S,.int .i64 0]),(6,128,NV S),(7,129,.int .i64 0),(10,16,.int .i64 0)] [(9,8)] [] [true,true,false] ?_ ?_
 ·exact oc (g_ld 2 uN iN)<|oc (g_bd (fun uZ=>bdX 1 (by omega) (by omega) uZ))<|oc (g_fd (fun uZ=>fdC0 _ uZ))<|oc (g_lo 0 0 uN iN)<|oc (g_cl Zv (fun uZ=>hZ.out uZ))<|oc g_mv<|oc g_ex<|oc g_ex<|oc (g_al 0 aN)<|oc (g_sn 0 iN)<|oc g_as on
 intro u11 b11_8 HB11 sz11 K11
 simp only[sQ] at K11⊢
 clear K10 HB10
 obtain⟨b1,e1⟩: ∃b,decide (P1=1)=b:=⟨_,rfl⟩
 obtain⟨b2,e2⟩: ∃b,decide (G=1)=b:=⟨_,rfl⟩
 have hE:(decide (P1=1)&&decide (G=1))=(b1&&b2):=by rw[e1,e2]
 cases b1
 ·skip
  go_upto_region 15 with fail
  refine Rp K11 HB11 [] [] [(0,130,NV P1),(1,131,NV 1),(2,132,.bool false),(3,133,.bool false),(4,134,undef),(5,135,undef),(6,136,undef),(7,137,undef),(8,138,undef),(9,139,undef),(10,140,(Go.Value.bool Bool.false)),(11,2,(Go.Value.bool Bool.false))] [] [] [false,false,false] ?_ ?_
  ·exact oc (g_ld 1 uN iN)<|oc (g_bd (fun uZ=>bdX 1 (by omega) (by omega) uZ))<|oc (g_bn (fun uZ=>W3 _ _ iP1 In_1 _ e1 uZ))<|oc g_mv<|oc g_sk<|oc g_sk<|oc g_sk<|oc g_sk<|oc g_sk<|oc g_sk<|oc g_pk<|oc g_as on
  intro u12 HB12 sz12 K12
  simp only[sQ] at K12⊢
  clear K11 HB11
  go_wp2
  refine bodyPost_ret (v:= .bool false) (by simp[results,Tryz.results39,go_sem,]) rfl ⟨by rw[hE];rfl,HB12⟩
 ·skip
  go_upto_region 15 with fail
  refine Rp K11 HB11 [] [] [(0,130,NV P1),(1,131,NV 1),(2,132,.bool true),(3,133,.bool true),(4,134,NV S),(5,135,.pointer (some ⟨w.heap.size,0,none⟩)),(6,136,NV n),(7,137,NV G),(8,138,NV 1),(9,139,.bool b2),(10,140,.bool b2),(11,2,.bool b2)] [] [] [false,false,false] ?_ ?_
  ·exact oc (g_ld 1 uN iN)<|oc (g_bd (fun uZ=>bdX 1 (by omega) (by omega) uZ))<|oc (g_bn (fun uZ=>W3 _ _ iP1 In_1 _ e1 uZ))<|oc g_mv<|oc (g_ld 2 uN iN)<|oc (g_fd (fun uZ=>fdC0 _ uZ))<|oc (g_lo 0 0 uN iN)<|oc (g_cl Zw (fun uZ=>hG.out uZ))<|oc (g_bd (fun uZ=>bdX 1 (by omega) (by omega) uZ))<|oc (g_bn (fun uZ=>W3 _ _ iG In_1 _ e2 uZ))<|oc g_pk<|oc g_as on
  intro u12 HB12 sz12 K12
  simp only[sQ] at K12⊢
  clear K11 HB11
  go_wp2
  refine bodyPost_ret (v:= .bool b2) (by simp[results,Tryz.results39,go_sem,]) rfl ⟨by rw[hE];rfl,HB12⟩
theorem D0_odd(n:Int):D0 n%2=n%2:=by unfold D0;omega
theorem T4(n m:Int):decide (cmpI n m<0)=decide (n<m):=by
 unfold cmpI;split
 ·simp[*]
 ·split<;>simp[*]<;>omega
theorem cmp_le0(n m:Int):decide (cmpI n m<=0)=decide (n<=m):=by
 unfold cmpI;split
 ·simp[*];omega
 ·split<;>simp[*]<;>omega
theorem stB_f{n f a:Int}(h: ¬StR n f a):stB n f a=false:=by simp[stB,h]
theorem sq_iff{n f:Int}(h2:2<=f)(hr:(n -1)%f=0):(n -1)/f<f↔n<f*f:=by
 have e:f*((n -1)/f)=n -1:=by have:=Int.mul_ediv_add_emod (n -1) f;omega
 generalize (n -1)/f=q at *
 constructor
 ·intro h
  have:f*q<=f*(f -1):=Int.mul_le_mul_of_nonneg_left (by omega) (by omega)
  have e2:f*(f -1)=f*f -f:=by rw[Int.mul_sub,Int.mul_one]
  omega
 ·intro h
  refine Int.lt_of_not_ge fun hq=>?_
  have:f*f<=f*q:=Int.mul_le_mul_of_nonneg_left hq (by omega)
  omega
theorem D4_0{i:Int}(h:i=0):D0 i=0/\D1 i=0/\D2 i=0/\D3 i=0:=by subst h;decide
theorem big_sq{n s:Int}(hn:In n)(hs:0<=s)(h:D4 s≠0):n<s:=by
 refine Int.lt_of_not_ge fun hq=>h ?_
 have:=hn.2
 unfold D4
 exact Int.ediv_eq_zero_of_lt hs (by omega)
theorem stB_and{n f a:Int}(h1:n%2=1)(h2:3<=n)(h3:2<=f)(h4:(n -1)%f=0)(h5:n<f*f):(decide (a^(n -1).toNat%n=1)&&decide (gI ((a^((n -1)/f).toNat%n -1)%n) n=1))=stB n f a:=by
 rw[Bool.eq_iff_iff,stB_iff]
 unfold StR
 simp[h1,h2,h3,h4,(sq_iff h3 h4).2 h5]
theorem xStep(n f a:Int)(w:World)(hn:In n)(hf:In f)(ha:In a):
 CC 39 #[CX n f a] w (.bool (stB n f a)):=by
 by_cases h1:n%2=0
 ·rw[stB_f (fun h=>by have:=h.1;omega)]
  exact xstep_even n f a w hn hf (by rw[D0_odd,h1];rfl)
 have h1':(D0 n%2==0)=false:=by rw[D0_odd,beq_eq_false_iff_ne];exact h1
 by_cases h2:n<3
 ·rw[stB_f (fun h=>by have:=h.2.1;omega)]
  exact xstep_lo n f a w hn hf h1' (by rw[T4];simp[h2])
 have h2':decide (cmpI n 3<0)=false:=by rw[T4];simp;omega
 by_cases h3:f<2
 ·rw[stB_f (fun h=>by have:=h.2.2.1;omega)]
  exact xstep_f n f a w hn hf h1' h2' (by rw[T4];simp[h3])
 have h3':decide (cmpI f 2<0)=false:=by rw[T4];simp;omega
 have hS:=fun u=>Vp n 1 u hn In_1 (by omega)
 have hL:In (n -1):=⟨by omega,by have:=hn.2;omega⟩
 have hD:=fun u=>nrDivide (n -1) f u hL.wide hf (by omega)
 have q0:=Int.ediv_nonneg hL.1 hf.1
 have iq:In ((n -1)/f):=⟨q0,by have:=Int.ediv_le_self f hL.1;have:=hL.2;omega⟩
 have ir:In ((n -1)%f):=Y9 hf (by omega)
 by_cases hr:(n -1)%f=0
 ·have hM:=fun u=>nrMul f f u hf hf
  have hX:=fun u=>xExp a (n -1) n u ha hL hn (by omega)
  have hY:=fun u=>xExp a ((n -1)/f) n u ha iq hn (by omega)
  have i1:In (a^(n -1).toNat%n):=Y9 hn (by omega)
  have i2:In (a^((n -1)/f).toNat%n):=Y9 hn (by omega)
  have hZ:=fun u=>xSub _ 1 n u i2 In_1 hn (by omega)
  have i3:In ((a^((n -1)/f).toNat%n -1)%n):=Y9 hn (by omega)
  have hG:=fun u=>xGcd _ n u i3 hn
  have i4:In (gI ((a^((n -1)/f).toNat%n -1)%n) n):=In_gR hn (by omega)
  have hr':decide ((n -1)%f=0)=!false:=by simp[hr]
  have hs0:0<=f*f:=Int.mul_nonneg hf.1 hf.1
  have i5:In (D4 (f*f)):=by
   have h1:f*f<0x10000000000000000000000000000000000000000000000000000000000000000*0x10000000000000000000000000000000000000000000000000000000000000000:=by
    have a1:f*f<=0xffffffffffffffffffffffffffffffffffffffffffffffffffffffffffffffff*0xffffffffffffffffffffffffffffffffffffffffffffffffffffffffffffffff:=Int.mul_le_mul (by have:=hf.2;omega) (by have:=hf.2;omega) hf.1 (by decide)
    omega
   unfold D4
   exact⟨Int.ediv_nonneg hs0 (by decide),Int.ediv_lt_of_lt_mul (by decide) h1⟩
  have key:=fun h=> @stB_and n f a (by omega) (by omega) (by omega) hr h
  by_cases w0:0<D0 (D4 (f*f))
  ·rw[<-key (big_sq hn hs0 (fun e=>by have:=(D4_0 e).1;omega))]
   exact xstep_w0 n f a _ _ _ _ _ _ _ _ w hn hf false h1' h2' h3' hS hD hL ir hr' hM (by simp[w0]) i1 i4 hX hY hZ hG
  have w0':decide (0<D0 (D4 (f*f)))=false:=by simp only[w0,decide_false]
  by_cases w1:0<D1 (D4 (f*f))
  ·rw[<-key (big_sq hn hs0 (fun e=>by have:=(D4_0 e).2.1;omega))]
   exact xstep_w1 n f a _ _ _ _ _ _ _ _ w hn hf false h1' h2' h3' hS hD hL ir hr' hM w0' (by simp[w1]) i1 i4 hX hY hZ hG
  have w1':decide (0<D1 (D4 (f*f)))=false:=by simp only[w1,decide_false]
  by_cases w2:0<D2 (D4 (f*f))
  ·rw[<-key (big_sq hn hs0 (fun e=>by have:=(D4_0 e).2.2.1;omega))]
   exact xstep_w2 n f a _ _ _ _ _ _ _ _ w hn hf false h1' h2' h3' hS hD hL ir hr' hM w0' w1' (by simp[w2]) i1 i4 hX hY hZ hG
  have w2':decide (0<D2 (D4 (f*f)))=false:=by simp only[w2,decide_false]
  by_cases w3:0<D3 (D4 (f*f))
  ·rw[<-key (big_sq hn hs0 (fun e=>by have:=(D4_0 e).2.2.2;omega))]
   exact xstep_w3 n f a _ _ _ _ _ _ _ _ w hn hf false h1' h2' h3' hS hD hL ir hr' hM w0' w1' w2' (by simp[w3]) i1 i4 hX hY hZ hG
  have w3':decide (0<D3 (D4 (f*f)))=false:=by simp only[w3,decide_false]
  have e4:D4 (f*f)=0:=by
   have h0:=V_In i5
   have b0:=(W_D0 (D4 (f*f))).1
   have b1:=(W_D1 (D4 (f*f))).1
   have b2:=(W_D2 (D4 (f*f))).1
   have b3:=(W_D3 (D4 (f*f))).1
   rw[show D0 (D4 (f*f))=0 by omega,show D1 (D4 (f*f))=0 by omega,show D2 (D4 (f*f))=0 by omega,show D3 (D4 (f*f))=0 by omega] at h0
   rw[<-h0];rfl
  have is:In (f*f):=⟨hs0,by
   unfold D4 at e4
   have:=Int.mul_ediv_add_emod (f*f) 0x10000000000000000000000000000000000000000000000000000000000000000
   have:=Int.emod_lt_of_pos (f*f) (show (0:Int)<0x10000000000000000000000000000000000000000000000000000000000000000 by decide)
   rw[e4] at *
   omega⟩
  by_cases hc:f*f<=n
  ·rw[stB_f (fun h=>by have:=(sq_iff (by omega) hr).1 h.2.2.2.2.1;omega)]
   exact xstep_le n f a _ _ _ _ w hn hf false h1' h2' h3' hS hD hL ir hr' hM w0' w1' w2' w3' is (by rw[cmp_le0];simp[hc])
  ·rw[<-key (by omega)]
   exact xstep_gt n f a _ _ _ _ _ _ _ _ w hn hf false h1' h2' h3' hS hD hL ir hr' hM w0' w1' w2' w3' is (by rw[cmp_le0];simp only[hc,decide_false]) i1 i4 hX hY hZ hG
 ·rw[stB_f (fun h=>hr h.2.2.2.1)]
  exact xstep_r n f a _ _ _ w hn hf false h1' h2' h3' hS hD hL ir (by simp[hr])
end Go.Proofs.YtdhlekdohebbbaaGreatDoor
