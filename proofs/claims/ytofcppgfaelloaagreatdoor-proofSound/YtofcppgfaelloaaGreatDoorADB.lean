import Derived.Test.YtofcppgfaelloaaGreatDoorAD4
import Derived.Test.YtofcppgfaelloaaGreatDoorTie
import Derived.Test.YtofcppgfaelloaaGreatDoorCards
import Derived.LaidMore
import Derived.SevenTiedAt
namespace Go.Proofs.YtofcppgfaelloaaGreatDoor
set_option linter.unusedVariables false
set_option linter.unusedSimpArgs false
set_option maxRecDepth 100000
set_option maxHeartbeats 4000000
section
open Go.RowKit
theorem ent_WA:EnT 13:=fun _ _=>by kernel_rfl
theorem ent_WB:EnT 14:=fun _ _=>by kernel_rfl
theorem ent_WC:EnT 11:=fun _ _=>by kernel_rfl
theorem ent_WD:EnT 26:=fun _ _=>by kernel_rfl
theorem ent_WE:EnT 18:=fun _ _=>by kernel_rfl
theorem ent_WF:EnT 20:=fun _ _=>by kernel_rfl
theorem ent_WG:EnT 25:=fun _ _=>by kernel_rfl
theorem ent_WH:EnT 24:=fun _ _=>by kernel_rfl
theorem Uo:EnT 22:=fun _ _=>by kernel_rfl
theorem Ti (p q:Operand) (x:Bool) (w:World):(do eqGuard .eql 4 p q (.bool x) (.bool x);binOp .eql 4 (.bool x) (.bool x):Sem Value).run Tryz.prog w= .ok (.bool true) w:=by cases x<;>go_simp
theorem xSumZ (m x:Int) (v:Value) (w:World) (hm:In m) (h:m≠0) (hx:In x) (hv:NL w v [x]):CC 26 #[NV m,v] w (.tuple #[NV (x%m),.int .i64 0]):=by
 obtain⟨sl,gb,go,cap,rfl,h2,h3,h4,h5,h6⟩:=hv
 have h7:=xSum m sl gb go cap [x] w (by simp) hm h (getDIn (by intro z hz;simp at hz;subst hz;exact hx)) (nlIx h4) h5 h6
 rw[show ([x]:List Int).length=1 from rfl,gat,gat] at h7
 simp only[List.getD_cons_zero,Int.zero_emod,Int.zero_add] at h7
 exact h7
theorem pw_cong {p q x a b:Int} (h:a%q=b%q):pwZ p q x a=pwZ p q x b:=by rw[<-pw_m,h,pw_m]
theorem ck_0 {b u k c y z:Int} (h:Mb P0 Q0 b) (h1:Mb P0 Q0 u) (h2:Mb P0 Q0 k):(ckE P0 Q0 4 Hz b u k c y z==0)=ckB P0 Q0 4 Hz b u k c y z:=by
 unfold ckE
 rw[mb5z h h1 h2,if_pos rfl]
 cases ckB P0 Q0 4 Hz b u k c y z<;>rfl
theorem ckB_low {p q g h b u k c y z:Int} (hc:c<q) (hy:y<q) (hz:z<q):ckB p q g h b u k c y z=decide (chZ p q [g,h,b,u,k,fgV p q b u c y,fgW p q g h k c y z]=c):=by
 unfold ckB
 rw[decide_eq_true hc,decide_eq_true hy,decide_eq_true hz,Bool.true_and,Bool.true_and,Bool.true_and,decide_eq_decide]
 exact eq_comm
theorem pvC_lt (b s t x y:Int):pvC P0 Q0 4 Hz b s t x y<Q0:=(chZ_bd X8 _).2
theorem pvY_lt (x c s:Int):pvY Q0 x c s<Q0:=Int.emod_lt_of_pos _ (by decide)
theorem exP_k {p q x:Int} (e:Int) (h:isB p q x=true):exPX p q x e=pwZ p q x e/\exPE p q x=0:=by unfold exPX exPE pwZ;rw[h];exact⟨if_pos rfl,if_pos rfl⟩
theorem md_lt (a:Int):a%Q0<Q0:=Int.emod_lt_of_pos _ (by decide)
theorem pForge0 (b u k c y z:Int) (w:World) (hK:GK w) (h:Mb P0 Q0 b) (h1:Mb P0 Q0 u) (h2:Mb P0 Q0 k) (hc:In c) (hy:In y) (hz:In z):CC 14 #[GX P0 Q0 4 Hz,NV b,NV u,NV k,NV c,NV y,NV z] w (.tuple #[NV (fgV P0 Q0 b u c y),NV (fgW P0 Q0 4 Hz k c y z),.int .i64 0]):=
 pForge P0 Q0 4 Hz b u k c y z w hK X7 Yg In_n4 In_Hz (InMb X7 h) (InMb X7 h1) (InMb X7 h2) hc hy hz (mb5z h h1 h2)
theorem pCh0 (ns:List Int) (v:Value) (w:World) (hK:GK w) (hn:ns.length<=20) (hv:NL w v ns):CC 11 #[GX P0 Q0 4 Hz,v] w (.tuple #[NV (chZ P0 Q0 (4::Hz::ns)),.int .i64 0]):=by
 have:=pChal P0 Q0 4 Hz ns v w hK X7 Yg hn hv
 rwa [show chE P0 Q0=0 from if_pos X8] at this
theorem pCk0 (b u k c y z:Int) (w:World) (hK:GK w) (h:Mb P0 Q0 b) (h1:Mb P0 Q0 u) (h2:Mb P0 Q0 k) (hc:In c) (hy:In y) (hz:In z):CC 16 #[GX P0 Q0 4 Hz,NV b,NV u,NV k,CX c y z] w (.int .i64 (ckE P0 Q0 4 Hz b u k c y z)):=
 pCheck P0 Q0 4 Hz b u k c y z w hK X7 Yg In_n4 In_Hz (InMb X7 h) (InMb X7 h1) (InMb X7 h2) hc hy hz
theorem other_core (P Q g h s o t x y xu c y1 z1 k xv w2 ch a d f:Int) (fB db:Bool) (w:World) (hW:Hid (∀u,Bw w u->CC 13 #[] u (.bool true)))(hT:Hid (∀u,CC 19 #[] u (GX P Q g h)))(hP:Hid (∀u,Bw w u->CC 9 #[GX P Q g h,NV 9,NV s,NV t,NV x,NV y] u (.tuple #[NV xu,CX c y1 z1,.int .i64 0])))(hC:Hid (∀u,CC 21 #[GX P Q g h,NV o,NV t] u (.tuple #[NV k,.int .i64 0])))(hF:Hid (∀u,Bw w u->CC 14 #[GX P Q g h,NV 9,NV xu,NV k,NV c,NV y1,NV z1] u (.tuple #[NV xv,NV w2,.int .i64 0])))(hCh:Hid (∀u v,Bw w u->PFr 0 [9,xu,k,xv,w2] u v->CC 11 #[GX P Q g h,v] u (.tuple #[NV ch,.int .i64 0])))(hS:Hid (∀u v,Bw w u->PFr 0 [s] u v->CC 26 #[NV Q,v] u (.tuple #[NV a,.int .i64 0])))(hD:Hid (∀u v,Bw w u->PFr 0 [o] u v->CC 26 #[NV Q,v] u (.tuple #[NV d,.int .i64 0])))(hK:Hid (∀u,Bw w u->CC 16 #[GX P Q g h,NV 9,NV xu,NV k,CX c y1 z1] u (.int .i64 f)))(ich:In ch) (ic:In c) (ia:In a) (id_:In d) (e1:(f==0)=fB) (e2:decide (ch=c)=fB) (e3:decide (a=d)=!db) (e4:db=false->fB=true):
 CC 8 #[NV s,NV o,NV t,NV x,NV y] w (.bool true):=by
 go_enter Tryz.func8,Tryz.ntmps8
 go_upto_region 1 with fail
 obtain⟨v0,hC,HB0,K0⟩:=bx5 w (LN (s)) 24 (LN (o)) 24 (LN (t)) 24 (LN (x)) 24 (LN (y)) 24
 rw[hC]
 clear hC
 refine rgP K0 HB0 HB0.size [] [] [(0,27,.bool true),(1,28,.bool false)] [] [] [] ?_ ?_
 ·exact oc (g_cb ent_WA (fun uZ bZ=>hW.out uZ bZ))<|oc (g_un (fun uZ=>not_t uZ)) on
 intro u1 HB1 sz1 K1
 simp only[sQ] at K1⊢
 clear K0 HB0
 go_upto_region 3 with fail
 refine rgP K1 HB1 HB1.size [] [(1,11,L0s,some (2,LN (9)))] [(0,29,NV (9))] [(2,1)] [] [] ?_ ?_
 ·exact oc (g_cl V1 (fun uZ=>Yp 9 uZ (by omega) (by omega)))<|oc (g_al 0 aN)<|oc (g_sn 0 iN) on
 intro u2 b2_1 HB2 sz2 K2
 simp only[sQ] at K2⊢
 clear K1 HB1
 go_upto_region 4 with fail
 refine rgD K2 HB2 HB2.size [] [(11,12,L0s,some (13,LN (xu))),(12,13,L0c,some (14,CE (c) (y1) (z1)))] [(0,31,GX (P) (Q) (g) (h)),(1,32,NV (9)),(2,33,NV (s)),(3,34,NV (t)),(4,35,NV (x)),(5,36,NV (y)),(6,37,.tuple #[NV (xu),CX (c) (y1) (z1),.int .i64 0]),(7,30,.tuple #[NV (xu),CX (c) (y1) (z1),.int .i64 0]),(8,38,NV (xu)),(9,39,CX (c) (y1) (z1)),(10,40,.int .i64 0),(15,14,.int .i64 0)] [(13,11),(14,12)] [] [] ?_ ?_
 ·exact oc (g_cl Zt (fun uZ=>hT.out uZ))<|oc (g_ld 5 uN iN)<|oc (g_ld 0 uN iN)<|oc (g_ld 2 uN iN)<|oc (g_ld 3 uN iN)<|oc (g_ld 4 uN iN)<|oc (g_cb ent_XC (fun uZ bZ=>hP.out uZ bZ))<|oc g_mv<|oc g_ex<|oc g_ex<|oc g_ex<|oc (g_al 0 aN)<|oc (g_al 1 Xj)<|oc (g_sn 0 iN)<|oc (g_sn 1 Z5)<|oc g_as on
 intro u3 b3_11 b3_12 HB3 sz3 K3
 simp only[sQ] at K3⊢
 clear K2 HB2
 go_upto_region 5 with fail
 refine rgD K3 HB3 HB3.size [] [(7,15,L0s,some (8,LN (k)))] [(0,42,GX (P) (Q) (g) (h)),(1,43,NV (o)),(2,44,NV (t)),(3,45,.tuple #[NV (k),.int .i64 0]),(4,41,.tuple #[NV (k),.int .i64 0]),(5,46,NV (k)),(6,47,.int .i64 0),(9,16,.int .i64 0)] [(8,7)] [] [] ?_ ?_
 ·exact oc (g_cl Zt (fun uZ=>hT.out uZ))<|oc (g_ld 1 uN iN)<|oc (g_ld 2 uN iN)<|oc (g_cl ent_XE (fun uZ=>hC.out uZ))<|oc g_mv<|oc g_ex<|oc g_ex<|oc (g_al 0 aN)<|oc (g_sn 0 iN)<|oc g_as on
 intro u4 b4_7 HB4 sz4 K4
 simp only[sQ] at K4⊢
 clear K3 HB3
 go_upto_region 6 with fail
 refine rgD K4 HB4 HB4.size [] [(15,17,L0s,some (17,LN (xv))),(16,18,L0s,some (18,LN (w2)))] [(0,49,GX (P) (Q) (g) (h)),(1,50,NV (9)),(2,51,NV (xu)),(3,52,NV (k)),(4,53,.pointer (some ⟨b3_12,0,none⟩)),(5,54,NV (c)),(6,55,.pointer (some ⟨b3_12,4,none⟩)),(7,56,NV (y1)),(8,57,.pointer (some ⟨b3_12,8,none⟩)),(9,58,NV (z1)),(10,59,.tuple #[NV (xv),NV (w2),.int .i64 0]),(11,48,.tuple #[NV (xv),NV (w2),.int .i64 0]),(12,60,NV (xv)),(13,61,NV (w2)),(14,62,.int .i64 0),(19,19,.int .i64 0)] [(17,15),(18,16)] [] [] ?_ ?_
 ·exact oc (g_cl Zt (fun uZ=>hT.out uZ))<|oc (g_ld 5 uN iN)<|oc (g_ld 6 uN iN)<|oc (g_ld 8 uN iN)<|oc (g_fd (fun uZ=>fdP0 _ uZ))<|oc (g_lo 7 0 uN iN)<|oc (g_fd (fun uZ=>fdP1 _ uZ))<|oc (g_lo 7 4 uN iN)<|oc (g_fd (fun uZ=>fdP2 _ uZ))<|oc (g_lo 7 8 uN iN)<|oc (g_cb ent_WB (fun uZ bZ=>hF.out uZ bZ))<|oc g_mv<|oc g_ex<|oc g_ex<|oc g_ex<|oc (g_al 0 aN)<|oc (g_al 1 aN)<|oc (g_sn 0 iN)<|oc (g_sn 1 iN)<|oc g_as on
 intro u5 b5_15 b5_16 HB5 sz5 K5
 simp only[sQ] at K5⊢
 clear K4 HB4
 go_upto_region 7 with fail
 refine rgE K5 HB5 HB5.size [] [(11,20,L0s,some (12,LN (ch)))] [(0,64,GX (P) (Q) (g) (h)),(1,65,NV (9)),(2,66,NV (xu)),(3,67,NV (k)),(4,68,NV (xv)),(5,69,NV (w2)),(7,71,.tuple #[NV (ch),.int .i64 0]),(8,63,.tuple #[NV (ch),.int .i64 0]),(9,72,NV (ch)),(10,73,.int .i64 0),(13,21,.int .i64 0)] [(12,11)] [] [⟨6,70,some 7,PFr 0 [9,xu,k,xv,w2]⟩] [] (.cons (fun _ _ _ h1 h2=>h2.stab h1)<|Stab.nil) ?_ ?_
 ·exact oc (g_cl Zt (fun uZ=>hT.out uZ))<|oc (g_ld 5 uN iN)<|oc (g_ld 6 uN iN)<|oc (g_ld 8 uN iN)<|oc (g_ld 9 uN iN)<|oc (g_ld 10 uN iN)<|oc (g_bR 0 (PFr 0 [9,xu,k,xv,w2]) [0,1,2,3,4] [NV 9,NV xu,NV k,NV xv,NV w2] (flN [9,xu,k,xv,w2]) (bsF5 9 xu k xv w2) (fun u hu=>PFr.new 0 [9,xu,k,xv,w2] u 24 (Nat.zero_le _)))<|oc (g_c2 0 (PFr 0 [9,xu,k,xv,w2]) ent_WC (fun uZ yv bZ hy=>hCh.out uZ yv bZ hy))<|oc g_mv<|oc g_ex<|oc g_ex<|oc (g_al 0 aN)<|oc (g_sn 0 iN)<|oc g_as on
 intro u6 b6_11 v6_6 hv6_6 HB6 sz6 K6
 simp only[sQ] at K6⊢
 clear K5 HB5
 go_upto_region 8 with fail
 refine rgE K6 HB6 HB6.size [] [(8,22,L0s,some (9,LN (a)))] [(0,75,GX (P) (Q) (g) (h)),(1,76,NV (Q)),(2,77,NV (s)),(4,79,.tuple #[NV (a),.int .i64 0]),(5,74,.tuple #[NV (a),.int .i64 0]),(6,80,NV (a)),(7,81,.int .i64 0),(10,23,.int .i64 0)] [(9,8)] [] [⟨3,78,some 4,PFr 0 [s]⟩] [] (.cons (fun _ _ _ h1 h2=>h2.stab h1)<|Stab.nil) ?_ ?_
 ·exact oc (g_cl Zt (fun uZ=>hT.out uZ))<|oc (g_op (fun ev uZ he=>fldQp uZ rfl (he _ _ rfl)))<|oc (g_ld 0 uN iN)<|oc (g_bR 0 (PFr 0 [s]) [0] [NV s] (flN [s]) (bsF1 s) (fun u hu=>PFr.new 0 [s] u 24 (Nat.zero_le _)))<|oc (g_c2 0 (PFr 0 [s]) ent_WD (fun uZ yv bZ hy=>hS.out uZ yv bZ hy))<|oc g_mv<|oc g_ex<|oc g_ex<|oc (g_al 0 aN)<|oc (g_sn 0 iN)<|oc g_as on
 intro u7 b7_8 v7_3 hv7_3 HB7 sz7 K7
 simp only[sQ] at K7⊢
 clear K6 HB6
 go_upto_region 9 with fail
 refine rgE K7 HB7 HB7.size [] [(8,24,L0s,some (9,LN (d)))] [(0,83,GX (P) (Q) (g) (h)),(1,84,NV (Q)),(2,85,NV (o)),(4,87,.tuple #[NV (d),.int .i64 0]),(5,82,.tuple #[NV (d),.int .i64 0]),(6,88,NV (d)),(7,89,.int .i64 0),(10,25,.int .i64 0)] [(9,8)] [] [⟨3,86,some 4,PFr 0 [o]⟩] [] (.cons (fun _ _ _ h1 h2=>h2.stab h1)<|Stab.nil) ?_ ?_
 ·exact oc (g_cl Zt (fun uZ=>hT.out uZ))<|oc (g_op (fun ev uZ he=>fldQp uZ rfl (he _ _ rfl)))<|oc (g_ld 1 uN iN)<|oc (g_bR 0 (PFr 0 [o]) [0] [NV o] (flN [o]) (bsF1 o) (fun u hu=>PFr.new 0 [o] u 24 (Nat.zero_le _)))<|oc (g_c2 0 (PFr 0 [o]) ent_WD (fun uZ yv bZ hy=>hD.out uZ yv bZ hy))<|oc g_mv<|oc g_ex<|oc g_ex<|oc (g_al 0 aN)<|oc (g_sn 0 iN)<|oc g_as on
 intro u8 b8_8 v8_3 hv8_3 HB8 sz8 K8
 simp only[sQ] at K8⊢
 clear K7 HB7
 go_upto_region 10 with fail
 refine rgD K8 HB8 HB8.size [] [] [(0,90,GX (P) (Q) (g) (h)),(1,91,NV (9)),(2,92,NV (xu)),(3,93,NV (k)),(4,94,CX (c) (y1) (z1)),(5,95,.int .i64 f),(6,26,.int .i64 f)] [] [] [] ?_ ?_
 ·exact oc (g_cl Zt (fun uZ=>hT.out uZ))<|oc (g_ld 5 uN iN)<|oc (g_ld 6 uN iN)<|oc (g_ld 8 uN iN)<|oc (g_ld 7 Tryz.underlying30 Z5)<|oc (g_cb Un (fun uZ bZ=>hK.out uZ bZ))<|oc g_as on
 intro u9 HB9 sz9 K9
 simp only[sQ] at K9⊢
 clear K8 HB8
 cases db
 case' false=>
  obtain rfl:=e4 rfl
  go_upto_region 11 with fail
  refine rgP K9 HB9 HB9.size [] [] [(0,96,.int .i64 f),(1,97,.bool true),(2,98,NV (ch)),(3,99,.pointer (some ⟨b3_12,0,none⟩)),(4,100,NV (c)),(5,101,.bool true),(6,102,.bool true),(7,103,.bool true),(8,104,NV (a)),(9,105,NV (d)),(10,106,.bool false),(11,107,.bool false),(12,108,.int .i64 f),(13,109,.bool true),(14,110,.bool true),(15,111,.bool true),(16,10,.bool true)] [] [] [] ?_ ?_
  ·exact oc g_mv<|oc (g_bn (fun uZ=>Yo _ _ _ f 0 true uZ e1))<|oc (g_ld 11 uN iN)<|oc (g_fd (fun uZ=>fdP0 _ uZ))<|oc (g_lo 7 0 uN iN)<|oc (g_bn (fun uZ=>eql_n _ _ ich ic true e2 uZ))<|oc (g_bn (fun uZ=>Ti _ _ true uZ))<|oc g_mv<|oc (g_ld 12 uN iN)<|oc (g_ld 13 uN iN)<|oc (g_bn (fun uZ=>neq_n _ _ ia id_ false e3 uZ))<|oc g_mv<|oc g_mv<|oc (g_bn (fun uZ=>Yo _ _ _ f 0 true uZ e1))<|oc g_pk<|oc g_pk<|oc g_as on
  intro u10 HB10 sz10 K10
  simp only[sQ] at K10⊢
  clear K9 HB9
  go_wp2
  refine bodyPost_ret (v:= .bool true) (by simp[results,Tryz.results8,go_sem,]) rfl ⟨rfl,HB10⟩
 case' true=>
  go_upto_region 11 with fail
  refine rgP K9 HB9 HB9.size [] [] [(0,96,.int .i64 f),(1,97,.bool fB),(2,98,NV (ch)),(3,99,.pointer (some ⟨b3_12,0,none⟩)),(4,100,NV (c)),(5,101,.bool fB),(6,102,.bool true),(7,103,.bool true),(8,104,NV (a)),(9,105,NV (d)),(10,106,.bool true),(11,107,.bool true),(12,108,undef),(13,109,undef),(14,110,(Go.Value.bool Bool.true)),(15,111,(Go.Value.bool Bool.true)),(16,10,(Go.Value.bool Bool.true))] [] [] [] ?_ ?_
  ·exact oc g_mv<|oc (g_bn (fun uZ=>Yo _ _ _ f 0 fB uZ e1))<|oc (g_ld 11 uN iN)<|oc (g_fd (fun uZ=>fdP0 _ uZ))<|oc (g_lo 7 0 uN iN)<|oc (g_bn (fun uZ=>eql_n _ _ ich ic fB e2 uZ))<|oc (g_bn (fun uZ=>Ti _ _ fB uZ))<|oc g_mv<|oc (g_ld 12 uN iN)<|oc (g_ld 13 uN iN)<|oc (g_bn (fun uZ=>neq_n _ _ ia id_ true e3 uZ))<|oc g_mv<|oc g_sk<|oc g_sk<|oc g_pk<|oc g_pk<|oc g_as on
  intro u10 HB10 sz10 K10
  simp only[sQ] at K10⊢
  clear K9 HB9
  go_wp2
  refine bodyPost_ret (v:= .bool true) (by simp[results,Tryz.results8,go_sem,]) rfl ⟨rfl,HB10⟩
theorem proofOther_any (s o t x y:Int) (w:World) (hs:In s) (ho:In o) (ht:In t) (hx:In x) (hy:In y) (hK:GK w):CC 8 #[NV s,NV o,NV t,NV x,NV y] w (.bool true):=by
 have mu:=pw_Mb X8 mbz9 s
 have mk:=cm_Mb X8 mbz4 mbzH o t
 have ic:=In_pvC 9 s t x y
 have iy:=To x (pvC P0 Q0 4 Hz 9 s t x y) s
 have iz:=To y (pvC P0 Q0 4 Hz 9 s t x y) t
 have hf:=ck_0 (c:=pvC P0 Q0 4 Hz 9 s t x y) (y:=pvY Q0 x (pvC P0 Q0 4 Hz 9 s t x y) s) (z:=pvY Q0 y (pvC P0 Q0 4 Hz 9 s t x y) t) mbz9 mu mk
 rw[ckB_low (pvC_lt 9 s t x y) (pvY_lt x _ s) (pvY_lt y _ t)] at hf
 refine other_core P0 Q0 4 Hz s o t x y _ _ _ _ _ _ _ _ (s%Q0) (o%Q0) _ _ (!decide (s%Q0=o%Q0)) w (fun u hB=>works13 u (hK.up hB)) (fun u=>cThez u) (fun u hB=>pProve0 9 s t x y u (hK.up hB) mbz9 hs ht hx hy) (fun u=>xCom0 o t u ho ht) (fun u hB=>pForge0 9 _ _ _ _ _ u (hK.up hB) mbz9 mu mk ic iy iz) (fun u v hB hv=>pCh0 [9,_,_,_,_] v u (hK.up hB) (by simp) hv.nl) (fun u v hB hv=>xSumZ Q0 s v u Yg Q0n hs hv.nl) (fun u v hB hv=>xSumZ Q0 o v u Yg Q0n ho hv.nl) (fun u hB=>pCk0 9 _ _ _ _ _ u (hK.up hB) mbz9 mu mk ic iy iz) (In_ch Yg _) ic (In_md Yg Q0n) (In_md Yg Q0n) hf rfl (by rw[Bool.not_not]) fun h=>?_
 have e:s%Q0=o%Q0:=by simpa using h
 rw[<-hf]
 have hk:cmN P0 Q0 4 Hz o t=cmN P0 Q0 4 Hz s t:=by unfold cmN;rw[pw_cong e]
 rw[hk,ck_pv X8 mbz4 mbzH mbz9 s t x y];rfl
theorem complete_core (P Q g h b s t x y xu c y1 z1 k:Int) (sl:Option Addr) (n cap m:Nat) (w:World) (hmin:min (n:Int) 100=(m:Int)) (hmn:m<=n) (hc:n<=cap) (hsn:sl=none->cap=0)(hW:Hid (∀u,Bw w u->CC 13 #[] u (.bool true)))(hT:Hid (∀u,CC 19 #[] u (GX P Q g h)))(hM:Hid (∀u,Bw w u->CC 18 #[GX P Q g h,.slice sl m cap] u (.tuple #[NV b,.int .i64 0])))(hP:Hid (∀u,Bw w u->CC 9 #[GX P Q g h,NV b,NV s,NV t,NV x,NV y] u (.tuple #[NV xu,CX c y1 z1,.int .i64 0])))(hE:Hid (∀u,CC 20 #[GX P Q g h,NV b,NV s] u (.tuple #[NV xu,.int .i64 0])))(hC:Hid (∀u,CC 21 #[GX P Q g h,NV s,NV t] u (.tuple #[NV k,.int .i64 0])))(hK:Hid (∀u,Bw w u->CC 16 #[GX P Q g h,NV b,NV xu,NV k,CX c y1 z1] u (.int .i64 0))):
 CC 5 #[.slice sl n cap,NV s,NV t,NV x,NV y] w (.bool true):=by
 go_enter Tryz.func5,Tryz.ntmps5
 go_upto_region 1 with fail
 obtain⟨v0,hC,HB0,K0⟩:=bx4 w (LN (s)) 24 (LN (t)) 24 (LN (x)) 24 (LN (y)) 24
 rw[hC]
 clear hC
 refine rgP K0 HB0 HB0.size [] [] [(0,20,.bool true),(1,21,.bool false)] [] [] [] ?_ ?_
 ·exact oc (g_cb ent_WA (fun uZ bZ=>hW.out uZ bZ))<|oc (g_un (fun uZ=>not_t uZ)) on
 intro u1 HB1 sz1 K1
 simp only[sQ] at K1⊢
 clear K0 HB0
 go_upto_region 3 with fail
 refine rgD K1 HB1 HB1.size [] [(10,11,L0s,some (11,LN (b)))] [(0,23,GX (P) (Q) (g) (h)),(1,24,.slice sl n cap),(2,25,.slice sl n cap),(3,26,.int .i64 (n:Int)),(4,27,.int .i64 (m:Int)),(5,28,.slice sl m cap),(6,29,.tuple #[NV (b),.int .i64 0]),(7,22,.tuple #[NV (b),.int .i64 0]),(8,30,NV (b)),(9,31,.int .i64 0),(12,12,.int .i64 0)] [(11,10)] [] [] ?_ ?_
 ·exact oc (g_cl Zt (fun uZ=>hT.out uZ))<|oc g_mv<|oc g_mv<|oc (g_ln Tryz.underlying43)<|oc (g_mn hmin)<|oc (g_sl (fun uZ=>slHG sl n cap m hmn hc hsn uZ))<|oc (g_cb ent_WE (fun uZ bZ=>hM.out uZ bZ))<|oc g_mv<|oc g_ex<|oc g_ex<|oc (g_al 0 aN)<|oc (g_sn 0 iN)<|oc g_as on
 intro u2 b2_10 HB2 sz2 K2
 simp only[sQ] at K2⊢
 clear K1 HB1
 go_upto_region 4 with fail
 refine rgD K2 HB2 HB2.size [] [(11,13,L0s,some (13,LN (xu))),(12,14,L0c,some (14,CE (c) (y1) (z1)))] [(0,33,GX (P) (Q) (g) (h)),(1,34,NV (b)),(2,35,NV (s)),(3,36,NV (t)),(4,37,NV (x)),(5,38,NV (y)),(6,39,.tuple #[NV (xu),CX (c) (y1) (z1),.int .i64 0]),(7,32,.tuple #[NV (xu),CX (c) (y1) (z1),.int .i64 0]),(8,40,NV (xu)),(9,41,CX (c) (y1) (z1)),(10,42,.int .i64 0),(15,15,.int .i64 0)] [(13,11),(14,12)] [] [] ?_ ?_
 ·exact oc (g_cl Zt (fun uZ=>hT.out uZ))<|oc (g_ld 4 uN iN)<|oc (g_ld 0 uN iN)<|oc (g_ld 1 uN iN)<|oc (g_ld 2 uN iN)<|oc (g_ld 3 uN iN)<|oc (g_cb ent_XC (fun uZ bZ=>hP.out uZ bZ))<|oc g_mv<|oc g_ex<|oc g_ex<|oc g_ex<|oc (g_al 0 aN)<|oc (g_al 1 Xj)<|oc (g_sn 0 iN)<|oc (g_sn 1 Z5)<|oc g_as on
 intro u3 b3_11 b3_12 HB3 sz3 K3
 simp only[sQ] at K3⊢
 clear K2 HB2
 go_upto_region 5 with fail
 refine rgD K3 HB3 HB3.size [] [(7,16,L0s,some (8,LN (xu)))] [(0,44,GX (P) (Q) (g) (h)),(1,45,NV (b)),(2,46,NV (s)),(3,47,.tuple #[NV (xu),.int .i64 0]),(4,43,.tuple #[NV (xu),.int .i64 0]),(5,48,NV (xu)),(6,49,.int .i64 0),(9,17,.int .i64 0)] [(8,7)] [] [] ?_ ?_
 ·exact oc (g_cl Zt (fun uZ=>hT.out uZ))<|oc (g_ld 4 uN iN)<|oc (g_ld 0 uN iN)<|oc (g_cl ent_WF (fun uZ=>hE.out uZ))<|oc g_mv<|oc g_ex<|oc g_ex<|oc (g_al 0 aN)<|oc (g_sn 0 iN)<|oc g_as on
 intro u4 b4_7 HB4 sz4 K4
 simp only[sQ] at K4⊢
 clear K3 HB3
 go_upto_region 6 with fail
 refine rgD K4 HB4 HB4.size [] [(7,18,L0s,some (8,LN (k)))] [(0,51,GX (P) (Q) (g) (h)),(1,52,NV (s)),(2,53,NV (t)),(3,54,.tuple #[NV (k),.int .i64 0]),(4,50,.tuple #[NV (k),.int .i64 0]),(5,55,NV (k)),(6,56,.int .i64 0),(9,19,.int .i64 0)] [(8,7)] [] [] ?_ ?_
 ·exact oc (g_cl Zt (fun uZ=>hT.out uZ))<|oc (g_ld 0 uN iN)<|oc (g_ld 1 uN iN)<|oc (g_cl ent_XE (fun uZ=>hC.out uZ))<|oc g_mv<|oc g_ex<|oc g_ex<|oc (g_al 0 aN)<|oc (g_sn 0 iN)<|oc g_as on
 intro u5 b5_7 HB5 sz5 K5
 simp only[sQ] at K5⊢
 clear K4 HB4
 go_upto_region 7 with fail
 refine rgD K5 HB5 HB5.size [] [] [(0,57,.int .i64 0),(1,58,.bool true),(2,59,.bool true),(3,60,NV (xu)),(4,61,NV (xu)),(5,62,.bool true),(6,63,.bool true),(7,64,.bool true),(8,65,GX (P) (Q) (g) (h)),(9,66,NV (b)),(10,67,NV (xu)),(11,68,NV (k)),(12,69,CX (c) (y1) (z1)),(13,70,.int .i64 0),(14,71,.bool true),(15,72,.bool true),(16,10,.bool true)] [] [] [] ?_ ?_
 ·exact oc g_mv<|oc (g_bn (fun uZ=>Yo _ _ _ 0 0 _ uZ rfl))<|oc g_mv<|oc (g_ld 5 uN iN)<|oc (g_ld 7 uN iN)<|oc (g_bn (fun uZ=>eql_same _ _ (xu) uZ))<|oc g_pk<|oc g_mv<|oc (g_cl Zt (fun uZ=>hT.out uZ))<|oc (g_ld 4 uN iN)<|oc (g_ld 5 uN iN)<|oc (g_ld 8 uN iN)<|oc (g_ld 6 Tryz.underlying30 Z5)<|oc (g_cb Un (fun uZ bZ=>hK.out uZ bZ))<|oc (g_bn (fun uZ=>Yo _ _ _ 0 0 true uZ rfl))<|oc g_pk<|oc g_as on
 intro u6 HB6 sz6 K6
 simp only[sQ] at K6⊢
 clear K5 HB5
 go_wp2
 refine bodyPost_ret (v:= .bool true) (by simp[results,Tryz.results5,go_sem,]) rfl ⟨rfl,HB6⟩
theorem xMem0 (bs:List Nat) (v:Value) (w:World) (hin:IN w w.heap.size v bs) (hb: ∀x∈bs,x<256) (hl:bs.length<=100):CC 18 #[GX P0 Q0 4 Hz,v] w (.tuple #[NV (meN P0 bs),.int .i64 0]):=by
 have:=xMemberG P0 Q0 4 Hz bs v w X7 Yg hin hb (by omega)
 rwa [show chE P0 Q0=0 from if_pos X8,show meX P0 Q0 bs=meN P0 bs from if_pos X8] at this
theorem Ux (sl:Option Addr) (n cap m:Nat) (ys:List Nat) (s t x y:Int) (w:World) (hmin:min (n:Int) 100=(m:Int)) (hmn:m<=n) (hc:n<=cap) (hsn:sl=none->cap=0) (hin: ∀u,Bw w u->IN u u.heap.size (.slice sl m cap) ys) (hb: ∀x∈ys,x<256) (hl:ys.length<=100) (hs:In s) (ht:In t) (hx:In x) (hy:In y) (hK:GK w):CC 5 #[.slice sl n cap,NV s,NV t,NV x,NV y] w (.bool true):=by
 have mb:=meN_Mb pr0 X8 ys
 have mu:=pw_Mb X8 mb s
 have mk:=cm_Mb X8 mbz4 mbzH s t
 refine complete_core P0 Q0 4 Hz (meN P0 ys) s t x y _ _ _ _ _ sl n cap m w hmin hmn hc hsn (fun u hB=>works13 u (hK.up hB)) (fun u=>cThez u) (fun u hB=>xMem0 ys _ u (hin u hB) hb hl) (fun u hB=>pProve0 _ s t x y u (hK.up hB) mb hs ht hx hy) (fun u=>?_) (fun u=>xCom0 s t u hs ht) fun u hB=>?_
 ·have:=xExpG P0 Q0 4 Hz (meN P0 ys) s u X7 Yg In_n4 In_Hz (InMb X7 mb) hs
  rw[(exP_k s (Yx X8 mb)).1,(exP_k s (Yx X8 mb)).2] at this
  exact this
 ·have:=pCk0 (meN P0 ys) _ _ _ _ _ u (hK.up hB) mb mu mk (In_pvC (meN P0 ys) s t x y) (To x (pvC P0 Q0 4 Hz (meN P0 ys) s t x y) s) (To y (pvC P0 Q0 4 Hz (meN P0 ys) s t x y) t)
  rwa [ck_pv X8 mbz4 mbzH mb s t x y] at this
def PGI (ys:List Nat) (u:World) (v:Value):Prop:=IN u u.heap.size v ys
theorem PGI.stab {ys:List Nat} {u u2:World} {x:Value} (hB:Bw u u2) (h:PGI ys u x):PGI ys u2 x:=(IN.below h hB).mono hB.size
theorem PO.nl {base:Nat} {ns:List Int} {u:World} {x:Value} (h:PO base ns u x):NL u x ns:=by
 have h2:=h.2
 obtain⟨b,c,rfl,hb,hs⟩:=h.at
 have hc:ns.length<=c:=by
  rcases h2.2 with⟨e,_⟩ | ⟨g,cap,cur,e,_,_,hle,_⟩
  ·cases e
  ·cases e;exact hle
 exact⟨_,b,0,c,rfl,hc,(fun e=>by cases e),.inr rfl,.inr hb,hs⟩
end
section
open Go.ChangeShapes Go.WideShapes Go.ChangeAt Go.RowKit
theorem own4:ownKnob Tryz.prog.godebug=none:=by kernel_rfl
theorem Wg:laidOutB Tryz.prog=true:=by kernel_rfl
abbrev lstG:List (String×DataW Unit):=[("math/bits.deBruijn32tab",Rows.laid_math_bits_deBruijn32tab),("math/bits.deBruijn64tab",Rows.laid_math_bits_deBruijn64tab),("internal/strconv.uint64pow10",Rows.laid_internal_strconv_uint64pow10),("seneschal/sha.constants",Rows.laid_seneschal_sha_constants),("seneschal/sha.first",Rows.laid_seneschal_sha_first)]
theorem gCon:Tryz.prog.globalNamed "seneschal/sha.constants" =some 6:=by kernel_rfl
theorem gFir:Tryz.prog.globalNamed "seneschal/sha.first" =some 3:=by kernel_rfl
theorem tCon:(Tryz.prog.globals[6]?).map (·.type)=some 197:=by kernel_rfl
theorem tFir:(Tryz.prog.globals[3]?).map (·.type)=some 164:=by kernel_rfl
theorem tPow:(Tryz.prog.globals[2]?).map (·.type)=some 186:=by kernel_rfl
theorem powIs:(Rows.laid_internal_strconv_uint64pow10:DataW Unit)=Lib.tabData .u64 Lib.pow10Tab:=by kernel_rfl
def lits {H:Type} (ks:List Nat):DataW H:= .agg (ks.map fun(k:Nat)=>.lit (.int .u32 (k:Int)))
theorem con_is {H:Type}:(Rows.laid_seneschal_sha_constants:DataW H)=lits kcs:=by kernel_rfl
theorem fir_is {H:Type}:(Rows.laid_seneschal_sha_first:DataW H)=lits fst8:=by kernel_rfl
theorem cells32:Tryz.prog.cellsOf 163=1:=by kernel_rfl
theorem arr_cells {H:Type} {enc:TypeId×Value->H} {W:World} {base fuel:Nat} {sp:Nat->Bool} {held:Bool} {t:TypeId} {n:Nat} (ht:Tryz.prog.underlying t=some (.array n 163)) {cs:List Value} {ks:List Nat} {pl:List MemPlace} (h:DataW.trod enc Tryz.prog W base sp held fuel t cs=some (lits ks,pl)) (hk:ks.length=n): ∀i,i<n->cs[i]?=some (.int .u32 ((ks.getD i 0:Nat):Int)):=fun i hi=>by
 obtain⟨xs,m,rfl,hx,hlen,hn,hel⟩:=DataW.trod_array ht h
 simp only[Prod.mk.injEq,lits,DataW.agg.injEq] at hx
 have h1:=hel i hi
 rw[cells32,Nat.mul_one,List.getElem?_eq_getElem (by omega)] at h1
 obtain⟨k,e1,e2,_⟩:=DataW.trod_int Tryz.underlying163 h1
 have e3:(xs.map (·.1))[i]?=some (.lit (.int .u32 k)):=by
  rw[List.getElem?_map,List.getElem?_eq_getElem (by omega)]
  simp[e2]
 rw[<-hx.1,List.getElem?_map,List.getElem?_eq_getElem (by omega)] at e3
 simp at e3
 have e4:(cs.drop i)[0]?=some (.int .u32 k):=by
  have:((cs.drop i).take 1)[0]?=some (.int .u32 k):=by rw[e1];rfl
  rwa [List.getElem?_take_of_lt (by omega)] at this
 rw[List.getElem?_drop,Nat.add_zero] at e4
 rw[e4,List.getD_eq_getElem?_getD,List.getElem?_eq_getElem (by omega),<-e3]
 rfl
structure GG (w:World):Prop where
 v:GV w
 t:GT w
 sz:0<w.heap.size
theorem of_laidG {W:World} (h:laidMetH Tryz.prog lstG W):GG W:=by
 rw[MakeChecks.laidMetH_plain _ _ _ (by kernel_rfl)] at h
 obtain⟨ps,⟨g0,t0,cs0,f0,p0,q0,hg0,ht0,hv0,hd0,⟨g1,t1,cs1,f1,p1,q1,hg1,ht1,hv1,hd1,⟨g2,t2,cs2,f2,p2,q2,hg2,ht2,hv2,hd2,⟨g3,t3,cs3,f3,p3,q3,hg3,ht3,hv3,hd3,⟨g4,t4,cs4,f4,p4,q4,hg4,ht4,hv4,hd4,_,_⟩,_⟩,_⟩,_⟩,_⟩,_,_⟩:=h
 obtain rfl:=Option.some.inj (gPowG.symm.trans hg2)
 obtain rfl:=Option.some.inj (tPow.symm.trans ht2)
 obtain rfl:=Option.some.inj (gCon.symm.trans hg3)
 obtain rfl:=Option.some.inj (gFir.symm.trans hg4)
 obtain rfl:=Option.some.inj (tCon.symm.trans ht3)
 obtain rfl:=Option.some.inj (tFir.symm.trans ht4)
 rw[powIs] at hd2
 rw[con_is] at hd3
 rw[fir_is] at hd4
 have htab:Lib.TabIs Tryz.prog W "internal/strconv.uint64pow10" .u64 Lib.pow10Tab:=by
  unfold Lib.TabIs
  rw[hv2,<-Lib.cells_of_tab Tryz.underlying186 Tryz.underlying22 (by kernel_rfl) (by kernel_rfl) hd2]
 have hc2:=htab.cell gPowG 0 (by rw[Lib.pow10Tab_length];omega)
 have k0:=arr_cells Tryz.underlying197 hd3 rfl
 have k1:=arr_cells Tryz.underlying164 hd4 rfl
 have c0: ∀t,t<64->W.cell? ⟨6,t,none⟩=some (.int .u32 ((kcs.getD t 0:Nat):Int)):=fun t ht=>by
  rw[World.var?_cell hg3 hv3 t,<-Array.getElem?_toList];exact k0 t ht
 have c1: ∀t,t<8->W.cell? ⟨3,t,none⟩=some (.int .u32 ((fst8.getD t 0:Nat):Int)):=fun t ht=>by
  rw[World.var?_cell hg4 hv4 t,<-Array.getElem?_toList];exact k1 t ht
 have s0:6<W.heap.size:=World.block_lt_of_cell? W _ (c0 0 (by decide))
 have s1:3<W.heap.size:=World.block_lt_of_cell? W _ (c1 0 (by decide))
 exact⟨⟨by omega,c0,c1⟩,⟨World.block_lt_of_cell? W _ hc2,htab⟩,by omega⟩
theorem doorG (os:Go.Os) (args:Array Value):laidMetH Tryz.prog lstG ((World.doorLaid Tryz.prog 400 os).forCall (fun _ _=>0) ⟨#[],args,[]⟩).memory:=
 laidMetH_of_parts3 (fuel:=8) (laidMet_of_run' 8 (by kernel_rfl) (by kernel_rfl)) (by kernel_rfl) (by kernel_rfl)
theorem cells8:Tryz.prog.cellsOf 5=1:=by kernel_rfl
theorem open_by {H:Type} {enc:TypeId×Value->H} {W:World} {base:Nat} {v:Value} {x:DataW H} {p:List MemPlace} (h1:0<W.heap.size) (hv:Value.okWide Tryz.prog W .any base 43 v) (h:DataW.Trod enc Tryz.prog W 0 (fun _=>true) true 43 v x p):
 ∃sl cap gb go,∃xs:List Nat,v= .slice sl xs.length cap/\xs.length<=cap/\(sl=none->cap=0)/\(xs.length=0\/sl=some ⟨gb,go,none⟩)/\gb<W.heap.size/\SB W gb go xs/\ ∀x∈xs,x<256:=by
 obtain⟨a0,len,cap,rfl⟩:=okWide_slice Tryz.underlying43 hv
 obtain⟨fuel,hf⟩:=h
 rcases Go.Deep.open_slice1 Tryz.underlying43 cells8 hf with⟨hcs,hx⟩ | ⟨ad,len',cap',m,n,V,D,Pl,hcs,hbs,hl,hm,hmm,hx,hall⟩
 ·simp[Value.cells] at hcs
  obtain⟨rfl,rfl,rfl⟩:=hcs
  exact⟨_,_,0,0,[],rfl,Nat.le_refl _,fun _=>rfl,.inl rfl,h1,fun j hj=>by simp at hj,fun x hx=>by simp at hx⟩
 ·simp[Value.cells] at hcs
  obtain⟨rfl,rfl,rfl⟩:=hcs
  simp only[if_true] at hmm
  by_cases h0:cap=0
  ·subst h0
   have e:len=0:=by omega
   subst e
   exact⟨_,_,0,0,[],rfl,Nat.le_refl _,fun _=>rfl,.inl rfl,h1,fun j hj=>by simp at hj,fun x hx=>by simp at hx⟩
  ·have hrow: ∀i,i<cap-> ∃k:Nat,k<256/\W.cell? (ad.add i)=some (.int .u8 (k:Int)):=fun i hi=>by
    obtain⟨k1,k2⟩:=hall i (by omega)
    obtain⟨k,e1,e2,e3⟩:=DataW.trod_int Tryz.underlying5 k2
    simp at e1
    have e3:0<=k/\k<256:=by
     simp[Lit.wf,IntKind.min,IntKind.max,IntKind.signed,IntKind.bits] at e3
     omega
    refine⟨k.toNat,by omega,?_⟩
    rw[k1,e1,show ((k.toNat:Nat):Int)=k by omega]
   obtain⟨gb,go,spot⟩:=ad
   have hspot:spot=none:=by
    obtain⟨z,_,hz⟩:=hrow 0 (by omega)
    simpa [Addr.add] using World.cell?_spot hz
   subst hspot
   have hadd: ∀i:Nat,((⟨gb,go,none⟩:Addr).add i)=⟨gb,go+i,none⟩:=fun i=>by unfold Addr.add;(repeat' split)<;>simp_all
   have hlist: ∀n,n<=cap-> ∃xs:List Nat,xs.length=n/\(∀x∈xs,x<256)/\SB W gb go xs:=fun n=>by
    induction n with
    | zero=>exact fun _=>⟨[],rfl,fun x hx=>by simp at hx,fun j hj=>by simp at hj⟩
    | succ n ih=>
     intro hn
     obtain⟨xs,e1,e2,e3⟩:=ih (by omega)
     obtain⟨k,hk,hc⟩:=hrow n (by omega)
     rw[hadd] at hc
     refine⟨xs++[k],by simp[e1],fun x hx=>?_,fun j hj=>?_⟩
     ·rcases List.mem_append.1 hx with h | h
      ·exact e2 x h
      ·simp at h;omega
     ·by_cases hj2:j<xs.length
      ·rw[e3 j hj2]
       simp[List.getElem?_append_left hj2]
      ·have:j=n:=by simp at hj;omega
       subst this
       rw[hc]
       simp[<-e1]
   obtain⟨xs,e1,e2,e3⟩:=hlist len (by omega)
   have hblk:gb<W.heap.size:=by
    obtain⟨z,_,hz⟩:=hrow 0 (by omega)
    rw[hadd] at hz
    exact World.block_lt_of_cell? W _ hz
   subst e1
   exact⟨_,_,gb,go,xs,rfl,hl,fun e=>(by cases e),.inr rfl,hblk,e3,e2⟩
theorem in_pre (L:Nat) {sl:Option Addr} {cap gb go:Nat} {xs:List Nat} {W:World} (k1:xs.length<=cap) (k3:xs.length=0\/sl=some ⟨gb,go,none⟩) (k4:gb<W.heap.size) (k5:SB W gb go xs): ∀u,Bw W u->IN u u.heap.size (.slice sl (xs.take L).length cap) (xs.take L):=fun u hB=>by
 have hl:(xs.take L).length<=xs.length:=by rw[List.length_take];omega
 refine⟨sl,cap,gb,go,rfl,by omega,k3.imp (fun h=>by omega) id,Nat.lt_of_lt_of_le k4 hB.size,fun j hj=>?_⟩
 have hj3:j<L:=by rw[List.length_take] at hj;omega
 rw[hB.cell (p:=⟨gb,go+j,none⟩) k4,k5 j (by omega)]
 simp[List.getElem?_take_of_lt hj3]
theorem min_pre (L:Nat) (xs:List Nat):min (xs.length:Int) L=((xs.take L).length:Int)/\(xs.take L).length<=xs.length/\(xs.take L).length<=L:=by rw[List.length_take];omega
theorem flN_atg: ∀(ns:List Int) (j:Nat) (v:Value),(flN ns)[j]?=some v->j/4<ns.length/\(LN (ns.getD (j/4) 0))[j%4]?=some v
 | [],j,v,h=>by simp[flN] at h
 | n::r,j,v,h=>by
  rw[flN] at h
  by_cases hj:j<4
  ·rw[List.getElem?_append_left (by show j<4;exact hj)] at h
   rw[show j/4=0 by omega,show j%4=j by omega]
   exact⟨by simp,by simpa using h⟩
  ·rw[List.getElem?_append_right (by show 4<=j;omega)] at h
   have h:(flN r)[j -4]?=some v:=h
   have:=flN_atg r (j -4) v h
   rw[show j/4=(j -4)/4+1 by omega,show j%4=(j -4)%4 by omega]
   exact⟨by simpa using this.1,by simpa using this.2⟩
theorem SN.of {w:World} {g o:Nat} {ns:List Int} (h: ∀i,i<ns.length-> ∀c v,(LN (ns.getD i 0))[c]?=some v->w.cell? ⟨g,o+(i*4+c),none⟩=some v):SN w g o ns:=fun j v hj=>by
 obtain⟨h1,h2⟩:=flN_atg ns j v hj
 have:=h _ h1 _ v h2
 rwa [show j/4*4+j%4=j by omega] at this
end
section
open Go.RowKit
theorem sound_core (P Q g h b xu k c y z xv w2 ch f:Int) (b1 b2 b3 cB:Bool) (s1:Option Addr) (n1 p1 m1:Nat) (s2:Option Addr) (n2 p2 m2:Nat) (s3:Option Addr) (n3 p3 m3:Nat) (w:World) (hi1:min (n1:Int) 100=(m1:Int)) (hm1:m1<=n1) (hc1:n1<=p1) (hs1:s1=none->p1=0)(hi2:min (n2:Int) 100=(m2:Int)) (hm2:m2<=n2) (hc2:n2<=p2) (hs2:s2=none->p2=0)(hi3:min (n3:Int) 100=(m3:Int)) (hm3:m3<=n3) (hc3:n3<=p3) (hs3:s3=none->p3=0)(hW:Hid (∀u,Bw w u->CC 13 #[] u (.bool true)))(hT:Hid (∀u,CC 19 #[] u (GX P Q g h)))(hM1:Hid (∀u,Bw w u->CC 18 #[GX P Q g h,.slice s1 m1 p1] u (.tuple #[NV b,.int .i64 0])))(hM2:Hid (∀u,Bw w u->CC 18 #[GX P Q g h,.slice s2 m2 p2] u (.tuple #[NV xu,.int .i64 0])))(hM3:Hid (∀u,Bw w u->CC 18 #[GX P Q g h,.slice s3 m3 p3] u (.tuple #[NV k,.int .i64 0])))(hF:Hid (∀u,Bw w u->CC 14 #[GX P Q g h,NV b,NV xu,NV k,NV c,NV y,NV z] u (.tuple #[NV xv,NV w2,.int .i64 0])))(hCh:Hid (∀u v,Bw w u->PFr 0 [b,xu,k,xv,w2] u v->CC 11 #[GX P Q g h,v] u (.tuple #[NV ch,.int .i64 0])))(hK1:Hid (∀u,CC 22 #[NV c,NV Q] u (.int .i64 (cmpI c Q))))(hK2:Hid (∀u,CC 22 #[NV y,NV Q] u (.int .i64 (cmpI y Q))))(hK3:Hid (∀u,CC 22 #[NV z,NV Q] u (.int .i64 (cmpI z Q))))(hK:Hid (∀u,Bw w u->CC 16 #[GX P Q g h,NV b,NV xu,NV k,CX c y z] u (.int .i64 f)))(ich:In ch) (ic:In c) (e1:decide (cmpI c Q<0)=b1) (e2:decide (cmpI y Q<0)=b2) (e3:decide (cmpI z Q<0)=b3) (e4:decide (ch=c)=cB) (ef:(f==0)=(b1&&(b2&&(b3&&cB)))):
 CC 6 #[.slice s1 n1 p1,.slice s2 n2 p2,.slice s3 n3 p3,CX c y z] w (.bool true):=by
 go_enter Tryz.func6,Tryz.ntmps6
 go_upto_region 1 with fail
 obtain⟨v0,hC,HB0,K0⟩:=bx1 w (CE (c) (y) (z)) 30
 rw[hC]
 clear hC
 refine rgP K0 HB0 HB0.size [] [] [(0,22,.bool true),(1,23,.bool false)] [] [] [] ?_ ?_
 ·exact oc (g_cb ent_WA (fun uZ bZ=>hW.out uZ bZ))<|oc (g_un (fun uZ=>not_t uZ)) on
 intro u1 HB1 sz1 K1
 simp only[sQ] at K1⊢
 clear K0 HB0
 go_upto_region 3 with fail
 refine rgD K1 HB1 HB1.size [] [(10,9,L0s,some (11,LN (b)))] [(0,25,GX (P) (Q) (g) (h)),(1,26,.slice s1 n1 p1),(2,27,.slice s1 n1 p1),(3,28,.int .i64 (n1:Int)),(4,29,.int .i64 (m1:Int)),(5,30,.slice s1 m1 p1),(6,31,.tuple #[NV (b),.int .i64 0]),(7,24,.tuple #[NV (b),.int .i64 0]),(8,32,NV (b)),(9,33,.int .i64 0),(12,10,.int .i64 0)] [(11,10)] [] [] ?_ ?_
 ·exact oc (g_cl Zt (fun uZ=>hT.out uZ))<|oc g_mv<|oc g_mv<|oc (g_ln Tryz.underlying43)<|oc (g_mn hi1)<|oc (g_sl (fun uZ=>slHG s1 n1 p1 m1 hm1 hc1 hs1 uZ))<|oc (g_cb ent_WE (fun uZ bZ=>hM1.out uZ bZ))<|oc g_mv<|oc g_ex<|oc g_ex<|oc (g_al 0 aN)<|oc (g_sn 0 iN)<|oc g_as on
 intro u2 b2_10 HB2 sz2 K2
 simp only[sQ] at K2⊢
 clear K1 HB1
 go_upto_region 4 with fail
 refine rgD K2 HB2 HB2.size [] [(10,11,L0s,some (11,LN (xu)))] [(0,35,GX (P) (Q) (g) (h)),(1,36,.slice s2 n2 p2),(2,37,.slice s2 n2 p2),(3,38,.int .i64 (n2:Int)),(4,39,.int .i64 (m2:Int)),(5,40,.slice s2 m2 p2),(6,41,.tuple #[NV (xu),.int .i64 0]),(7,34,.tuple #[NV (xu),.int .i64 0]),(8,42,NV (xu)),(9,43,.int .i64 0),(12,12,.int .i64 0)] [(11,10)] [] [] ?_ ?_
 ·exact oc (g_cl Zt (fun uZ=>hT.out uZ))<|oc g_mv<|oc g_mv<|oc (g_ln Tryz.underlying43)<|oc (g_mn hi2)<|oc (g_sl (fun uZ=>slHG s2 n2 p2 m2 hm2 hc2 hs2 uZ))<|oc (g_cb ent_WE (fun uZ bZ=>hM2.out uZ bZ))<|oc g_mv<|oc g_ex<|oc g_ex<|oc (g_al 0 aN)<|oc (g_sn 0 iN)<|oc g_as on
 intro u3 b3_10 HB3 sz3 K3
 simp only[sQ] at K3⊢
 clear K2 HB2
 go_upto_region 5 with fail
 refine rgD K3 HB3 HB3.size [] [(10,13,L0s,some (11,LN (k)))] [(0,45,GX (P) (Q) (g) (h)),(1,46,.slice s3 n3 p3),(2,47,.slice s3 n3 p3),(3,48,.int .i64 (n3:Int)),(4,49,.int .i64 (m3:Int)),(5,50,.slice s3 m3 p3),(6,51,.tuple #[NV (k),.int .i64 0]),(7,44,.tuple #[NV (k),.int .i64 0]),(8,52,NV (k)),(9,53,.int .i64 0),(12,14,.int .i64 0)] [(11,10)] [] [] ?_ ?_
 ·exact oc (g_cl Zt (fun uZ=>hT.out uZ))<|oc g_mv<|oc g_mv<|oc (g_ln Tryz.underlying43)<|oc (g_mn hi3)<|oc (g_sl (fun uZ=>slHG s3 n3 p3 m3 hm3 hc3 hs3 uZ))<|oc (g_cb ent_WE (fun uZ bZ=>hM3.out uZ bZ))<|oc g_mv<|oc g_ex<|oc g_ex<|oc (g_al 0 aN)<|oc (g_sn 0 iN)<|oc g_as on
 intro u4 b4_10 HB4 sz4 K4
 simp only[sQ] at K4⊢
 clear K3 HB3
 go_upto_region 6 with fail
 refine rgD K4 HB4 HB4.size [] [(15,15,L0s,some (17,LN (xv))),(16,16,L0s,some (18,LN (w2)))] [(0,55,GX (P) (Q) (g) (h)),(1,56,NV (b)),(2,57,NV (xu)),(3,58,NV (k)),(4,59,.pointer (some ⟨w.heap.size,0,none⟩)),(5,60,NV (c)),(6,61,.pointer (some ⟨w.heap.size,4,none⟩)),(7,62,NV (y)),(8,63,.pointer (some ⟨w.heap.size,8,none⟩)),(9,64,NV (z)),(10,65,.tuple #[NV (xv),NV (w2),.int .i64 0]),(11,54,.tuple #[NV (xv),NV (w2),.int .i64 0]),(12,66,NV (xv)),(13,67,NV (w2)),(14,68,.int .i64 0),(19,17,.int .i64 0)] [(17,15),(18,16)] [] [] ?_ ?_
 ·exact oc (g_cl Zt (fun uZ=>hT.out uZ))<|oc (g_ld 1 uN iN)<|oc (g_ld 2 uN iN)<|oc (g_ld 3 uN iN)<|oc (g_fd (fun uZ=>fdP0 _ uZ))<|oc (g_lo 0 0 uN iN)<|oc (g_fd (fun uZ=>fdP1 _ uZ))<|oc (g_lo 0 4 uN iN)<|oc (g_fd (fun uZ=>fdP2 _ uZ))<|oc (g_lo 0 8 uN iN)<|oc (g_cb ent_WB (fun uZ bZ=>hF.out uZ bZ))<|oc g_mv<|oc g_ex<|oc g_ex<|oc g_ex<|oc (g_al 0 aN)<|oc (g_al 1 aN)<|oc (g_sn 0 iN)<|oc (g_sn 1 iN)<|oc g_as on
 intro u5 b5_15 b5_16 HB5 sz5 K5
 simp only[sQ] at K5⊢
 clear K4 HB4
 go_upto_region 7 with fail
 refine rgE K5 HB5 HB5.size [] [(11,18,L0s,some (12,LN (ch)))] [(0,70,GX (P) (Q) (g) (h)),(1,71,NV (b)),(2,72,NV (xu)),(3,73,NV (k)),(4,74,NV (xv)),(5,75,NV (w2)),(7,77,.tuple #[NV (ch),.int .i64 0]),(8,69,.tuple #[NV (ch),.int .i64 0]),(9,78,NV (ch)),(10,79,.int .i64 0),(13,19,.int .i64 0)] [(12,11)] [] [⟨6,76,some 7,PFr 0 [b,xu,k,xv,w2]⟩] [] (.cons (fun _ _ _ h1 h2=>h2.stab h1)<|Stab.nil) ?_ ?_
 ·exact oc (g_cl Zt (fun uZ=>hT.out uZ))<|oc (g_ld 1 uN iN)<|oc (g_ld 2 uN iN)<|oc (g_ld 3 uN iN)<|oc (g_ld 4 uN iN)<|oc (g_ld 5 uN iN)<|oc (g_bR 0 (PFr 0 [b,xu,k,xv,w2]) [0,1,2,3,4] [NV b,NV xu,NV k,NV xv,NV w2] (flN [b,xu,k,xv,w2]) (bsF5 b xu k xv w2) (fun u hu=>PFr.new 0 [b,xu,k,xv,w2] u 24 (Nat.zero_le _)))<|oc (g_c2 0 (PFr 0 [b,xu,k,xv,w2]) ent_WC (fun uZ yv bZ hy=>hCh.out uZ yv bZ hy))<|oc g_mv<|oc g_ex<|oc g_ex<|oc (g_al 0 aN)<|oc (g_sn 0 iN)<|oc g_as on
 intro u6 b6_11 v6_6 hv6_6 HB6 sz6 K6
 simp only[sQ] at K6⊢
 clear K5 HB5
 go_upto_region 8 with fail
 refine rgP K6 HB6 HB6.size [] [(2,20,L0s,some (3,LN (Q)))] [(0,80,GX (P) (Q) (g) (h)),(1,81,NV (Q))] [(3,2)] [] [] ?_ ?_
 ·exact oc (g_cl Zt (fun uZ=>hT.out uZ))<|oc (g_op (fun ev uZ he=>fldQp uZ rfl (he _ _ rfl)))<|oc (g_al 0 aN)<|oc (g_sn 0 iN) on
 intro u7 b7_2 HB7 sz7 K7
 simp only[sQ] at K7⊢
 clear K6 HB6
 cases b1
 ·skip
  go_upto_region 9 with fail
  refine rgP K7 HB7 HB7.size [] [] [(0,82,.pointer (some ⟨w.heap.size,0,none⟩)),(1,83,NV (c)),(2,84,NV (Q)),(3,85,.int .i64 (cmpI c Q)),(4,86,.bool false),(5,87,.bool false),(6,88,undef),(7,89,undef),(8,90,undef),(9,91,undef),(10,92,undef),(11,93,(Go.Value.bool Bool.false)),(12,94,(Go.Value.bool Bool.false)),(13,95,undef),(14,96,undef),(15,97,undef),(16,98,undef),(17,99,undef),(18,100,(Go.Value.bool Bool.false)),(19,21,(Go.Value.bool Bool.false))] [] [] [] ?_ ?_
  ·exact oc (g_fd (fun uZ=>fdP0 _ uZ))<|oc (g_lo 0 0 uN iN)<|oc (g_ld 7 uN iN)<|oc (g_cl Uo (fun uZ=>hK1.out uZ))<|oc (g_bn (fun uZ=>Zc _ _ (cmpI c Q) 0 false uZ e1))<|oc g_mv<|oc g_sk<|oc g_sk<|oc g_sk<|oc g_sk<|oc g_sk<|oc g_pk<|oc g_mv<|oc g_sk<|oc g_sk<|oc g_sk<|oc g_sk<|oc g_sk<|oc g_pk<|oc g_as on
  intro u8 HB8 sz8 K8
  simp only[sQ] at K8⊢
  clear K7 HB7
  have hf:=ef
  go_upto_region 10 with fail
  refine rgD K8 HB8 HB8.size [] [] [(0,101,.int .i64 0),(1,102,.bool true),(2,103,.bool true),(3,104,.int .i64 0),(4,105,.bool true),(5,106,.bool true),(6,107,.bool true),(7,108,GX (P) (Q) (g) (h)),(8,109,NV (b)),(9,110,NV (xu)),(10,111,NV (k)),(11,112,CX (c) (y) (z)),(12,113,.int .i64 f),(13,114,.bool false),(14,115,(Go.Value.bool Bool.false)),(15,116,(Go.Value.bool Bool.false)),(16,117,undef),(17,118,undef),(18,119,undef),(19,120,undef),(20,121,(Go.Value.bool Bool.false)),(21,122,.bool true),(22,123,.bool true),(23,8,.bool true)] [] [] [] ?_ ?_
  ·exact oc g_mv<|oc (g_bn (fun uZ=>Yo _ _ _ 0 0 true uZ rfl))<|oc g_mv<|oc g_mv<|oc (g_bn (fun uZ=>Yo _ _ _ 0 0 true uZ rfl))<|oc g_pk<|oc g_mv<|oc (g_cl Zt (fun uZ=>hT.out uZ))<|oc (g_ld 1 uN iN)<|oc (g_ld 2 uN iN)<|oc (g_ld 3 uN iN)<|oc (g_ld 0 Tryz.underlying30 Z5)<|oc (g_cb Un (fun uZ bZ=>hK.out uZ bZ))<|oc (g_bn (fun uZ=>Yo _ _ _ f 0 false uZ hf))<|oc g_mv<|oc g_mv<|oc g_sk<|oc g_sk<|oc g_sk<|oc g_sk<|oc g_pk<|oc (g_bn (fun uZ=>Ti _ _ false uZ))<|oc g_pk<|oc g_as on
  intro u9 HB9 sz9 K9
  simp only[sQ] at K9⊢
  clear K8 HB8
  go_wp2
  refine bodyPost_ret (v:= .bool true) (by simp[results,Tryz.results6,go_sem,]) rfl ⟨rfl,HB9⟩
 ·skip
  cases b2
  ·skip
   go_upto_region 9 with fail
   refine rgP K7 HB7 HB7.size [] [] [(0,82,.pointer (some ⟨w.heap.size,0,none⟩)),(1,83,NV (c)),(2,84,NV (Q)),(3,85,.int .i64 (cmpI c Q)),(4,86,.bool true),(5,87,.bool true),(6,88,.pointer (some ⟨w.heap.size,4,none⟩)),(7,89,NV (y)),(8,90,NV (Q)),(9,91,.int .i64 (cmpI y Q)),(10,92,.bool false),(11,93,.bool false),(12,94,.bool false),(13,95,undef),(14,96,undef),(15,97,undef),(16,98,undef),(17,99,undef),(18,100,(Go.Value.bool Bool.false)),(19,21,(Go.Value.bool Bool.false))] [] [] [] ?_ ?_
   ·exact oc (g_fd (fun uZ=>fdP0 _ uZ))<|oc (g_lo 0 0 uN iN)<|oc (g_ld 7 uN iN)<|oc (g_cl Uo (fun uZ=>hK1.out uZ))<|oc (g_bn (fun uZ=>Zc _ _ (cmpI c Q) 0 true uZ e1))<|oc g_mv<|oc (g_fd (fun uZ=>fdP1 _ uZ))<|oc (g_lo 0 4 uN iN)<|oc (g_ld 7 uN iN)<|oc (g_cl Uo (fun uZ=>hK2.out uZ))<|oc (g_bn (fun uZ=>Zc _ _ (cmpI y Q) 0 false uZ e2))<|oc g_pk<|oc g_mv<|oc g_sk<|oc g_sk<|oc g_sk<|oc g_sk<|oc g_sk<|oc g_pk<|oc g_as on
   intro u8 HB8 sz8 K8
   simp only[sQ] at K8⊢
   clear K7 HB7
   have hf:=ef
   go_upto_region 10 with fail
   refine rgD K8 HB8 HB8.size [] [] [(0,101,.int .i64 0),(1,102,.bool true),(2,103,.bool true),(3,104,.int .i64 0),(4,105,.bool true),(5,106,.bool true),(6,107,.bool true),(7,108,GX (P) (Q) (g) (h)),(8,109,NV (b)),(9,110,NV (xu)),(10,111,NV (k)),(11,112,CX (c) (y) (z)),(12,113,.int .i64 f),(13,114,.bool false),(14,115,(Go.Value.bool Bool.false)),(15,116,(Go.Value.bool Bool.false)),(16,117,undef),(17,118,undef),(18,119,undef),(19,120,undef),(20,121,(Go.Value.bool Bool.false)),(21,122,.bool true),(22,123,.bool true),(23,8,.bool true)] [] [] [] ?_ ?_
   ·exact oc g_mv<|oc (g_bn (fun uZ=>Yo _ _ _ 0 0 true uZ rfl))<|oc g_mv<|oc g_mv<|oc (g_bn (fun uZ=>Yo _ _ _ 0 0 true uZ rfl))<|oc g_pk<|oc g_mv<|oc (g_cl Zt (fun uZ=>hT.out uZ))<|oc (g_ld 1 uN iN)<|oc (g_ld 2 uN iN)<|oc (g_ld 3 uN iN)<|oc (g_ld 0 Tryz.underlying30 Z5)<|oc (g_cb Un (fun uZ bZ=>hK.out uZ bZ))<|oc (g_bn (fun uZ=>Yo _ _ _ f 0 false uZ hf))<|oc g_mv<|oc g_mv<|oc g_sk<|oc g_sk<|oc g_sk<|oc g_sk<|oc g_pk<|oc (g_bn (fun uZ=>Ti _ _ false uZ))<|oc g_pk<|oc g_as on
   intro u9 HB9 sz9 K9
   simp only[sQ] at K9⊢
   clear K8 HB8
   go_wp2
   refine bodyPost_ret (v:= .bool true) (by simp[results,Tryz.results6,go_sem,]) rfl ⟨rfl,HB9⟩
  ·skip
   cases b3
   ·skip
    go_upto_region 9 with fail
    refine rgP K7 HB7 HB7.size [] [] [(0,82,.pointer (some ⟨w.heap.size,0,none⟩)),(1,83,NV (c)),(2,84,NV (Q)),(3,85,.int .i64 (cmpI c Q)),(4,86,.bool true),(5,87,.bool true),(6,88,.pointer (some ⟨w.heap.size,4,none⟩)),(7,89,NV (y)),(8,90,NV (Q)),(9,91,.int .i64 (cmpI y Q)),(10,92,.bool true),(11,93,.bool true),(12,94,.bool true),(13,95,.pointer (some ⟨w.heap.size,8,none⟩)),(14,96,NV (z)),(15,97,NV (Q)),(16,98,.int .i64 (cmpI z Q)),(17,99,.bool false),(18,100,.bool false),(19,21,.bool false)] [] [] [] ?_ ?_
    ·exact oc (g_fd (fun uZ=>fdP0 _ uZ))<|oc (g_lo 0 0 uN iN)<|oc (g_ld 7 uN iN)<|oc (g_cl Uo (fun uZ=>hK1.out uZ))<|oc (g_bn (fun uZ=>Zc _ _ (cmpI c Q) 0 true uZ e1))<|oc g_mv<|oc (g_fd (fun uZ=>fdP1 _ uZ))<|oc (g_lo 0 4 uN iN)<|oc (g_ld 7 uN iN)<|oc (g_cl Uo (fun uZ=>hK2.out uZ))<|oc (g_bn (fun uZ=>Zc _ _ (cmpI y Q) 0 true uZ e2))<|oc g_pk<|oc g_mv<|oc (g_fd (fun uZ=>fdP2 _ uZ))<|oc (g_lo 0 8 uN iN)<|oc (g_ld 7 uN iN)<|oc (g_cl Uo (fun uZ=>hK3.out uZ))<|oc (g_bn (fun uZ=>Zc _ _ (cmpI z Q) 0 false uZ e3))<|oc g_pk<|oc g_as on
    intro u8 HB8 sz8 K8
    simp only[sQ] at K8⊢
    clear K7 HB7
    have hf:=ef
    go_upto_region 10 with fail
    refine rgD K8 HB8 HB8.size [] [] [(0,101,.int .i64 0),(1,102,.bool true),(2,103,.bool true),(3,104,.int .i64 0),(4,105,.bool true),(5,106,.bool true),(6,107,.bool true),(7,108,GX (P) (Q) (g) (h)),(8,109,NV (b)),(9,110,NV (xu)),(10,111,NV (k)),(11,112,CX (c) (y) (z)),(12,113,.int .i64 f),(13,114,.bool false),(14,115,.bool false),(15,116,.bool false),(16,117,undef),(17,118,undef),(18,119,undef),(19,120,undef),(20,121,(Go.Value.bool Bool.false)),(21,122,.bool true),(22,123,.bool true),(23,8,.bool true)] [] [] [] ?_ ?_
    ·exact oc g_mv<|oc (g_bn (fun uZ=>Yo _ _ _ 0 0 true uZ rfl))<|oc g_mv<|oc g_mv<|oc (g_bn (fun uZ=>Yo _ _ _ 0 0 true uZ rfl))<|oc g_pk<|oc g_mv<|oc (g_cl Zt (fun uZ=>hT.out uZ))<|oc (g_ld 1 uN iN)<|oc (g_ld 2 uN iN)<|oc (g_ld 3 uN iN)<|oc (g_ld 0 Tryz.underlying30 Z5)<|oc (g_cb Un (fun uZ bZ=>hK.out uZ bZ))<|oc (g_bn (fun uZ=>Yo _ _ _ f 0 false uZ hf))<|oc g_mv<|oc g_mv<|oc g_sk<|oc g_sk<|oc g_sk<|oc g_sk<|oc g_pk<|oc (g_bn (fun uZ=>Ti _ _ false uZ))<|oc g_pk<|oc g_as on
    intro u9 HB9 sz9 K9
    simp only[sQ] at K9⊢
    clear K8 HB8
    go_wp2
    refine bodyPost_ret (v:= .bool true) (by simp[results,Tryz.results6,go_sem,]) rfl ⟨rfl,HB9⟩
   ·skip
    go_upto_region 9 with fail
    refine rgP K7 HB7 HB7.size [] [] [(0,82,.pointer (some ⟨w.heap.size,0,none⟩)),(1,83,NV (c)),(2,84,NV (Q)),(3,85,.int .i64 (cmpI c Q)),(4,86,.bool true),(5,87,.bool true),(6,88,.pointer (some ⟨w.heap.size,4,none⟩)),(7,89,NV (y)),(8,90,NV (Q)),(9,91,.int .i64 (cmpI y Q)),(10,92,.bool true),(11,93,.bool true),(12,94,.bool true),(13,95,.pointer (some ⟨w.heap.size,8,none⟩)),(14,96,NV (z)),(15,97,NV (Q)),(16,98,.int .i64 (cmpI z Q)),(17,99,.bool true),(18,100,.bool true),(19,21,.bool true)] [] [] [] ?_ ?_
    ·exact oc (g_fd (fun uZ=>fdP0 _ uZ))<|oc (g_lo 0 0 uN iN)<|oc (g_ld 7 uN iN)<|oc (g_cl Uo (fun uZ=>hK1.out uZ))<|oc (g_bn (fun uZ=>Zc _ _ (cmpI c Q) 0 true uZ e1))<|oc g_mv<|oc (g_fd (fun uZ=>fdP1 _ uZ))<|oc (g_lo 0 4 uN iN)<|oc (g_ld 7 uN iN)<|oc (g_cl Uo (fun uZ=>hK2.out uZ))<|oc (g_bn (fun uZ=>Zc _ _ (cmpI y Q) 0 true uZ e2))<|oc g_pk<|oc g_mv<|oc (g_fd (fun uZ=>fdP2 _ uZ))<|oc (g_lo 0 8 uN iN)<|oc (g_ld 7 uN iN)<|oc (g_cl Uo (fun uZ=>hK3.out uZ))<|oc (g_bn (fun uZ=>Zc _ _ (cmpI z Q) 0 true uZ e3))<|oc g_pk<|oc g_as on
    intro u8 HB8 sz8 K8
    simp only[sQ] at K8⊢
    clear K7 HB7
    have hf:=ef
    go_upto_region 10 with fail
    refine rgD K8 HB8 HB8.size [] [] [(0,101,.int .i64 0),(1,102,.bool true),(2,103,.bool true),(3,104,.int .i64 0),(4,105,.bool true),(5,106,.bool true),(6,107,.bool true),(7,108,GX (P) (Q) (g) (h)),(8,109,NV (b)),(9,110,NV (xu)),(10,111,NV (k)),(11,112,CX (c) (y) (z)),(12,113,.int .i64 f),(13,114,.bool cB),(14,115,.bool true),(15,116,.bool true),(16,117,NV (ch)),(17,118,.pointer (some ⟨w.heap.size,0,none⟩)),(18,119,NV (c)),(19,120,.bool cB),(20,121,.bool cB),(21,122,.bool true),(22,123,.bool true),(23,8,.bool true)] [] [] [] ?_ ?_
    ·exact oc g_mv<|oc (g_bn (fun uZ=>Yo _ _ _ 0 0 true uZ rfl))<|oc g_mv<|oc g_mv<|oc (g_bn (fun uZ=>Yo _ _ _ 0 0 true uZ rfl))<|oc g_pk<|oc g_mv<|oc (g_cl Zt (fun uZ=>hT.out uZ))<|oc (g_ld 1 uN iN)<|oc (g_ld 2 uN iN)<|oc (g_ld 3 uN iN)<|oc (g_ld 0 Tryz.underlying30 Z5)<|oc (g_cb Un (fun uZ bZ=>hK.out uZ bZ))<|oc (g_bn (fun uZ=>Yo _ _ _ f 0 cB uZ hf))<|oc g_mv<|oc g_mv<|oc (g_ld 6 uN iN)<|oc (g_fd (fun uZ=>fdP0 _ uZ))<|oc (g_lo 0 0 uN iN)<|oc (g_bn (fun uZ=>eql_n _ _ ich ic cB e4 uZ))<|oc g_pk<|oc (g_bn (fun uZ=>Ti _ _ cB uZ))<|oc g_pk<|oc g_as on
    intro u9 HB9 sz9 K9
    simp only[sQ] at K9⊢
    clear K8 HB8
    go_wp2
    refine bodyPost_ret (v:= .bool true) (by simp[results,Tryz.results6,go_sem,]) rfl ⟨rfl,HB9⟩
theorem proofSound_any (s1:Option Addr) (n1 p1 m1:Nat) (s2:Option Addr) (n2 p2 m2:Nat) (s3:Option Addr) (n3 p3 m3:Nat) (y1 y2 y3:List Nat) (c y z:Int) (w:World) (hi1:min (n1:Int) 100=(m1:Int)) (hm1:m1<=n1) (hc1:n1<=p1) (hs1:s1=none->p1=0)(hi2:min (n2:Int) 100=(m2:Int)) (hm2:m2<=n2) (hc2:n2<=p2) (hs2:s2=none->p2=0)(hi3:min (n3:Int) 100=(m3:Int)) (hm3:m3<=n3) (hc3:n3<=p3) (hs3:s3=none->p3=0)(hin1: ∀u,Bw w u->IN u u.heap.size (.slice s1 m1 p1) y1) (hb1: ∀x∈y1,x<256) (hl1:y1.length<=100)(hin2: ∀u,Bw w u->IN u u.heap.size (.slice s2 m2 p2) y2) (hb2: ∀x∈y2,x<256) (hl2:y2.length<=100)(hin3: ∀u,Bw w u->IN u u.heap.size (.slice s3 m3 p3) y3) (hb3: ∀x∈y3,x<256) (hl3:y3.length<=100) (hc:In c) (hy:In y) (hz:In z) (hK:GK w):CC 6 #[.slice s1 n1 p1,.slice s2 n2 p2,.slice s3 n3 p3,CX c y z] w (.bool true):=by
 have a1:=meN_Mb pr0 X8 y1
 have a2:=meN_Mb pr0 X8 y2
 have a3:=meN_Mb pr0 X8 y3
 have cm: ∀a:Int,decide (cmpI a Q0<0)=decide (a<Q0):=fun a=>by
  unfold cmpI
  by_cases h:a<Q0
  ·rw[if_pos h,decide_eq_true h];rfl
  ·rw[if_neg h,decide_eq_false h];split<;>rfl
 refine sound_core P0 Q0 4 Hz (meN P0 y1) (meN P0 y2) (meN P0 y3) c y z _ _ _ _ _ _ _ _ s1 n1 p1 m1 s2 n2 p2 m2 s3 n3 p3 m3 w hi1 hm1 hc1 hs1 hi2 hm2 hc2 hs2 hi3 hm3 hc3 hs3 (fun u hB=>works13 u (hK.up hB)) (fun u=>cThez u) (fun u hB=>xMem0 y1 _ u (hin1 u hB) hb1 hl1) (fun u hB=>xMem0 y2 _ u (hin2 u hB) hb2 hl2) (fun u hB=>xMem0 y3 _ u (hin3 u hB) hb3 hl3) (fun u hB=>pForge0 _ _ _ c y z u (hK.up hB) a1 a2 a3 hc hy hz) (fun u v hB hv=>pCh0 [_,_,_,_,_] v u (hK.up hB) (by simp) hv.nl) (fun u=>Xi c Q0 u hc Yg) (fun u=>Xi y Q0 u hy Yg) (fun u=>Xi z Q0 u hz Yg) (fun u hB=>pCk0 _ _ _ c y z u (hK.up hB) a1 a2 a3 hc hy hz) (In_ch Yg _) hc (cm c) (cm y) (cm z) rfl ?_
 rw[ck_0 a1 a2 a3,ckB]
 congr 3
 rw[decide_eq_decide];exact eq_comm
end
section
open Go.ChangeShapes Go.WideShapes Go.ChangeAt Go.RowKit
section
section
variable {H:Type} {enc:TypeId×Value->H} {P:Program} {w:World} {base:Nat} {spare:Nat->Bool} {held:Bool}
theorem trodAll_six {t0 t1 t2 t3 t4 t5:TypeId} {args:Array Value} {ds:List (DataW H)} {ps:List MemPlace} (h:DataW.TrodAll enc P w base spare held [t0,t1,t2,t3,t4,t5] args.toList ds ps):
 ∃v0 v1 v2 v3 v4 v5 d0 d1 d2 d3 d4 d5 p0 p1 p2 p3 p4 p5,args=#[v0,v1,v2,v3,v4,v5]/\ds=[d0,d1,d2,d3,d4,d5]/\ps=p0++(p1++(p2++(p3++(p4++p5))))/\DataW.Trod enc P w base spare held t0 v0 d0 p0/\DataW.Trod enc P w base spare held t1 v1 d1 p1/\DataW.Trod enc P w base spare held t2 v2 d2 p2/\DataW.Trod enc P w base spare held t3 v3 d3 p3/\DataW.Trod enc P w base spare held t4 v4 d4 p4/\DataW.Trod enc P w base spare held t5 v5 d5 p5:=by
 obtain⟨v0,r0,d0,e0,p0,q0,hargs,rfl,rfl,k0,h0⟩:=trodAll_cons h
 obtain⟨v1,r1,d1,e1,p1,q1,rfl,rfl,rfl,k1,h1⟩:=trodAll_cons h0
 obtain⟨v2,r2,d2,e2,p2,q2,rfl,rfl,rfl,k2,h2⟩:=trodAll_cons h1
 obtain⟨v3,r3,d3,e3,p3,q3,rfl,rfl,rfl,k3,h3⟩:=trodAll_cons h2
 obtain⟨v4,r4,d4,e4,p4,q4,rfl,rfl,rfl,k4,h4⟩:=trodAll_cons h3
 obtain⟨v5,r5,d5,e5,p5,q5,rfl,rfl,rfl,k5,h5⟩:=trodAll_cons h4
 obtain⟨rfl,rfl,rfl⟩:=trodAll_nil h5
 exact⟨v0,v1,v2,v3,v4,v5,d0,d1,d2,d3,d4,d5,p0,p1,p2,p3,p4,p5,by cases args;simp_all,rfl,by simp,k0,k1,k2,k3,k4,k5⟩
theorem trodAll_mk6 {t0 t1 t2 t3 t4 t5:TypeId} {v0 v1 v2 v3 v4 v5:Value} {d0 d1 d2 d3 d4 d5:DataW H} {p0 p1 p2 p3 p4 p5:List MemPlace} (h0:DataW.Trod enc P w base spare held t0 v0 d0 p0) (h1:DataW.Trod enc P w base spare held t1 v1 d1 p1) (h2:DataW.Trod enc P w base spare held t2 v2 d2 p2) (h3:DataW.Trod enc P w base spare held t3 v3 d3 p3) (h4:DataW.Trod enc P w base spare held t4 v4 d4 p4) (h5:DataW.Trod enc P w base spare held t5 v5 d5 p5):
 DataW.TrodAll enc P w base spare held [t0,t1,t2,t3,t4,t5] [v0,v1,v2,v3,v4,v5] [d0,d1,d2,d3,d4,d5] (p0++(p1++(p2++(p3++(p4++p5))))):=⟨p0,_,h0,Xv h1 h2 h3 h4 h5,rfl⟩
end
theorem Tryz.cells30:Tryz.prog.cellsOf 30=12:=by kernel_rfl
theorem open_proof {H:Type} {enc:TypeId×Value->H} {W:World} {bs base:Nat} {sp:Nat->Bool} {held:Bool} {v:Value} {x:DataW H} {p:List MemPlace}
 (hv:Value.okWide Tryz.prog W .any base 30 v) (h:DataW.Trod enc Tryz.prog W bs sp held 30 v x p):
 ∃n f a,v=CX n f a/\In n/\In f/\In a:=by
 obtain⟨cs,rfl,hsz,_⟩: ∃cs,v= .agg cs/\cs.size=Tryz.prog.cellsOf 30/\Row.okWide Tryz.prog W .any base 30 cs:=by
  simpa [Value.okWide,Tryz.underlying30] using hv
 obtain⟨fuel,hf⟩:=h
 obtain⟨y0,y1,y2,m,_,hl,h0,h1,h2⟩:=Go.Deep.trod_struct3 Tryz.underlying30 hf
 rw[Tryz.cells30] at hl
 obtain⟨l,el⟩: ∃l,(Value.agg cs).cells.toList=l:=⟨_,rfl⟩
 have el2:cs.toList=l:=by simpa [Value.cells] using el
 rw[el] at hl h0 h1 h2
 match l,hl,h0,h1,h2,el2 with
 | [c0,c1,c2,c3,c4,c5,c6,c7,c8,c9,c10,c11],_,h0,h1,h2,el2=>
  have h0:DataW.trod enc Tryz.prog W bs sp held m 24 ((([c0,c1,c2,c3,c4,c5,c6,c7,c8,c9,c10,c11]:List Value).drop 0).take (Tryz.prog.cellsOf 24))=some y0:=h0
  have h1:DataW.trod enc Tryz.prog W bs sp held m 24 ((([c0,c1,c2,c3,c4,c5,c6,c7,c8,c9,c10,c11]:List Value).drop 4).take (Tryz.prog.cellsOf 24))=some y1:=h1
  have h2:DataW.trod enc Tryz.prog W bs sp held m 24 ((([c0,c1,c2,c3,c4,c5,c6,c7,c8,c9,c10,c11]:List Value).drop 8).take (Tryz.prog.cellsOf 24))=some y2:=h2
  rw[Tryz.cells24] at h0 h1 h2
  obtain⟨n,hn,en⟩:=trodN h0
  obtain⟨f,hf,ef⟩:=trodN h1
  obtain⟨a,ha,ea⟩:=trodN h2
  refine⟨n,f,a,?_,hn,hf,ha⟩
  have e:CE n f a=LN n++LN f++LN a:=rfl
  have e2:cs.toList=CE n f a:=by rw[el2,e,<-en,<-ef,<-ea];rfl
  have:cs=(CE n f a).toArray:=by rw[<-e2]
  rw[this]
end
end
section
open Go.RowKit
theorem eqNz (a b c d x y z t:Int) (w:World):(Op.equalIn 9999 24 (A4 a b c d) (A4 x y z t)).run Tryz.prog w= .ok (eq4 a b c d x y z t) w:=by
 have u3:=Tryz.underlying22
 have a3:=Tryz.isAgg22
 have z3:=Tryz.sizeOf22
 unfold eq4
 rw[show (9999:Nat)=9998+1 from rfl,Op.equalIn]
 simp only[Sem.run_bind,run_underlying Tryz.underlying24,Result.andThen_ok]
 simp only[Std.Legacy.Range.forIn_eq_forIn_range',Std.Legacy.Range.size,Nat.sub_zero,Nat.add_sub_cancel,Nat.div_one,List.range'_succ,List.range'_zero,List.forIn_cons,List.forIn_nil]
 go_simp
 by_cases h1:a=x<;>by_cases h2:b=y<;>by_cases h3:c=z<;>by_cases h4:d=t<;>simp[h1,h2,h3,h4]
theorem neqPf (p q:Operand) {c y z c2 y2 z2:Int} (i1:In c) (i2:In y) (i3:In z) (j1:In c2) (j2:In y2) (j3:In z2) (b:Bool) (hb:decide (c=c2/\y=y2/\z=z2)=!b) (w:World):(do eqGuard .neq 30 p q (CX c y z) (CX c2 y2 z2);binOp .neq 30 (CX c y z) (CX c2 y2 z2):Sem Value).run Tryz.prog w= .ok (.bool b) w:=by
 have k1:=eqNz (D0 c) (D1 c) (D2 c) (D3 c) (D0 c2) (D1 c2) (D2 c2) (D3 c2) w
 have k2:=eqNz (D0 y) (D1 y) (D2 y) (D3 y) (D0 y2) (D1 y2) (D2 y2) (D3 y2) w
 have k3:=eqNz (D0 z) (D1 z) (D2 z) (D3 z) (D0 z2) (D1 z2) (D2 z2) (D3 z2) w
 rw[eq4_N i1 j1] at k1
 rw[eq4_N i2 j2] at k2
 rw[eq4_N i3 j3] at k3
 rw[Bool.decide_and,Bool.decide_and] at hb
 generalize decide (c=c2)=a1 at *
 generalize decide (y=y2)=a2 at *
 generalize decide (z=z2)=a3 at *
 obtain rfl:b=!(a1&&(a2&&a3)):=by rw[hb,Bool.not_not]
 clear hb
 go_simp
 cases a1<;>cases a2<;>cases a3<;>simp[k1,k2,k3]
theorem bdBy (x:Int) (w:World) (h0:0<=x) (h1:x<18446744073709551616):(Instr.build 24 [(0,.int .u64 x)].toArray).run Tryz.prog w= .ok (NV x) w:=by
 have e:NV x=A4 x 0 0 0:=by
  show A4 (D0 x) (D1 x) (D2 x) (D3 x)=_
  rw[show D0 x=x by unfold D0;omega,show D1 x=0 by unfold D1;omega,show D2 x=0 by unfold D2;omega,show D3 x=0 by unfold D3;omega]
 have k:=bdN1 x w
 rw[<-e] at k;exact k
theorem turned_core (P Q g h s t x y wh by_ xu c y1 z1 k c2 y2 z2 xv w2 ch f:Int) (kk:Nat) (fB nb:Bool) (w:World) (h0:0<=by_) (h1:by_<18446744073709551616) (hkk:kk=0\/kk=1\/kk=2) (hn:Hid ((kk=0->y1=y2/\z1=z2)/\(kk=1->c=c2/\z1=z2)/\(kk=2->c=c2/\y1=y2)))(hW:Hid (∀u,Bw w u->CC 13 #[] u (.bool true)))(hT:Hid (∀u,CC 19 #[] u (GX P Q g h)))(hP:Hid (∀u,Bw w u->CC 9 #[GX P Q g h,NV 9,NV s,NV t,NV x,NV y] u (.tuple #[NV xu,CX c y1 z1,.int .i64 0])))(hC:Hid (∀u,CC 21 #[GX P Q g h,NV s,NV t] u (.tuple #[NV k,.int .i64 0])))(hA:Hid (∀u,CC 24 #[.int .i64 wh,.int .i64 3] u (.int .i64 (kk:Int))))(hA0:Hid (kk=0-> ∀u,CC 25 #[NV c,NV by_,NV Q] u (.tuple #[NV c2,.int .i64 0])))(hA1:Hid (kk=1-> ∀u,CC 25 #[NV y1,NV by_,NV Q] u (.tuple #[NV y2,.int .i64 0])))(hA2:Hid (kk=2-> ∀u,CC 25 #[NV z1,NV by_,NV Q] u (.tuple #[NV z2,.int .i64 0])))(hF:Hid (∀u,Bw w u->CC 14 #[GX P Q g h,NV 9,NV xu,NV k,NV c2,NV y2,NV z2] u (.tuple #[NV xv,NV w2,.int .i64 0])))(hCh:Hid (∀u v,Bw w u->PFr 0 [9,xu,k,xv,w2] u v->CC 11 #[GX P Q g h,v] u (.tuple #[NV ch,.int .i64 0])))(hK:Hid (∀u,Bw w u->CC 16 #[GX P Q g h,NV 9,NV xu,NV k,CX c2 y2 z2] u (.int .i64 f)))(ich:In ch) (i1:In c) (i2:In y1) (i3:In z1) (j1:In c2) (j2:In y2) (j3:In z2) (e1:(f==0)=fB) (e2:decide (ch=c2)=fB) (e3:decide (c2=c/\y2=y1/\z2=z1)=!nb) (e4:nb=false->fB=true):
 CC 7 #[NV s,NV t,NV x,NV y,.int .i64 wh,.int .u64 by_] w (.bool true):=by
 go_enter Tryz.func7,Tryz.ntmps7
 go_upto_region 1 with fail
 obtain⟨v0,hC,HB0,K0⟩:=bx4 w (LN (s)) 24 (LN (t)) 24 (LN (x)) 24 (LN (y)) 24
 rw[hC]
 clear hC
 refine rgP K0 HB0 HB0.size [] [] [(0,26,.bool true),(1,27,.bool false)] [] [] [] ?_ ?_
 ·exact oc (g_cb ent_WA (fun uZ bZ=>hW.out uZ bZ))<|oc (g_un (fun uZ=>not_t uZ)) on
 intro u1 HB1 sz1 K1
 simp only[sQ] at K1⊢
 clear K0 HB0
 go_upto_region 3 with fail
 refine rgP K1 HB1 HB1.size [] [(1,13,L0s,some (2,LN (9)))] [(0,28,NV (9))] [(2,1)] [] [] ?_ ?_
 ·exact oc (g_cl V1 (fun uZ=>Yp 9 uZ (by omega) (by omega)))<|oc (g_al 0 aN)<|oc (g_sn 0 iN) on
 intro u2 b2_1 HB2 sz2 K2
 simp only[sQ] at K2⊢
 clear K1 HB1
 go_upto_region 4 with fail
 refine rgD K2 HB2 HB2.size [] [(11,14,L0s,some (13,LN (xu))),(12,15,L0c,some (14,CE (c) (y1) (z1)))] [(0,30,GX (P) (Q) (g) (h)),(1,31,NV (9)),(2,32,NV (s)),(3,33,NV (t)),(4,34,NV (x)),(5,35,NV (y)),(6,36,.tuple #[NV (xu),CX (c) (y1) (z1),.int .i64 0]),(7,29,.tuple #[NV (xu),CX (c) (y1) (z1),.int .i64 0]),(8,37,NV (xu)),(9,38,CX (c) (y1) (z1)),(10,39,.int .i64 0),(15,16,.int .i64 0)] [(13,11),(14,12)] [] [] ?_ ?_
 ·exact oc (g_cl Zt (fun uZ=>hT.out uZ))<|oc (g_ld 4 uN iN)<|oc (g_ld 0 uN iN)<|oc (g_ld 1 uN iN)<|oc (g_ld 2 uN iN)<|oc (g_ld 3 uN iN)<|oc (g_cb ent_XC (fun uZ bZ=>hP.out uZ bZ))<|oc g_mv<|oc g_ex<|oc g_ex<|oc g_ex<|oc (g_al 0 aN)<|oc (g_al 1 Xj)<|oc (g_sn 0 iN)<|oc (g_sn 1 Z5)<|oc g_as on
 intro u3 b3_11 b3_12 HB3 sz3 K3
 simp only[sQ] at K3⊢
 clear K2 HB2
 go_upto_region 5 with fail
 refine rgD K3 HB3 HB3.size [] [(7,17,L0s,some (8,LN (k)))] [(0,41,GX (P) (Q) (g) (h)),(1,42,NV (s)),(2,43,NV (t)),(3,44,.tuple #[NV (k),.int .i64 0]),(4,40,.tuple #[NV (k),.int .i64 0]),(5,45,NV (k)),(6,46,.int .i64 0),(9,18,.int .i64 0)] [(8,7)] [] [] ?_ ?_
 ·exact oc (g_cl Zt (fun uZ=>hT.out uZ))<|oc (g_ld 0 uN iN)<|oc (g_ld 1 uN iN)<|oc (g_cl ent_XE (fun uZ=>hC.out uZ))<|oc g_mv<|oc g_ex<|oc g_ex<|oc (g_al 0 aN)<|oc (g_sn 0 iN)<|oc g_as on
 intro u4 b4_7 HB4 sz4 K4
 simp only[sQ] at K4⊢
 clear K3 HB3
 go_upto_region 6 with fail
 refine rgP K4 HB4 HB4.size [] [(1,19,L0c,some (2,CE (c) (y1) (z1)))] [(0,47,CX (c) (y1) (z1))] [(2,1)] [] [] ?_ ?_
 ·exact oc (g_ld 6 Tryz.underlying30 Z5)<|oc (g_al 0 Xj)<|oc (g_sn 0 Z5) on
 intro u5 b5_1 HB5 sz5 K5
 simp only[sQ] at K5⊢
 clear K4 HB4
 go_upto_region 7 with fail
 refine rgP K5 HB5 HB5.size [] [] [(0,48,.int .i64 wh),(1,49,.int .i64 (kk:Int))] [] [] [] ?_ ?_
 ·exact oc g_mv<|oc (g_cl ent_WH (fun uZ=>hA.out uZ)) on
 intro u6 HB6 sz6 K6
 simp only[sQ] at K6⊢
 clear K5 HB5
 rcases hkk with rfl | rfl | rfl
 case' inl=>
  go_upto_region 9 with fail
  refine rgP K6 HB6 HB6.size [] [] [(0,62,.bool true),(1,61,.bool true)] [] [] [] ?_ ?_
  ·exact oc (g_bn (fun uZ=>Yo _ _ _ ((0:Nat):Int) 0 true uZ rfl))<|oc g_as on
  intro u8 HB8 sz8 K8
  simp only[sQ] at K8⊢
  clear K6 HB6
  go_upto_region 10 with fail
  refine rgD K8 HB8 HB8.size [.no,.no,.no,.no,.no,.no,.no,.no,.all 11 (CE (c2) (y1) (z1))] [] [(0,64,.pointer (some ⟨b3_12,0,none⟩)),(1,65,NV (c)),(2,66,.int .u64 by_),(3,67,NV (by_)),(4,68,GX (P) (Q) (g) (h)),(5,69,NV (Q)),(6,70,.tuple #[NV (c2),.int .i64 0]),(7,63,.tuple #[NV (c2),.int .i64 0]),(8,71,NV (c2)),(9,72,.int .i64 0),(10,73,.pointer (some ⟨b5_1,0,none⟩))] [] [] [] ?_ ?_
  ·exact oc (g_fd (fun uZ=>fdP0 _ uZ))<|oc (g_lo 6 0 uN iN)<|oc g_mv<|oc (g_bd (fun uZ=>bdBy by_ uZ h0 h1))<|oc (g_cl Zt (fun uZ=>hT.out uZ))<|oc (g_op (fun ev uZ he=>fldQp uZ rfl (he _ _ rfl)))<|oc (g_cl ent_WG (fun uZ=>hA0.out rfl uZ))<|oc g_mv<|oc g_ex<|oc g_ex<|oc (g_fd (fun uZ=>fdP0 _ uZ))<|oc (g_sm 8 0 ([]) (LN c) (LN y1++LN z1) (post:=LN c2) iN) on
  intro u9 HB9 sz9 K9
  simp only[sQ] at K9⊢
  clear K8 HB8
  have f1:=hn.out.1 rfl
  have KJ:=K9
  rw[show CE c2 y1 z1=CE c2 y2 z2 by rw[f1.1,f1.2]] at KJ
  clear K9 f1
 case' inr.inl=>
  go_upto_region 9 with fail
  refine rgP K6 HB6 HB6.size [] [] [(0,62,.bool false),(1,61,.bool false)] [] [] [] ?_ ?_
  ·exact oc (g_bn (fun uZ=>Yo _ _ _ ((1:Nat):Int) 0 false uZ rfl))<|oc g_as on
  intro u7 HB7 sz7 K7
  simp only[sQ] at K7⊢
  clear K6 HB6
  go_upto_region 11 with fail
  refine rgP K7 HB7 HB7.size [] [] [(0,75,.bool true),(1,74,.bool true)] [] [] [] ?_ ?_
  ·exact oc (g_bn (fun uZ=>Yo _ _ _ ((1:Nat):Int) 1 true uZ rfl))<|oc g_as on
  intro u8 HB8 sz8 K8
  simp only[sQ] at K8⊢
  clear K7 HB7
  go_upto_region 12 with fail
  refine rgD K8 HB8 HB8.size [.no,.no,.no,.no,.no,.no,.no,.no,.all 11 (CE (c) (y2) (z1))] [] [(0,77,.pointer (some ⟨b3_12,4,none⟩)),(1,78,NV (y1)),(2,79,.int .u64 by_),(3,80,NV (by_)),(4,81,GX (P) (Q) (g) (h)),(5,82,NV (Q)),(6,83,.tuple #[NV (y2),.int .i64 0]),(7,76,.tuple #[NV (y2),.int .i64 0]),(8,84,NV (y2)),(9,85,.int .i64 0),(10,86,.pointer (some ⟨b5_1,4,none⟩))] [] [] [] ?_ ?_
  ·exact oc (g_fd (fun uZ=>fdP1 _ uZ))<|oc (g_lo 6 4 uN iN)<|oc g_mv<|oc (g_bd (fun uZ=>bdBy by_ uZ h0 h1))<|oc (g_cl Zt (fun uZ=>hT.out uZ))<|oc (g_op (fun ev uZ he=>fldQp uZ rfl (he _ _ rfl)))<|oc (g_cl ent_WG (fun uZ=>hA1.out rfl uZ))<|oc g_mv<|oc g_ex<|oc g_ex<|oc (g_fd (fun uZ=>fdP1 _ uZ))<|oc (g_sm 8 4 (LN c) (LN y1) (LN z1) (post:=LN y2) iN) on
  intro u9 HB9 sz9 K9
  simp only[sQ] at K9⊢
  clear K8 HB8
  have f1:=hn.out.2.1 rfl
  have KJ:=K9
  rw[show CE c y2 z1=CE c2 y2 z2 by rw[f1.1,f1.2]] at KJ
  clear K9 f1
 case' inr.inr=>
  go_upto_region 9 with fail
  refine rgP K6 HB6 HB6.size [] [] [(0,62,.bool false),(1,61,.bool false)] [] [] [] ?_ ?_
  ·exact oc (g_bn (fun uZ=>Yo _ _ _ ((2:Nat):Int) 0 false uZ rfl))<|oc g_as on
  intro u7 HB7 sz7 K7
  simp only[sQ] at K7⊢
  clear K6 HB6
  go_upto_region 11 with fail
  refine rgP K7 HB7 HB7.size [] [] [(0,75,.bool false),(1,74,.bool false)] [] [] [] ?_ ?_
  ·exact oc (g_bn (fun uZ=>Yo _ _ _ ((2:Nat):Int) 1 false uZ rfl))<|oc g_as on
  intro u8 HB8 sz8 K8
  simp only[sQ] at K8⊢
  clear K7 HB7
  go_upto_region 8 with fail
  refine rgD K8 HB8 HB8.size [.no,.no,.no,.no,.no,.no,.no,.no,.all 11 (CE (c) (y1) (z2))] [] [(0,51,.pointer (some ⟨b3_12,8,none⟩)),(1,52,NV (z1)),(2,53,.int .u64 by_),(3,54,NV (by_)),(4,55,GX (P) (Q) (g) (h)),(5,56,NV (Q)),(6,57,.tuple #[NV (z2),.int .i64 0]),(7,50,.tuple #[NV (z2),.int .i64 0]),(8,58,NV (z2)),(9,59,.int .i64 0),(10,60,.pointer (some ⟨b5_1,8,none⟩))] [] [] [] ?_ ?_
  ·exact oc (g_fd (fun uZ=>fdP2 _ uZ))<|oc (g_lo 6 8 uN iN)<|oc g_mv<|oc (g_bd (fun uZ=>bdBy by_ uZ h0 h1))<|oc (g_cl Zt (fun uZ=>hT.out uZ))<|oc (g_op (fun ev uZ he=>fldQp uZ rfl (he _ _ rfl)))<|oc (g_cl ent_WG (fun uZ=>hA2.out rfl uZ))<|oc g_mv<|oc g_ex<|oc g_ex<|oc (g_fd (fun uZ=>fdP2 _ uZ))<|oc (g_sm 8 8 (LN c++LN y1) (LN z1) ([]) (post:=LN z2) iN) on
  intro u9 HB9 sz9 K9
  simp only[sQ] at K9⊢
  clear K8 HB8
  have f1:=hn.out.2.2 rfl
  have KJ:=K9
  rw[show CE c y1 z2=CE c2 y2 z2 by rw[f1.1,f1.2]] at KJ
  clear K9 f1
 all_goals
  go_upto_region 13 with fail
  refine rgD KJ HB9 HB9.size [] [(15,20,L0s,some (17,LN (xv))),(16,21,L0s,some (18,LN (w2)))] [(0,88,GX (P) (Q) (g) (h)),(1,89,NV (9)),(2,90,NV (xu)),(3,91,NV (k)),(4,92,.pointer (some ⟨b5_1,0,none⟩)),(5,93,NV (c2)),(6,94,.pointer (some ⟨b5_1,4,none⟩)),(7,95,NV (y2)),(8,96,.pointer (some ⟨b5_1,8,none⟩)),(9,97,NV (z2)),(10,98,.tuple #[NV (xv),NV (w2),.int .i64 0]),(11,87,.tuple #[NV (xv),NV (w2),.int .i64 0]),(12,99,NV (xv)),(13,100,NV (w2)),(14,101,.int .i64 0),(19,22,.int .i64 0)] [(17,15),(18,16)] [] [] ?_ ?_
  ·exact oc (g_cl Zt (fun uZ=>hT.out uZ))<|oc (g_ld 4 uN iN)<|oc (g_ld 5 uN iN)<|oc (g_ld 7 uN iN)<|oc (g_fd (fun uZ=>fdP0 _ uZ))<|oc (g_lo 8 0 uN iN)<|oc (g_fd (fun uZ=>fdP1 _ uZ))<|oc (g_lo 8 4 uN iN)<|oc (g_fd (fun uZ=>fdP2 _ uZ))<|oc (g_lo 8 8 uN iN)<|oc (g_cb ent_WB (fun uZ bZ=>hF.out uZ bZ))<|oc g_mv<|oc g_ex<|oc g_ex<|oc g_ex<|oc (g_al 0 aN)<|oc (g_al 1 aN)<|oc (g_sn 0 iN)<|oc (g_sn 1 iN)<|oc g_as on
  intro u10 b10_15 b10_16 HB10 sz10 K10
  simp only[sQ] at K10⊢
  clear HB9
  go_upto_region 14 with fail
  refine rgE K10 HB10 HB10.size [] [(11,23,L0s,some (12,LN (ch)))] [(0,103,GX (P) (Q) (g) (h)),(1,104,NV (9)),(2,105,NV (xu)),(3,106,NV (k)),(4,107,NV (xv)),(5,108,NV (w2)),(7,110,.tuple #[NV (ch),.int .i64 0]),(8,102,.tuple #[NV (ch),.int .i64 0]),(9,111,NV (ch)),(10,112,.int .i64 0),(13,24,.int .i64 0)] [(12,11)] [] [⟨6,109,some 7,PFr 0 [9,xu,k,xv,w2]⟩] [] (.cons (fun _ _ _ h1 h2=>h2.stab h1)<|Stab.nil) ?_ ?_
  ·exact oc (g_cl Zt (fun uZ=>hT.out uZ))<|oc (g_ld 4 uN iN)<|oc (g_ld 5 uN iN)<|oc (g_ld 7 uN iN)<|oc (g_ld 9 uN iN)<|oc (g_ld 10 uN iN)<|oc (g_bR 0 (PFr 0 [9,xu,k,xv,w2]) [0,1,2,3,4] [NV 9,NV xu,NV k,NV xv,NV w2] (flN [9,xu,k,xv,w2]) (bsF5 9 xu k xv w2) (fun u hu=>PFr.new 0 [9,xu,k,xv,w2] u 24 (Nat.zero_le _)))<|oc (g_c2 0 (PFr 0 [9,xu,k,xv,w2]) ent_WC (fun uZ yv bZ hy=>hCh.out uZ yv bZ hy))<|oc g_mv<|oc g_ex<|oc g_ex<|oc (g_al 0 aN)<|oc (g_sn 0 iN)<|oc g_as on
  intro u11 b11_11 v11_6 hv11_6 HB11 sz11 K11
  simp only[sQ] at K11⊢
  clear K10 HB10
  go_upto_region 15 with fail
  refine rgD K11 HB11 HB11.size [] [] [(0,113,GX (P) (Q) (g) (h)),(1,114,NV (9)),(2,115,NV (xu)),(3,116,NV (k)),(4,117,CX (c2) (y2) (z2)),(5,118,.int .i64 f),(6,25,.int .i64 f)] [] [] [] ?_ ?_
  ·exact oc (g_cl Zt (fun uZ=>hT.out uZ))<|oc (g_ld 4 uN iN)<|oc (g_ld 5 uN iN)<|oc (g_ld 7 uN iN)<|oc (g_ld 8 Tryz.underlying30 Z5)<|oc (g_cb Un (fun uZ bZ=>hK.out uZ bZ))<|oc g_as on
  intro u12 HB12 sz12 K12
  simp only[sQ] at K12⊢
  clear K11 HB11
  cases nb
  ·skip
   obtain rfl:=e4 rfl
   go_upto_region 16 with fail
   refine rgP K12 HB12 HB12.size [] [] [(0,119,.int .i64 0),(1,120,.bool true),(2,121,.bool true),(3,122,.int .i64 f),(4,123,.bool true),(5,124,NV (ch)),(6,125,.pointer (some ⟨b5_1,0,none⟩)),(7,126,NV (c2)),(8,127,.bool true),(9,128,.bool true),(10,129,.bool true),(11,130,.bool true),(12,131,CX (c2) (y2) (z2)),(13,132,CX (c) (y1) (z1)),(14,133,.bool false),(15,134,.bool false),(16,135,.int .i64 f),(17,136,.bool true),(18,137,.bool true),(19,138,.bool true),(20,12,.bool true)] [] [] [] ?_ ?_
   ·exact oc g_mv<|oc (g_bn (fun uZ=>Yo _ _ _ 0 0 true uZ rfl))<|oc g_mv<|oc g_mv<|oc (g_bn (fun uZ=>Yo _ _ _ f 0 true uZ e1))<|oc (g_ld 11 uN iN)<|oc (g_fd (fun uZ=>fdP0 _ uZ))<|oc (g_lo 8 0 uN iN)<|oc (g_bn (fun uZ=>eql_n _ _ ich j1 true e2 uZ))<|oc (g_bn (fun uZ=>Ti _ _ true uZ))<|oc g_pk<|oc g_mv<|oc (g_ld 8 Tryz.underlying30 Z5)<|oc (g_ld 6 Tryz.underlying30 Z5)<|oc (g_bn (fun uZ=>neqPf _ _ j1 j2 j3 i1 i2 i3 false e3 uZ))<|oc g_mv<|oc g_mv<|oc (g_bn (fun uZ=>Yo _ _ _ f 0 true uZ e1))<|oc g_pk<|oc g_pk<|oc g_as on
   intro u13 HB13 sz13 K13
   simp only[sQ] at K13⊢
   clear K12 HB12
   go_wp2
   refine bodyPost_ret (v:= .bool true) (by simp[results,Tryz.results7,go_sem,]) rfl ⟨rfl,HB13⟩
  ·skip
   go_upto_region 16 with fail
   refine rgP K12 HB12 HB12.size [] [] [(0,119,.int .i64 0),(1,120,.bool true),(2,121,.bool true),(3,122,.int .i64 f),(4,123,.bool fB),(5,124,NV (ch)),(6,125,.pointer (some ⟨b5_1,0,none⟩)),(7,126,NV (c2)),(8,127,.bool fB),(9,128,.bool true),(10,129,.bool true),(11,130,.bool true),(12,131,CX (c2) (y2) (z2)),(13,132,CX (c) (y1) (z1)),(14,133,.bool true),(15,134,.bool true),(16,135,undef),(17,136,undef),(18,137,(Go.Value.bool Bool.true)),(19,138,(Go.Value.bool Bool.true)),(20,12,(Go.Value.bool Bool.true))] [] [] [] ?_ ?_
   ·exact oc g_mv<|oc (g_bn (fun uZ=>Yo _ _ _ 0 0 true uZ rfl))<|oc g_mv<|oc g_mv<|oc (g_bn (fun uZ=>Yo _ _ _ f 0 fB uZ e1))<|oc (g_ld 11 uN iN)<|oc (g_fd (fun uZ=>fdP0 _ uZ))<|oc (g_lo 8 0 uN iN)<|oc (g_bn (fun uZ=>eql_n _ _ ich j1 fB e2 uZ))<|oc (g_bn (fun uZ=>Ti _ _ fB uZ))<|oc g_pk<|oc g_mv<|oc (g_ld 8 Tryz.underlying30 Z5)<|oc (g_ld 6 Tryz.underlying30 Z5)<|oc (g_bn (fun uZ=>neqPf _ _ j1 j2 j3 i1 i2 i3 true e3 uZ))<|oc g_mv<|oc g_sk<|oc g_sk<|oc g_pk<|oc g_pk<|oc g_as on
   intro u13 HB13 sz13 K13
   simp only[sQ] at K13⊢
   clear K12 HB12
   go_wp2
   refine bodyPost_ret (v:= .bool true) (by simp[results,Tryz.results7,go_sem,]) rfl ⟨rfl,HB13⟩
theorem turned_mid (s t x y wh by_ U K C Y Z:Int) (kk:Nat) (w:World) (hK:GK w) (hkk:(kk:Int)<3) (h0:0<=by_) (h1:by_<18446744073709551616) (mu:Mb P0 Q0 U) (mk:Mb P0 Q0 K) (ic:In C) (iy:In Y) (iz:In Z) (lc:C<Q0) (ly:Y<Q0) (lz:Z<Q0) (hck:ckE P0 Q0 4 Hz 9 U K C Y Z=0)
 (hP:Hid (∀u,Bw w u->CC 9 #[GX P0 Q0 4 Hz,NV 9,NV s,NV t,NV x,NV y] u (.tuple #[NV U,CX C Y Z,.int .i64 0]))) (hC:Hid (∀u,CC 21 #[GX P0 Q0 4 Hz,NV s,NV t] u (.tuple #[NV K,.int .i64 0]))) (hA:Hid (∀u,CC 24 #[.int .i64 wh,.int .i64 3] u (.int .i64 (kk:Int)))):
 CC 7 #[NV s,NV t,NV x,NV y,.int .i64 wh,.int .u64 by_] w (.bool true):=by
 have ib:In by_:=⟨h0,by omega⟩
 have tw: ∀(a:Int) (i:Nat),In a->a<Q0->In (if kk=i then (a+by_)%Q0 else a)/\(if kk=i then (a+by_)%Q0 else a)<Q0:=fun a i h1 h2=>by
  split
  ·exact⟨In_md Yg Q0n,md_lt _⟩
  ·exact⟨h1,h2⟩
 have ad: ∀(a:Int) (i:Nat),In a->kk=i-> ∀u,CC 25 #[NV a,NV by_,NV Q0] u (.tuple #[NV (if kk=i then (a+by_)%Q0 else a),.int .i64 0]):=fun a i h e u=>by
  rw[if_pos e];exact xAdd a by_ Q0 u h ib Yg Q0n
 obtain⟨j1,l1⟩:=tw C 0 ic lc
 obtain⟨j2,l2⟩:=tw Y 1 iy ly
 obtain⟨j3,l3⟩:=tw Z 2 iz lz
 have a0:=ad C 0 ic
 have a1:=ad Y 1 iy
 have a2:=ad Z 2 iz
 have hn:(kk=0->Y=(if kk=1 then (Y+by_)%Q0 else Y)/\Z=(if kk=2 then (Z+by_)%Q0 else Z))/\(kk=1->C=(if kk=0 then (C+by_)%Q0 else C)/\Z=(if kk=2 then (Z+by_)%Q0 else Z))/\(kk=2->C=(if kk=0 then (C+by_)%Q0 else C)/\Y=(if kk=1 then (Y+by_)%Q0 else Y)):=
  ⟨fun e=>⟨(if_neg (by omega)).symm,(if_neg (by omega)).symm⟩,fun e=>⟨(if_neg (by omega)).symm,(if_neg (by omega)).symm⟩,fun e=>⟨(if_neg (by omega)).symm,(if_neg (by omega)).symm⟩⟩
 generalize (if kk=0 then (C+by_)%Q0 else C)=c2 at *
 generalize (if kk=1 then (Y+by_)%Q0 else Y)=y2 at *
 generalize (if kk=2 then (Z+by_)%Q0 else Z)=z2 at *
 have hf:=ck_0 (c:=c2) (y:=y2) (z:=z2) mbz9 mu mk
 rw[ckB_low l1 l2 l3] at hf
 refine turned_core P0 Q0 4 Hz s t x y wh by_ U C Y Z K c2 y2 z2 _ _ _ _ kk _ (!decide (c2=C/\y2=Y/\z2=Z)) w h0 h1 (by omega) hn (fun u hB=>works13 u (hK.up hB)) (fun u=>cThez u) hP hC hA a0 a1 a2 (fun u hB=>pForge0 9 _ _ _ _ _ u (hK.up hB) mbz9 mu mk j1 j2 j3) (fun u v hB hv=>pCh0 [9,_,_,_,_] v u (hK.up hB) (by simp) hv.nl) (fun u hB=>pCk0 9 _ _ _ _ _ u (hK.up hB) mbz9 mu mk j1 j2 j3) (In_ch Yg _) ic iy iz j1 j2 j3 hf rfl (by rw[Bool.not_not]) fun h=>?_
 obtain⟨rfl,rfl,rfl⟩:c2=C/\y2=Y/\z2=Z:=by simpa using h
 rw[<-hf,hck];rfl
theorem proofTurned_any (s t x y wh by_:Int) (w:World) (hs:In s) (ht:In t) (hx:In x) (hy:In y) (hw: -9223372036854775808<=wh/\wh<=9223372036854775807) (h0:0<=by_) (h1:by_<18446744073709551616) (hK:GK w):CC 7 #[NV s,NV t,NV x,NV y,.int .i64 wh,.int .u64 by_] w (.bool true):=by
 obtain⟨kk,hkk,hA⟩:=among_any wh 3 (by decide) (by decide) ⟨hw.1,by omega⟩
 exact turned_mid s t x y wh by_ _ _ _ _ _ kk w hK hkk h0 h1 (pw_Mb X8 mbz9 s) (cm_Mb X8 mbz4 mbzH s t) (In_pvC 9 s t x y) (To x (pvC P0 Q0 4 Hz 9 s t x y) s) (To y (pvC P0 Q0 4 Hz 9 s t x y) t) (pvC_lt 9 s t x y) (pvY_lt x _ s) (pvY_lt y _ t) (ck_pv X8 mbz4 mbzH mbz9 s t x y) (fun u hB=>pProve0 9 s t x y u (hK.up hB) mbz9 hs ht hx hy) (fun u=>xCom0 s t u hs ht) hA
end
end Go.Proofs.YtofcppgfaelloaaGreatDoor
