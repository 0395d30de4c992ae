import Derived.Test.YtbbohmgjphpfeaaGreatDoorAF0
namespace Go.Proofs.YtbbohmgjphpfeaaGreatDoor
set_option linter.unusedVariables false
set_option linter.unusedSimpArgs false
set_option maxRecDepth 100000
set_option maxHeartbeats 4000000
section
open Go.RowKit
theorem lI {b c:Nat} {v:Int} (w:World) (h:w.cell? ⟨b,c,none⟩=some (.int .i64 v)):(Instr.loadAt 3 (.pointer (some ⟨b,c,none⟩))).run Tryz.prog w= .ok (.int .i64 v) w:=by go_simp
abbrev SE (n s t:Int):List Value:=[.int .i64 n,.int .u64 (D0 s),.int .u64 (D1 s),.int .u64 (D2 s),.int .u64 (D3 s),.int .u64 (D0 t),.int .u64 (D1 t),.int .u64 (D2 t),.int .u64 (D3 t)]
abbrev SX (n s t:Int):Value:= .agg #[.int .i64 n,.int .u64 (D0 s),.int .u64 (D1 s),.int .u64 (D2 s),.int .u64 (D3 s),.int .u64 (D0 t),.int .u64 (D1 t),.int .u64 (D2 t),.int .u64 (D3 t)]
abbrev L0h:List Value:=[.int .i64 0,.int .u64 0,.int .u64 0,.int .u64 0,.int .u64 0,.int .u64 0,.int .u64 0,.int .u64 0,.int .u64 0]
abbrev DE (d:Int) (v:Value):List Value:=[.int .i64 d,v]
abbrev DX (d:Int) (v:Value):Value:= .agg #[.int .i64 d,v]
abbrev L0d:List Value:=[.int .i64 0,.slice none 0 0]
def ndB (n:Int):Bool:=decide (1<=n/\n<=16)
def shB (n m:Nat):Bool:=decide (n=m/\1<=n/\n<=6)
theorem fdD0 (b:Nat) (w:World):(Instr.fieldAt 30 (.pointer (some ⟨b,0,none⟩)) 0).run Tryz.prog w= .ok (.pointer (some ⟨b,0,none⟩)) w:=by go_simp
theorem fdD1 (b:Nat) (w:World):(Instr.fieldAt 30 (.pointer (some ⟨b,0,none⟩)) 1).run Tryz.prog w= .ok (.pointer (some ⟨b,1,none⟩)) w:=by go_simp
theorem Z2:(Tryz.prog.info? 30).map (·.size)=some 2:=by kernel_rfl
theorem Z1:(Tryz.prog.info? 35).map (·.size)=some 9:=by kernel_rfl
theorem Yh (w:World):(Instr.alloc 35 true (.tuple #[])).run Tryz.prog w= .ok (.pointer (some ⟨w.heap.size,0,none⟩)) (w.alloc (.cells L0h.toArray 35)):=by kernel_rfl
theorem xnode_0 (n:Int) (w:World) (h:decide (1<=n)=false):
 CC 38 #[.int .i64 n] w (.bool false):=by
 go_enter Tryz.func38,Tryz.ntmps38
 have HB0:Bw w w:=Below.refl _ _
 have K0_1:=Bk.nil (w.heap.size) w
 go_upto_region 1 with fail
 apply Rn K0_1 HB0 [(0,3,_),(1,4,_),(2,5,_),(3,6,undef),(4,7,undef),(5,8,_),(6,2,_)]
 ·exact oc g_mv<|oc (g_bn (fun uZ=>U7 _ _ n 1 _ uZ h))<|oc g_mv<|oc g_sk<|oc g_sk<|oc g_pk<|oc g_as on
 intro u1 HB1 sz1 K1
 simp only[sQ] at K1⊢
 clear HB0
 go_wp2
 refine bodyPost_ret (v:= .bool false) (by simp[results,Tryz.results38,go_sem,]) rfl ⟨rfl,HB1⟩
theorem xnode_1 (n:Int) (b:Bool) (w:World) (h:decide (1<=n)=true) (h2:decide (n<=16)=b):
 CC 38 #[.int .i64 n] w (.bool b):=by
 go_enter Tryz.func38,Tryz.ntmps38
 have HB0:Bw w w:=Below.refl _ _
 have K0_1:=Bk.nil (w.heap.size) w
 go_upto_region 1 with fail
 apply Rn K0_1 HB0 [(0,3,_),(1,4,_),(2,5,_),(3,6,_),(4,7,_),(5,8,_),(6,2,_)]
 ·exact oc g_mv<|oc (g_bn (fun uZ=>U7 _ _ n 1 _ uZ h))<|oc g_mv<|oc g_mv<|oc (g_bn (fun uZ=>leq_p _ _ n 16 _ uZ h2))<|oc g_pk<|oc g_as on
 intro u1 HB1 sz1 K1
 simp only[sQ] at K1⊢
 clear HB0
 go_wp2
 refine bodyPost_ret (v:= .bool b) (by simp[results,Tryz.results38,go_sem,]) rfl ⟨rfl,HB1⟩
theorem xNode (n:Int) (w:World):CC 38 #[.int .i64 n] w (.bool (ndB n)):=by
 by_cases h:1<=n
 ·rw[show ndB n=decide (n<=16) by simp[ndB,h]]
  exact xnode_1 n _ w (decide_eq_true h) rfl
 ·rw[show ndB n=false by simp[ndB,h]]
  exact xnode_0 n w (decide_eq_false h)
theorem xnought_0 (d:Int) (sl:Option Addr) (cap:Nat) (ns:List Int) (w:World) (h:decide (0<(ns.length:Int))=false):
 CC 24 #[DX d (.slice sl ns.length cap)] w (.bool false):=by
 go_enter Tryz.func24,Tryz.ntmps24
 go_upto_region 1 with fail
 obtain⟨v0,hC,HB0,K0⟩:=bx1 w (DE (d) (.slice sl ns.length cap)) 30
 rw[hC]
 clear hC
 apply Rn K0 HB0 [(0,3,_),(1,4,_),(2,5,_),(3,6,_),(4,7,_),(5,8,undef),(6,9,undef),(7,10,undef),(8,11,undef),(9,12,undef),(10,13,undef),(11,14,_),(12,2,_)]
 ·exact oc (g_fd (fdD1 _))<|oc (g_lc 0 1 lSN)<|oc (g_ln Tryz.underlying27)<|oc (g_bn (fun uZ=>gtr_i _ _ (ns.length:Int) 0 _ uZ h))<|oc g_mv<|oc g_sk<|oc g_sk<|oc g_sk<|oc g_sk<|oc g_sk<|oc g_sk<|oc g_pk<|oc g_as on
 intro u1 HB1 sz1 K1
 simp only[sQ] at K1⊢
 clear K0 HB0
 go_wp2
 refine bodyPost_ret (v:= .bool false) (by simp[results,Tryz.results24,go_sem,]) rfl ⟨rfl,HB1⟩
theorem xnought_1 (d:Int) (sl:Option Addr) (cap:Nat) (ns:List Int) (gb go:Nat) (x:Int) (b:Bool) (w:World) (h:decide (0<(ns.length:Int))=true) (hX:Hid (∀W,(Instr.indexAt 27 (.slice sl ns.length cap) (.int .i64 0)).run Tryz.prog W= .ok (.pointer (some ⟨gb,go,none⟩)) W)) (hR:Hid (w.rangeAt gb go (LN x))) (hg:gb<w.heap.size) (hx:In x) (hb:decide (x=1)=b):
 CC 24 #[DX d (.slice sl ns.length cap)] w (.bool b):=by
 go_enter Tryz.func24,Tryz.ntmps24
 go_upto_region 1 with fail
 obtain⟨v0,hC,HB0,K0⟩:=bx1 w (DE (d) (.slice sl ns.length cap)) 30
 rw[hC]
 clear hC
 apply Rn K0 HB0 [(0,3,_),(1,4,_),(2,5,_),(3,6,_),(4,7,_),(5,8,_),(6,9,_),(7,10,_),(8,11,_),(9,12,_),(10,13,_),(11,14,_),(12,2,_)]
 ·exact oc (g_fd (fdD1 _))<|oc (g_lc 0 1 lSN)<|oc (g_ln Tryz.underlying27)<|oc (g_bn (fun uZ=>gtr_i _ _ (ns.length:Int) 0 _ uZ h))<|oc g_mv<|oc (g_fd (fdD1 _))<|oc (g_lc 0 1 lSN)<|oc (g_ix hX.out)<|oc (g_lf hR.out hg uN iN)<|oc (g_bd (fun uZ=>bdNk 1 (by omega) (by omega) uZ))<|oc (g_bn (eql_n _ _ hx In_1 b hb))<|oc g_pk<|oc g_as on
 intro u1 HB1 sz1 K1
 simp only[sQ] at K1⊢
 clear K0 HB0
 go_wp2
 refine bodyPost_ret (v:= .bool b) (by simp[results,Tryz.results24,go_sem,]) rfl ⟨rfl,HB1⟩
def noB (ns:List Int):Bool:=decide (0<ns.length/\ns.getD 0 0=1)
theorem xNought (d:Int) (ns:List Int) (v:Value) (w:World) (hv:NL w v ns) (hns: ∀z∈ns,In z):CC 24 #[DX d v] w (.bool (noB ns)):=by
 obtain⟨sl,gb,go,cap,rfl,h2,h3,h4,h5,h6⟩:=hv
 by_cases h:0<ns.length
 ·rw[show noB ns=decide (ns.getD 0 0=1) by simp[noB,h]]
  have hX:=NL.ix (u:=w) (cap:=cap) h4 0 h
  have hR:=h6.at 0 h
  rw[Nat.mul_zero,Nat.add_zero] at hX hR
  exact xnought_1 d sl cap ns gb go _ _ w (by simp;omega) hX hR (h5.resolve_left (by omega)) (Ym hns 0 h) rfl
 ·rw[show noB ns=false by simp[noB,h]]
  exact xnought_0 d sl cap ns w (decide_eq_false (by omega))
theorem Zg:EnT 38:=fun _ _=>by kernel_rfl
theorem Yb:EnT 20:=fun _ _=>by kernel_rfl
theorem ent_K1:EnT 37:=fun _ _=>by kernel_rfl
theorem ent_K2:EnT 40:=fun _ _=>by kernel_rfl
theorem xdchk_c (p q g h d:Int) (sl:Option Addr) (cap:Nat) (ns:List Int) (w:World) (hC:Hid (∀u,CC 37 #[GX p q g h] u (.int .i64 90))):
 CC 20 #[GX p q g h,DX d (.slice sl ns.length cap)] w (.int .i64 90):=by
 go_enter Tryz.func20,Tryz.ntmps20
 go_upto_region 1 with fail
 obtain⟨v0,hC,HB0,K0⟩:=bx2 w (GE (p) (q) (g) (h)) 26 (DE (d) (.slice sl ns.length cap)) 30
 rw[hC]
 clear hC
 apply Rn K0 HB0 [(0,6,_),(1,7,_),(2,8,_)]
 ·exact oc (g_ld 0 Tryz.underlying26 Z0)<|oc (g_cl ent_K1 hC.out)<|oc (g_bn (fun uZ=>Zs _ _ _ 90 0 _ uZ rfl)) on
 intro u1 HB1 sz1 K1
 simp only[sQ] at K1⊢
 clear K0 HB0
 go_upto_region 2 with fail
 apply Rn K1 HB1 [(0,4,_)]
 ·exact oc g_as on
 intro u2 HB2 sz2 K2
 simp only[sQ] at K2⊢
 clear K1 HB1
 go_wp2
 refine bodyPost_ret (v:= .int .i64 90) (by simp[results,Tryz.results20,go_sem,]) rfl ⟨rfl,HB2⟩
theorem xdchk_n (p q g h d:Int) (sl:Option Addr) (cap:Nat) (ns:List Int) (w:World) (hC:Hid (∀u,CC 37 #[GX p q g h] u (.int .i64 0)))(hN:Hid (∀u,CC 38 #[.int .i64 d] u (.bool false))):
 CC 20 #[GX p q g h,DX d (.slice sl ns.length cap)] w (.int .i64 110):=by
 go_enter Tryz.func20,Tryz.ntmps20
 go_upto_region 1 with fail
 obtain⟨v0,hC,HB0,K0⟩:=bx2 w (GE (p) (q) (g) (h)) 26 (DE (d) (.slice sl ns.length cap)) 30
 rw[hC]
 clear hC
 apply Rn K0 HB0 [(0,6,_),(1,7,_),(2,8,_)]
 ·exact oc (g_ld 0 Tryz.underlying26 Z0)<|oc (g_cl ent_K1 hC.out)<|oc (g_bn (fun uZ=>Zs _ _ _ 0 0 _ uZ rfl)) on
 intro u1 HB1 sz1 K1
 simp only[sQ] at K1⊢
 clear K0 HB0
 go_upto_region 3 with fail
 apply Rn K1 HB1 [(0,9,_),(1,10,_),(2,11,_),(3,12,_),(4,13,_),(5,14,undef),(6,15,undef),(7,16,undef),(8,17,undef),(9,18,_),(10,19,_),(11,20,undef),(12,21,undef),(13,22,undef),(14,23,undef),(15,24,_)]
 ·exact oc (g_fd (fdD0 _))<|oc (g_lc 1 0 lI)<|oc (g_cl Zg hN.out)<|oc (g_un not_f)<|oc g_mv<|oc g_sk<|oc g_sk<|oc g_sk<|oc g_sk<|oc g_pk<|oc g_mv<|oc g_sk<|oc g_sk<|oc g_sk<|oc g_sk<|oc g_pk on
 intro u2 HB2 sz2 K2
 simp only[sQ] at K2⊢
 clear K1 HB1
 go_upto_region 4 with fail
 apply Rn K2 HB2 [(0,4,_)]
 ·exact oc g_as on
 intro u3 HB3 sz3 K3
 simp only[sQ] at K3⊢
 clear K2 HB2
 go_wp2
 refine bodyPost_ret (v:= .int .i64 110) (by simp[results,Tryz.results20,go_sem,]) rfl ⟨rfl,HB3⟩
theorem xdchk_l (p q g h d:Int) (sl:Option Addr) (cap:Nat) (ns:List Int) (w:World) (hC:Hid (∀u,CC 37 #[GX p q g h] u (.int .i64 0)))(hN:Hid (∀u,CC 38 #[.int .i64 d] u (.bool true)))(h1:decide ((ns.length:Int)<1)=true):
 CC 20 #[GX p q g h,DX d (.slice sl ns.length cap)] w (.int .i64 110):=by
 go_enter Tryz.func20,Tryz.ntmps20
 go_upto_region 1 with fail
 obtain⟨v0,hC,HB0,K0⟩:=bx2 w (GE (p) (q) (g) (h)) 26 (DE (d) (.slice sl ns.length cap)) 30
 rw[hC]
 clear hC
 apply Rn K0 HB0 [(0,6,_),(1,7,_),(2,8,_)]
 ·exact oc (g_ld 0 Tryz.underlying26 Z0)<|oc (g_cl ent_K1 hC.out)<|oc (g_bn (fun uZ=>Zs _ _ _ 0 0 _ uZ rfl)) on
 intro u1 HB1 sz1 K1
 simp only[sQ] at K1⊢
 clear K0 HB0
 go_upto_region 3 with fail
 apply Rn K1 HB1 [(0,9,_),(1,10,_),(2,11,_),(3,12,_),(4,13,_),(5,14,_),(6,15,_),(7,16,_),(8,17,_),(9,18,_),(10,19,_),(11,20,undef),(12,21,undef),(13,22,undef),(14,23,undef),(15,24,_)]
 ·exact oc (g_fd (fdD0 _))<|oc (g_lc 1 0 lI)<|oc (g_cl Zg hN.out)<|oc (g_un Wp)<|oc g_mv<|oc (g_fd (fdD1 _))<|oc (g_lc 1 1 lSN)<|oc (g_ln Tryz.underlying27)<|oc (g_bn (fun uZ=>Zw _ _ (ns.length:Int) 1 _ uZ h1))<|oc g_pk<|oc g_mv<|oc g_sk<|oc g_sk<|oc g_sk<|oc g_sk<|oc g_pk on
 intro u2 HB2 sz2 K2
 simp only[sQ] at K2⊢
 clear K1 HB1
 go_upto_region 4 with fail
 apply Rn K2 HB2 [(0,4,_)]
 ·exact oc g_as on
 intro u3 HB3 sz3 K3
 simp only[sQ] at K3⊢
 clear K2 HB2
 go_wp2
 refine bodyPost_ret (v:= .int .i64 110) (by simp[results,Tryz.results20,go_sem,]) rfl ⟨rfl,HB3⟩
theorem xdchk_g (p q g h d:Int) (sl:Option Addr) (cap:Nat) (ns:List Int) (w:World) (hC:Hid (∀u,CC 37 #[GX p q g h] u (.int .i64 0)))(hN:Hid (∀u,CC 38 #[.int .i64 d] u (.bool true)))(h1:decide ((ns.length:Int)<1)=false)(h6:decide (6<(ns.length:Int))=true):
 CC 20 #[GX p q g h,DX d (.slice sl ns.length cap)] w (.int .i64 110):=by
 go_enter Tryz.func20,Tryz.ntmps20
 go_upto_region 1 with fail
 obtain⟨v0,hC,HB0,K0⟩:=bx2 w (GE (p) (q) (g) (h)) 26 (DE (d) (.slice sl ns.length cap)) 30
 rw[hC]
 clear hC
 apply Rn K0 HB0 [(0,6,_),(1,7,_),(2,8,_)]
 ·exact oc (g_ld 0 Tryz.underlying26 Z0)<|oc (g_cl ent_K1 hC.out)<|oc (g_bn (fun uZ=>Zs _ _ _ 0 0 _ uZ rfl)) on
 intro u1 HB1 sz1 K1
 simp only[sQ] at K1⊢
 clear K0 HB0
 go_upto_region 3 with fail
 apply Rn K1 HB1 [(0,9,_),(1,10,_),(2,11,_),(3,12,_),(4,13,_),(5,14,_),(6,15,_),(7,16,_),(8,17,_),(9,18,_),(10,19,_),(11,20,_),(12,21,_),(13,22,_),(14,23,_),(15,24,_)]
 ·exact oc (g_fd (fdD0 _))<|oc (g_lc 1 0 lI)<|oc (g_cl Zg hN.out)<|oc (g_un Wp)<|oc g_mv<|oc (g_fd (fdD1 _))<|oc (g_lc 1 1 lSN)<|oc (g_ln Tryz.underlying27)<|oc (g_bn (fun uZ=>Zw _ _ (ns.length:Int) 1 _ uZ h1))<|oc g_pk<|oc g_mv<|oc (g_fd (fdD1 _))<|oc (g_lc 1 1 lSN)<|oc (g_ln Tryz.underlying27)<|oc (g_bn (fun uZ=>gtr_i _ _ (ns.length:Int) 6 _ uZ h6))<|oc g_pk on
 intro u2 HB2 sz2 K2
 simp only[sQ] at K2⊢
 clear K1 HB1
 go_upto_region 4 with fail
 apply Rn K2 HB2 [(0,4,_)]
 ·exact oc g_as on
 intro u3 HB3 sz3 K3
 simp only[sQ] at K3⊢
 clear K2 HB2
 go_wp2
 refine bodyPost_ret (v:= .int .i64 110) (by simp[results,Tryz.results20,go_sem,]) rfl ⟨rfl,HB3⟩
theorem xdchk_k (p q g h d:Int) (r:Int) (sl:Option Addr) (gb go cap:Nat) (ns:List Int) (w:World) (hC:Hid (∀u,CC 37 #[GX p q g h] u (.int .i64 0)))(hN:Hid (∀u,CC 38 #[.int .i64 d] u (.bool true)))(h1:decide ((ns.length:Int)<1)=false)(h6:decide (6<(ns.length:Int))=false) (hp:In p) (hq:In q) (hix:Hid (∀j,j<ns.length-> ∀W,(Instr.indexAt 27 (.slice sl ns.length cap) (.int .i64 j)).run Tryz.prog W= .ok (.pointer (some ⟨gb,go+4*j,none⟩)) W)) (hg:ns.length=0\/gb<w.heap.size) (hS:Hid (SN w gb go ns)) (hn:Hid (∀k,k<ns.length->In (ns.getD k 0))) (hns:ns.length<=1000) (hyes:Hid ((∀k,k<ns.length->isB p q (ns.getD k 0)=true)->r=0)) (hno:Hid (∀k,k<ns.length->isB p q (ns.getD k 0)=false->r=110)):
 CC 20 #[GX p q g h,DX d (.slice sl ns.length cap)] w (.int .i64 r):=by
 go_enter Tryz.func20,Tryz.ntmps20
 go_upto_region 1 with fail
 obtain⟨v0,hC,HB0,K0⟩:=bx2 w (GE (p) (q) (g) (h)) 26 (DE (d) (.slice sl ns.length cap)) 30
 rw[hC]
 clear hC
 apply Rn K0 HB0 [(0,6,_),(1,7,_),(2,8,_)]
 ·exact oc (g_ld 0 Tryz.underlying26 Z0)<|oc (g_cl ent_K1 hC.out)<|oc (g_bn (fun uZ=>Zs _ _ _ 0 0 _ uZ rfl)) on
 intro u1 HB1 sz1 K1
 simp only[sQ] at K1⊢
 clear K0 HB0
 go_upto_region 3 with fail
 apply Rn K1 HB1 [(0,9,_),(1,10,_),(2,11,_),(3,12,_),(4,13,_),(5,14,_),(6,15,_),(7,16,_),(8,17,_),(9,18,_),(10,19,_),(11,20,_),(12,21,_),(13,22,_),(14,23,_),(15,24,_)]
 ·exact oc (g_fd (fdD0 _))<|oc (g_lc 1 0 lI)<|oc (g_cl Zg hN.out)<|oc (g_un Wp)<|oc g_mv<|oc (g_fd (fdD1 _))<|oc (g_lc 1 1 lSN)<|oc (g_ln Tryz.underlying27)<|oc (g_bn (fun uZ=>Zw _ _ (ns.length:Int) 1 _ uZ h1))<|oc g_pk<|oc g_mv<|oc (g_fd (fdD1 _))<|oc (g_lc 1 1 lSN)<|oc (g_ln Tryz.underlying27)<|oc (g_bn (fun uZ=>gtr_i _ _ (ns.length:Int) 6 _ uZ h6))<|oc g_pk on
 intro u2 HB2 sz2 K2
 simp only[sQ] at K2⊢
 clear K1 HB1
 go_upto_region 5 with fail
 apply Rn K2 HB2 [(0,5,_)]
 ·exact oc g_as on
 intro u3 HB3 sz3 K3
 simp only[sQ] at K3⊢
 clear K2 HB2
 go_wp2_with fail
 go_loopw [5] (fun s5 wr=> ∃(k:Nat),k<=ns.length/\s5= .int .i64 (k:Int)/\Bw w wr/\CV wr (w.heap.size) (GE (p) (q) (g) (h))/\w.heap.size<wr.heap.size/\CV wr (w.heap.size+1) (DE (d) (.slice sl ns.length cap))/\w.heap.size+1<wr.heap.size/\Hid (∀j,j<k->isB p q (ns.getD j 0)=true)) (fun s5 _=>ns.length -(intOf s5).toNat)
 case atStart=>exact⟨0,by omega,rfl,HB3,(K3.cv 0),(K3.lt 0),(K3.cv 1),(K3.lt 1),(fun j h=>by omega)⟩
 case round=>
  obtain⟨k,hk,rfl,HBr,C0,lC0,C1,lC1,hall⟩:=hrel
  clear HB3
  have hnK:=K3.n
  simp at hnK
  by_cases hj:k<ns.length
  ·have hl:decide ((k:Int)<(ns.length:Int))=true:=by simp;omega
   have hX:=hix.out _ hj
   have hX:Hid _:=hX
   have hR:=hS.out.at _ hj
   have hR:Hid _:=hR
   have ix:=hn.out k hj
   have hg':=hg.resolve_left (by omega)
   have hr1:=hno.out k hj
   have hr0:Hid (isB p q (ns.getD k 0)=true-> ∀j,j<k+1->isB p q (ns.getD j 0)=true):=fun e j hjk=>by
    by_cases ej:j=k
    ·subst ej;exact e
    ·exact hall.out j (by omega)
   have hI:Hid (∀u,CC 40 #[GX p q g h,NV (ns.getD k 0)] u (.bool (isB p q (ns.getD k 0)))):=fun u=>xIs p q g h _ u hp hq ix
   obtain⟨x,ex⟩: ∃x,ns.getD k 0=x:=⟨_,rfl⟩
   rw[ex] at hR ix hr1 hr0 hI
   clear ex
   by_cases hb:isB p q x=true
   ·rw[hb] at hI
    have K3_1:Bk w.heap.size wr [(false,w.heap.size,GE (p) (q) (g) (h)),(false,w.heap.size+1,DE (d) (.slice sl ns.length cap))]:=⟨.c lC0 C0<| .c lC1 C1<|trivial,by simp<;>omega⟩
    go_upto_region 6 with fail
    apply Rn K3_1 HBr [(0,25,_),(1,26,_),(2,27,_),(3,28,_),(4,29,_)]
    ·exact oc g_mv<|oc (g_fd (fdD1 _))<|oc (g_lc 1 1 lSN)<|oc (g_ln Tryz.underlying27)<|oc (g_bn (fun uZ=>Zw _ _ (k:Int) (ns.length:Int) _ uZ hl)) on
    intro u4 HB4 sz4 K4
    simp only[sQ] at K4⊢
    go_upto_region 8 with fail
    apply Rm K4 HB4 [(0,32,_),(1,33,_),(2,34,_),(3,35,_),(4,36,_),(5,37,_),(6,38,_),(7,39,_)]
    ·exact oc (g_ld 0 Tryz.underlying26 Z0)<|oc (g_fd (fdD1 _))<|oc (g_lc 1 1 lSN)<|oc g_mv<|oc (g_ix hX.out)<|oc (g_lf hR.out hg' uN iN)<|oc (g_cl ent_K2 hI.out)<|oc (g_un Wp) on
    intro u5 HB5 sz5 K5
    simp only[sQ] at K5⊢
    clear K4 HB4
    go_upto_region 7 with fail
    apply Rp K5 HB5 [] [] [(0,30,_),(1,31,_),(2,5,_)] [(2,0)] [(2,5)] []
    ·exact oc g_mv<|oc (g_bn (fun uZ=>Yq _ _ (k:Int) 1 ((k+1:Nat):Int) uZ (by omega) (by omega) (by omega)))<|oc g_as on
    intro u6 HB6 sz6 K6
    simp only[sQ] at K6⊢
    clear K5 HB5
    go_wp2
    refine⟨⟨k+1,by omega,rfl,HB6,(K6.cv 0),(K6.lt 0),(K6.cv 1),(K6.lt 1),hr0.out hb⟩,?_⟩
    simp[intOf]<;>omega
   ·rw[Bool.not_eq_true] at hb
    rw[hb] at hI
    have K3_1:Bk w.heap.size wr [(false,w.heap.size,GE (p) (q) (g) (h)),(false,w.heap.size+1,DE (d) (.slice sl ns.length cap))]:=⟨.c lC0 C0<| .c lC1 C1<|trivial,by simp<;>omega⟩
    go_upto_region 6 with fail
    apply Rn K3_1 HBr [(0,25,_),(1,26,_),(2,27,_),(3,28,_),(4,29,_)]
    ·exact oc g_mv<|oc (g_fd (fdD1 _))<|oc (g_lc 1 1 lSN)<|oc (g_ln Tryz.underlying27)<|oc (g_bn (fun uZ=>Zw _ _ (k:Int) (ns.length:Int) _ uZ hl)) on
    intro u4 HB4 sz4 K4
    simp only[sQ] at K4⊢
    go_upto_region 8 with fail
    apply Rm K4 HB4 [(0,32,_),(1,33,_),(2,34,_),(3,35,_),(4,36,_),(5,37,_),(6,38,_),(7,39,_)]
    ·exact oc (g_ld 0 Tryz.underlying26 Z0)<|oc (g_fd (fdD1 _))<|oc (g_lc 1 1 lSN)<|oc g_mv<|oc (g_ix hX.out)<|oc (g_lf hR.out hg' uN iN)<|oc (g_cl ent_K2 hI.out)<|oc (g_un not_f) on
    intro u5 HB5 sz5 K5
    simp only[sQ] at K5⊢
    clear K4 HB4
    go_upto_region 9 with fail
    apply Rn K5 HB5 [(0,4,_)]
    ·exact oc g_as on
    intro u6 HB6 sz6 K6
    simp only[sQ] at K6⊢
    clear K5 HB5
    go_wp2
    obtain rfl:=hr1 hb
    exact bodyPost_ret (v:= .int .i64 110) (by simp[results,Tryz.results20,go_sem]) rfl ⟨rfl,HB6⟩
  ·have hl:decide ((k:Int)<(ns.length:Int))=false:=by simp;omega
   have hk0:=hyes.out fun j hj2=>hall.out j (by omega)
   have K3_1:Bk w.heap.size wr [(false,w.heap.size,GE (p) (q) (g) (h)),(false,w.heap.size+1,DE (d) (.slice sl ns.length cap))]:=⟨.c lC0 C0<| .c lC1 C1<|trivial,by simp<;>omega⟩
   go_upto_region 6 with fail
   apply Rn K3_1 HBr [(0,25,_),(1,26,_),(2,27,_),(3,28,_),(4,29,_)]
   ·exact oc g_mv<|oc (g_fd (fdD1 _))<|oc (g_lc 1 1 lSN)<|oc (g_ln Tryz.underlying27)<|oc (g_bn (fun uZ=>Zw _ _ (k:Int) (ns.length:Int) _ uZ hl)) on
   intro u4 HB4 sz4 K4
   simp only[sQ] at K4⊢
   go_upto_region 10 with fail
   apply Rn K4 HB4 [(0,4,_)]
   ·exact oc g_as on
   intro u5 HB5 sz5 K5
   simp only[sQ] at K5⊢
   clear K4 HB4
   go_wp2
   subst hk0
   exact bodyPost_ret (v:= .int .i64 0) (by simp[results,Tryz.results20,go_sem]) rfl ⟨rfl,HB5⟩
def dcE (p q d:Int) (ns:List Int):Int:=if gOk p q then (if ndB d&&decide (1<=ns.length/\ns.length<=6)&&ns.all (isB p q) then 0 else 110) else 90
theorem all_get {ns:List Int} {f:Int->Bool}:ns.all f=true↔ ∀k,k<ns.length->f (ns.getD k 0)=true:=by
 rw[List.all_eq_true]
 constructor
 ·exact fun h k hk=>h _ (by simp[List.getElem?_eq_getElem hk])
 ·intro h x hx
  obtain⟨k,hk,rfl⟩:=List.mem_iff_getElem.1 hx
  have:=h k hk
  simpa [List.getElem?_eq_getElem hk] using this
theorem xCheckD (p q g h d:Int) (ns:List Int) (v:Value) (w:World) (hp:In p) (hq:In q) (hv:NL w v ns) (hns: ∀z∈ns,In z) (hl:ns.length<=256):CC 20 #[GX p q g h,DX d v] w (.int .i64 (dcE p q d ns)):=by
 obtain⟨sl,gb,go,cap,rfl,h2,h3,h4,h5,h6⟩:=hv
 have hC:=fun u=>xCheckG p q g h u hp hq
 have hN:=fun u=>xNode d u
 unfold chE at hC
 unfold dcE
 by_cases hg:gOk p q
 ·rw[if_pos hg]
  simp only[if_pos hg] at hC
  by_cases hd:ndB d=true
  ·rw[hd] at hN⊢
   by_cases l1:ns.length<1
   ·rw[show (decide (1<=ns.length/\ns.length<=6))=false by rw[decide_eq_false_iff_not];omega]
    exact xdchk_l p q g h d sl cap ns w hC hN (by simp;omega)
   ·by_cases l6:6<ns.length
    ·rw[show (decide (1<=ns.length/\ns.length<=6))=false by rw[decide_eq_false_iff_not];omega]
     exact xdchk_g p q g h d sl cap ns w hC hN (by simp;omega) (by simp;omega)
    ·rw[show (decide (1<=ns.length/\ns.length<=6))=true by rw[decide_eq_true_iff];omega]
     refine xdchk_k p q g h d _ sl gb go cap ns w hC hN (by simp;omega) (by simp;omega) hp hq (NL.ix (u:=w) h4) h5 h6 (Ym hns) (by omega) (fun ha=>?_) (fun k hk hb=>?_)
     ·rw[Bool.true_and,Bool.true_and,if_pos (all_get.2 ha)]
     ·rw[Bool.true_and,Bool.true_and,if_neg (fun ha=>by rw[all_get.1 ha k hk] at hb;cases hb)]
  ·rw[Bool.not_eq_true] at hd
   rw[hd] at hN⊢
   exact xdchk_n p q g h d sl cap ns w hC hN
 ·rw[if_neg hg]
  simp only[if_neg hg] at hC
  exact xdchk_c p q g h d sl cap ns w hC
abbrev SZ:Value:= .agg L0h.toArray
theorem zSh (w:World):(Instr.build 35 [].toArray).run Tryz.prog w= .ok SZ w:=by kernel_rfl
theorem bdSh (n s t:Int) (w:World):(Instr.build 35 [(0,.int .i64 n),(1,NV s),(2,NV t)].toArray).run Tryz.prog w= .ok (SX n s t) w:=by kernel_rfl
theorem fdS0 (b:Nat) (w:World):(Instr.fieldAt 35 (.pointer (some ⟨b,0,none⟩)) 0).run Tryz.prog w= .ok (.pointer (some ⟨b,0,none⟩)) w:=by go_simp
theorem fdS1 (b:Nat) (w:World):(Instr.fieldAt 35 (.pointer (some ⟨b,0,none⟩)) 1).run Tryz.prog w= .ok (.pointer (some ⟨b,1,none⟩)) w:=by go_simp
theorem fdS2 (b:Nat) (w:World):(Instr.fieldAt 35 (.pointer (some ⟨b,0,none⟩)) 2).run Tryz.prog w= .ok (.pointer (some ⟨b,5,none⟩)) w:=by go_simp
theorem Y8:EnT 18:=fun _ _=>by kernel_rfl
theorem ent_K3:EnT 32:=fun _ _=>by kernel_rfl
theorem ent_K4:EnT 48:=fun _ _=>by kernel_rfl
theorem ent_K6:EnT 49:=fun _ _=>by kernel_rfl
def shO (p q nd:Int) (ss ts:List Int):Int:=if gOk p q then (if shB ss.length ts.length then (if ndB nd then 0 else 2) else 110) else 90
def shV (p q nd:Int) (ss ts:List Int):Value:=if shO p q nd ss ts=0 then SX nd (hoN q nd ss ss.length) (hoN q nd ts ts.length) else SZ
theorem ndB_iff {n:Int}:ndB n=true↔1<=n/\n<=16:=decide_eq_true_iff
theorem shB_iff {n m:Nat}:shB n m=true↔n=m/\1<=n/\n<=6:=decide_eq_true_iff
theorem xat_c (p q g h d nd c:Int) (sl:Option Addr) (cap:Nat) (ns:List Int) (w:World) (hc:(c !=0)=true)(hK:Hid (∀u,Bw w u->CC 20 #[GX p q g h,DX d (.slice sl ns.length cap)] u (.int .i64 c))):
 CC 18 #[GX p q g h,DX d (.slice sl ns.length cap),.int .i64 nd] w (.tuple #[A4 0 0 0 0,.int .i64 c]):=by
 go_enter Tryz.func18,Tryz.ntmps18
 go_upto_region 1 with fail
 obtain⟨v0,hC,HB0,K0⟩:=bx3 w (GE (p) (q) (g) (h)) 26 (DE (d) (.slice sl ns.length cap)) 30 L0s 24
 rw[hC]
 clear hC
 apply Rn K0 HB0 [(0,14,_),(1,15,_),(2,16,_),(3,8,_)]
 ·exact oc (g_ld 0 Tryz.underlying26 Z0)<|oc (g_ld 1 Tryz.underlying30 Z2)<|oc (g_cb Yb hK.out)<|oc g_as on
 intro u1 HB1 sz1 K1
 simp only[sQ] at K1⊢
 clear K0 HB0
 go_upto_region 2 with fail
 apply Rn K1 HB1 [(0,17,_),(1,18,_)]
 ·exact oc g_mv<|oc (g_bn (fun uZ=>Zs _ _ _ c 0 _ uZ hc)) on
 intro u2 HB2 sz2 K2
 simp only[sQ] at K2⊢
 clear K1 HB1
 go_upto_region 3 with fail
 apply Rp K2 HB2 [.no,.no,.all 2 ([.int .u64 (0),.int .u64 (0),.int .u64 (0),.int .u64 (0)])] [] [(0,19,_),(1,20,_),(3,7,_)] [] [] []
 ·exact oc (g_bd zN)<|oc g_mv<|oc (g_st 2 iN)<|oc g_as on
 intro u3 HB3 sz3 K3
 simp only[sQ] at K3⊢
 clear K2 HB2
 have c6:=(K3.cv 2).n4
 go_wp2
 refine bodyPost_ret (v:= .tuple #[A4 0 0 0 0,.int .i64 c]) (by simp[results,Tryz.results18,go_sem,c6]) rfl ⟨rfl,HB3⟩
theorem xat_n (p q g h d nd:Int) (sl:Option Addr) (cap:Nat) (ns:List Int) (w:World) (hK:Hid (∀u,Bw w u->CC 20 #[GX p q g h,DX d (.slice sl ns.length cap)] u (.int .i64 0)))(hN:Hid (∀u,CC 38 #[.int .i64 nd] u (.bool false))):
 CC 18 #[GX p q g h,DX d (.slice sl ns.length cap),.int .i64 nd] w (.tuple #[A4 0 0 0 0,.int .i64 2]):=by
 go_enter Tryz.func18,Tryz.ntmps18
 go_upto_region 1 with fail
 obtain⟨v0,hC,HB0,K0⟩:=bx3 w (GE (p) (q) (g) (h)) 26 (DE (d) (.slice sl ns.length cap)) 30 L0s 24
 rw[hC]
 clear hC
 apply Rn K0 HB0 [(0,14,_),(1,15,_),(2,16,_),(3,8,_)]
 ·exact oc (g_ld 0 Tryz.underlying26 Z0)<|oc (g_ld 1 Tryz.underlying30 Z2)<|oc (g_cb Yb hK.out)<|oc g_as on
 intro u1 HB1 sz1 K1
 simp only[sQ] at K1⊢
 clear K0 HB0
 go_upto_region 2 with fail
 apply Rn K1 HB1 [(0,17,_),(1,18,_)]
 ·exact oc g_mv<|oc (g_bn (fun uZ=>Zs _ _ _ 0 0 _ uZ rfl)) on
 intro u2 HB2 sz2 K2
 simp only[sQ] at K2⊢
 clear K1 HB1
 go_upto_region 4 with fail
 apply Rn K2 HB2 [(0,21,_),(1,22,_),(2,23,_)]
 ·exact oc g_mv<|oc (g_cl Zg hN.out)<|oc (g_un not_f) on
 intro u3 HB3 sz3 K3
 simp only[sQ] at K3⊢
 clear K2 HB2
 go_upto_region 5 with fail
 apply Rp K3 HB3 [.no,.no,.all 1 ([.int .u64 (0),.int .u64 (0),.int .u64 (0),.int .u64 (0)])] [] [(0,24,_),(2,7,_)] [] [] []
 ·exact oc (g_bd zN)<|oc (g_st 2 iN)<|oc g_as on
 intro u4 HB4 sz4 K4
 simp only[sQ] at K4⊢
 clear K3 HB3
 have c6:=(K4.cv 2).n4
 go_wp2
 refine bodyPost_ret (v:= .tuple #[A4 0 0 0 0,.int .i64 2]) (by simp[results,Tryz.results18,go_sem,c6]) rfl ⟨rfl,HB4⟩
def atO (p q nd:Int) (ns:List Int):Nat->Int
 | 0=>1
 | k+1=>(atO p q nd ns k*(ns.getD k 0^(pwN q nd k).toNat%p))%p
theorem atO_In {p q nd:Int} {ns:List Int} (hp:In p) (hp0:p≠0): ∀k,In (atO p q nd ns k)
 | 0=>In_1
 | k+1=>Zq hp hp0
theorem xat_k (p q g h d nd:Int) (sl:Option Addr) (gb go cap:Nat) (ns:List Int) (w:World) (hK:Hid (∀u,Bw w u->CC 20 #[GX p q g h,DX d (.slice sl ns.length cap)] u (.int .i64 0)))(hN:Hid (∀u,CC 38 #[.int .i64 nd] u (.bool true))) (hp:In p) (hq:In q) (hp0:p≠0) (hq0:q≠0) (h0:0<=nd) (h1:nd<=16) (hix:Hid (∀j,j<ns.length-> ∀W,(Instr.indexAt 27 (.slice sl ns.length cap) (.int .i64 j)).run Tryz.prog W= .ok (.pointer (some ⟨gb,go+4*j,none⟩)) W)) (hg:ns.length=0\/gb<w.heap.size) (hS:Hid (SN w gb go ns)) (hn:Hid (∀k,k<ns.length->In (ns.getD k 0))) (hns:ns.length<=1000):
 CC 18 #[GX p q g h,DX d (.slice sl ns.length cap),.int .i64 nd] w (.tuple #[NV (atO p q nd ns ns.length),.int .i64 0]):=by
 go_enter Tryz.func18,Tryz.ntmps18
 go_upto_region 1 with fail
 obtain⟨v0,hC,HB0,K0⟩:=bx3 w (GE (p) (q) (g) (h)) 26 (DE (d) (.slice sl ns.length cap)) 30 L0s 24
 rw[hC]
 clear hC
 apply Rn K0 HB0 [(0,14,_),(1,15,_),(2,16,_),(3,8,_)]
 ·exact oc (g_ld 0 Tryz.underlying26 Z0)<|oc (g_ld 1 Tryz.underlying30 Z2)<|oc (g_cb Yb hK.out)<|oc g_as on
 intro u1 HB1 sz1 K1
 simp only[sQ] at K1⊢
 clear K0 HB0
 go_upto_region 2 with fail
 apply Rn K1 HB1 [(0,17,_),(1,18,_)]
 ·exact oc g_mv<|oc (g_bn (fun uZ=>Zs _ _ _ 0 0 _ uZ rfl)) on
 intro u2 HB2 sz2 K2
 simp only[sQ] at K2⊢
 clear K1 HB1
 go_upto_region 4 with fail
 apply Rn K2 HB2 [(0,21,_),(1,22,_),(2,23,_)]
 ·exact oc g_mv<|oc (g_cl Zg hN.out)<|oc (g_un Wp) on
 intro u3 HB3 sz3 K3
 simp only[sQ] at K3⊢
 clear K2 HB2
 go_upto_region 6 with fail
 apply Rp K3 HB3 [] [(2,9,L0s,some (4,LN 1)),(3,10,L0s,some (5,LN 1))] [(0,25,_),(1,26,_)] [(4,2),(5,3)] [] []
 ·exact oc (g_bd (fun uZ=>bdNk 1 (by omega) (by omega) uZ))<|oc (g_bd (fun uZ=>bdNk 1 (by omega) (by omega) uZ))<|oc (g_al 0 aN)<|oc (g_al 1 aN)<|oc (g_sn 0 iN)<|oc (g_sn 1 iN) on
 intro u4 b4_2 b4_3 HB4 sz4 K4
 simp only[sQ] at K4⊢
 clear K3 HB3
 go_upto_region 7 with fail
 apply Rn K4 HB4 [(0,11,_)]
 ·exact oc g_as on
 intro u5 HB5 sz5 K5
 simp only[sQ] at K5⊢
 clear K4 HB4
 go_wp2_with fail
 go_loopw [11] (fun s11 wr=> ∃(k:Nat),k<=ns.length/\s11= .int .i64 (k:Int)/\Bw w wr/\CV wr (w.heap.size) (GE (p) (q) (g) (h))/\w.heap.size<wr.heap.size/\CV wr (w.heap.size+1) (DE (d) (.slice sl ns.length cap))/\w.heap.size+1<wr.heap.size/\CV wr (w.heap.size+1+1) (L0s)/\w.heap.size+1+1<wr.heap.size/\CV wr (b4_2) (LN (atO p q nd ns k))/\b4_2<wr.heap.size/\CV wr (b4_3) (LN (pwN q nd k))/\b4_3<wr.heap.size) (fun s11 _=>ns.length -(intOf s11).toNat)
 case atStart=>exact⟨0,by omega,rfl,HB5,(K5.cv 0),(K5.lt 0),(K5.cv 1),(K5.lt 1),(K5.cv 2),(K5.lt 2),(K5.cv 3),(K5.lt 3),(K5.cv 4),(K5.lt 4)⟩
 case round=>
  obtain⟨k,hk,rfl,HBr,C0,lC0,C1,lC1,C2,lC2,C3,lC3,C4,lC4⟩:=hrel
  clear HB5
  have hnK:=K5.n
  simp at hnK
  have hoK3:=K5.lo 3
  have hoK4:=K5.lo 4
  by_cases hj:k<ns.length
  ·have hl:decide ((k:Int)<(ns.length:Int))=true:=by simp;omega
   have hX:=hix.out _ hj
   have hX:Hid _:=hX
   have hR:=hS.out.at _ hj
   have hR:Hid _:=hR
   have ix:=hn.out k hj
   have hg':=hg.resolve_left (by omega)
   have ia:=atO_In (q:=q) (nd:=nd) (ns:=ns) hp hp0 k
   have iw:=pwN_In (x:=nd) hq hq0 k
   have ea:Hid (atO p q nd ns (k+1)=(atO p q nd ns k*(ns.getD k 0^(pwN q nd k).toNat%p))%p):=rfl
   have ew:Hid (pwN q nd (k+1)=(pwN q nd k*nd)%q):=rfl
   obtain⟨x,ex⟩: ∃x,ns.getD k 0=x:=⟨_,rfl⟩
   rw[ex] at hR ix ea
   clear ex
   obtain⟨o,eo⟩: ∃o,atO p q nd ns k=o:=⟨_,rfl⟩
   rw[eo] at ia ea C3
   clear eo
   obtain⟨y,ey⟩: ∃y,pwN q nd k=y:=⟨_,rfl⟩
   rw[ey] at iw ew ea C4
   clear ey
   have hE:Hid (∀u,CC 48 #[NV x,NV y,NV p] u (.tuple #[NV (x^y.toNat%p),.int .i64 0])):=fun u=>xExp x y p u ix iw hp hp0
   obtain⟨z,ez⟩: ∃z,x^y.toNat%p=z:=⟨_,rfl⟩
   have iz:In z:=by rw[<-ez];exact Zq hp hp0
   rw[ez] at ea hE
   clear ez
   have K5_1:Bk w.heap.size wr [(false,w.heap.size,GE (p) (q) (g) (h)),(false,w.heap.size+1,DE (d) (.slice sl ns.length cap)),(true,w.heap.size+1+1,L0s),(true,b4_2,LN o),(true,b4_3,LN y)]:=⟨.c lC0 C0<| .c lC1 C1<| .o lC2 (K5.lo 2) C2<| .o lC3 (K5.lo 3) C3<| .o lC4 (K5.lo 4) C4<|trivial,by simp<;>omega⟩
   go_upto_region 8 with fail
   apply Rn K5_1 HBr [(0,27,_),(1,28,_),(2,29,_),(3,30,_),(4,31,_)]
   ·exact oc g_mv<|oc (g_fd (fdD1 _))<|oc (g_lc 1 1 lSN)<|oc (g_ln Tryz.underlying27)<|oc (g_bn (fun uZ=>Zw _ _ (k:Int) (ns.length:Int) _ uZ hl)) on
   intro u6 HB6 sz6 K6
   simp only[sQ] at K6⊢
   go_upto_region 10 with fail
   apply Rd K6 HB6 [] [(12,12,L0s,some (13,LN z))] [(0,35,_),(1,36,_),(2,37,_),(3,38,_),(4,39,_),(5,40,_),(6,41,_),(7,42,_),(8,43,_),(9,34,_),(10,44,_),(11,45,_),(14,13,_)] [(13,12)] [] []
   ·exact oc (g_fd (fdD1 _))<|oc (g_lc 1 1 lSN)<|oc g_mv<|oc (g_ix hX.out)<|oc (g_lf hR.out hg' uN iN)<|oc (g_ld 4 uN iN)<|oc (g_fd (fdG0 _))<|oc (g_lo 0 0 uN iN)<|oc (g_cl ent_K4 hE.out)<|oc g_mv<|oc g_ex<|oc g_ex<|oc (g_al 0 aN)<|oc (g_sn 0 iN)<|oc g_as on
   intro u7 b7_12 HB7 sz7 K7
   simp only[sQ] at K7⊢
   clear K6 HB6
   go_upto_region 11 with fail
   apply Rp K7 HB7 [.no,.no,.no,.all 8 (LN (o*z%p))] [] [(0,47,_),(1,48,_),(2,49,_),(3,50,_),(4,51,_),(5,46,_),(6,52,_),(7,53,_)] [(8,0)] [] []
   ·exact oc (g_ld 3 uN iN)<|oc (g_ld 5 uN iN)<|oc (g_fd (fdG0 _))<|oc (g_lo 0 0 uN iN)<|oc (g_cl ent_K6 (fun uZ=>xMul o z p uZ ia iz hp hp0))<|oc g_mv<|oc g_ex<|oc g_ex<|oc (g_st 3 iN) on
   intro u8 HB8 sz8 K8
   simp only[sQ] at K8⊢
   clear K7 HB7
   go_upto_region 12 with fail
   apply Rp K8 HB8 [.no,.no,.no,.no,.all 10 (LN (y*nd%q))] [] [(0,55,_),(1,56,_),(2,57,_),(3,58,_),(4,59,_),(5,60,_),(6,61,_),(7,54,_),(8,62,_),(9,63,_)] [(10,0)] [] []
   ·exact oc (g_ld 4 uN iN)<|oc g_mv<|oc (g_op (fun ev uZ he=>cviP uZ h0 (by omega) rfl (he _ _ rfl)))<|oc (g_bd (fun uZ=>bdNk nd h0 (by omega) uZ))<|oc (g_fd (fdG1 _))<|oc (g_lo 0 4 uN iN)<|oc (g_cl ent_K6 (fun uZ=>xMul y nd q uZ iw ⟨h0,by omega⟩ hq hq0))<|oc g_mv<|oc g_ex<|oc g_ex<|oc (g_st 4 iN) on
   intro u9 HB9 sz9 K9
   simp only[sQ] at K9⊢
   clear K8 HB8
   go_upto_region 9 with fail
   apply Rp K9 HB9 [] [] [(0,32,_),(1,33,_),(2,11,_)] [(2,0)] [(2,11)] []
   ·exact oc g_mv<|oc (g_bn (fun uZ=>Yq _ _ (k:Int) 1 ((k+1:Nat):Int) uZ (by omega) (by omega) (by omega)))<|oc g_as on
   intro u10 HB10 sz10 K10
   simp only[sQ] at K10⊢
   clear K9 HB9
   go_wp2
   refine⟨⟨k+1,by omega,rfl,HB10,(K10.cv 0),(K10.lt 0),(K10.cv 1),(K10.lt 1),(K10.cv 2),(K10.lt 2),by rw[ea.out];exact(K10.cv 3),(K10.lt 3),by rw[ew.out];exact(K10.cv 4),(K10.lt 4)⟩,?_⟩
   simp[intOf]<;>omega
  ·have hl:decide ((k:Int)<(ns.length:Int))=false:=by simp;omega
   have hkn:k=ns.length:=by omega
   rw[hkn] at C3
   clear hkn
   have K5_1:Bk w.heap.size wr [(false,w.heap.size,GE (p) (q) (g) (h)),(false,w.heap.size+1,DE (d) (.slice sl ns.length cap)),(true,w.heap.size+1+1,L0s),(true,b4_2,LN (atO p q nd ns ns.length)),(true,b4_3,LN (pwN q nd k))]:=⟨.c lC0 C0<| .c lC1 C1<| .o lC2 (K5.lo 2) C2<| .o lC3 (K5.lo 3) C3<| .o lC4 (K5.lo 4) C4<|trivial,by simp<;>omega⟩
   go_upto_region 8 with fail
   apply Rn K5_1 HBr [(0,27,_),(1,28,_),(2,29,_),(3,30,_),(4,31,_)]
   ·exact oc g_mv<|oc (g_fd (fdD1 _))<|oc (g_lc 1 1 lSN)<|oc (g_ln Tryz.underlying27)<|oc (g_bn (fun uZ=>Zw _ _ (k:Int) (ns.length:Int) _ uZ hl)) on
   intro u6 HB6 sz6 K6
   simp only[sQ] at K6⊢
   go_upto_region 13 with fail
   apply Rp K6 HB6 [.no,.no,.all 1 (LN (atO p q nd ns ns.length))] [] [(0,64,_),(2,7,_)] [] [] []
   ·exact oc (g_ld 3 uN iN)<|oc (g_st 2 iN)<|oc g_as on
   intro u7 HB7 sz7 K7
   simp only[sQ] at K7⊢
   clear K6 HB6
   have c6:=(K7.cv 2).n4
   go_wp2
   refine bodyPost_ret (v:= .tuple #[NV (atO p q nd ns ns.length),.int .i64 0]) (by simp[results,Tryz.results18,go_sem,c6]) rfl ⟨rfl,HB7⟩
def atE (p q d nd:Int) (ns:List Int):Int:=if dcE p q d ns=0 then (if ndB nd then 0 else 2) else dcE p q d ns
def atX (p q d nd:Int) (ns:List Int):Int:=if atE p q d nd ns=0 then atO p q nd ns ns.length else 0
theorem dcE_0 {p q d:Int} {ns:List Int} (h:dcE p q d ns=0):gOk p q/\ndB d=true/\1<=ns.length/\ns.length<=6/\ns.all (isB p q)=true:=by
 unfold dcE at h
 by_cases c:gOk p q
 ·rw[if_pos c] at h
  split at h
  ·rename_i h2
   simp only[Bool.and_eq_true,decide_eq_true_eq] at h2
   exact⟨c,h2.1.1,h2.1.2.1,h2.1.2.2,h2.2⟩
  ·omega
 ·rw[if_neg c] at h;omega
theorem xAtD (p q g h d nd:Int) (ns:List Int) (v:Value) (w:World) (hp:In p) (hq:In q) (hv:NL w v ns) (hns: ∀z∈ns,In z) (hl:ns.length<=256):CC 18 #[GX p q g h,DX d v,.int .i64 nd] w (.tuple #[NV (atX p q d nd ns),.int .i64 (atE p q d nd ns)]):=by
 have a':=hv
 obtain⟨sl,gb,go,cap,rfl,h2,h3,h4,h5,h6⟩:=hv
 have hK:=fun u (hB:Bw w u)=>xCheckD p q g h d ns _ u hp hq (a'.up hB) hns hl
 have hN:=fun u=>xNode nd u
 by_cases c:dcE p q d ns=0
 ·rw[c] at hK
  obtain⟨c1,c2,c3,c4,c5⟩:=dcE_0 c
  have hq3:=c1.q3
  have hp7:=c1.2
  by_cases c6:ndB nd=true
  ·rw[c6] at hN
   have hb:=ndB_iff.1 c6
   have e0:atE p q d nd ns=0:=by simp[atE,c,c6]
   rw[atX,if_pos e0,e0]
   exact xat_k p q g h d nd sl gb go cap ns w hK hN hp hq (by omega) (by omega) (by omega) (by omega) (NL.ix (u:=w) h4) h5 h6 (Ym hns) (by omega)
  ·rw[Bool.not_eq_true] at c6
   rw[c6] at hN
   have e0:atE p q d nd ns=2:=by simp[atE,c,c6]
   rw[atX,e0,if_neg (by omega),NV_0]
   exact xat_n p q g h d nd sl cap ns w hK hN
 ·have e0:atE p q d nd ns=dcE p q d ns:=by simp[atE,c]
  rw[atX,e0,if_neg c,NV_0]
  exact xat_c p q g h d nd _ sl cap ns w (by simp[c]) hK
theorem xver_a (p q g h d nd s t a b c ev:Int) (sl:Option Addr) (cap n:Nat) (w:World) (he:(ev !=0)=true)(hA:Hid (∀u,Bw w u->CC 18 #[GX p q g h,DX d (.slice sl n cap),.int .i64 nd] u (.tuple #[NV a,.int .i64 ev]))):
 CC 22 #[GX p q g h,DX d (.slice sl n cap),SX nd s t] w (.int .i64 ev):=by
 go_enter Tryz.func22,Tryz.ntmps22
 go_upto_region 1 with fail
 obtain⟨v0,hC,HB0,K0⟩:=bx3 w (GE (p) (q) (g) (h)) 26 (DE (d) (.slice sl n cap)) 30 (SE (nd) (s) (t)) 35
 rw[hC]
 clear hC
 apply Rp K0 HB0 [] [(8,7,L0s,some (9,LN a))] [(0,11,_),(1,12,_),(2,13,_),(3,14,_),(4,15,_),(5,10,_),(6,16,_),(7,17,_),(10,8,_)] [(9,8)] [] []
 ·exact oc (g_ld 0 Tryz.underlying26 Z0)<|oc (g_ld 1 Tryz.underlying30 Z2)<|oc (g_fd (fdS0 _))<|oc (g_lc 2 0 lI)<|oc (g_cb Y8 hA.out)<|oc g_mv<|oc g_ex<|oc g_ex<|oc (g_al 0 aN)<|oc (g_sn 0 iN)<|oc g_as on
 intro u1 b1_8 HB1 sz1 K1
 simp only[sQ] at K1⊢
 clear K0 HB0
 go_upto_region 2 with fail
 apply Rn K1 HB1 [(0,18,_),(1,19,_)]
 ·exact oc g_mv<|oc (g_bn (fun uZ=>Zs _ _ _ ev 0 _ uZ he)) on
 intro u2 HB2 sz2 K2
 simp only[sQ] at K2⊢
 clear K1 HB1
 go_upto_region 3 with fail
 apply Rn K2 HB2 [(0,20,_),(1,6,_)]
 ·exact oc g_mv<|oc g_as on
 intro u3 HB3 sz3 K3
 simp only[sQ] at K3⊢
 clear K2 HB2
 go_wp2
 refine bodyPost_ret (v:= .int .i64 ev) (by simp[results,Tryz.results22,go_sem,]) rfl ⟨rfl,HB3⟩
theorem xver_m (p q g h d nd s t a b c ev:Int) (sl:Option Addr) (cap n:Nat) (w:World) (he:(ev !=0)=false) (hc:(c !=0)=true)(hA:Hid (∀u,Bw w u->CC 18 #[GX p q g h,DX d (.slice sl n cap),.int .i64 nd] u (.tuple #[NV a,.int .i64 ev])))(hM:Hid (∀u,CC 32 #[GX p q g h,NV s,NV t] u (.tuple #[NV b,.int .i64 c]))):
 CC 22 #[GX p q g h,DX d (.slice sl n cap),SX nd s t] w (.int .i64 90):=by
 go_enter Tryz.func22,Tryz.ntmps22
 go_upto_region 1 with fail
 obtain⟨v0,hC,HB0,K0⟩:=bx3 w (GE (p) (q) (g) (h)) 26 (DE (d) (.slice sl n cap)) 30 (SE (nd) (s) (t)) 35
 rw[hC]
 clear hC
 apply Rp K0 HB0 [] [(8,7,L0s,some (9,LN a))] [(0,11,_),(1,12,_),(2,13,_),(3,14,_),(4,15,_),(5,10,_),(6,16,_),(7,17,_),(10,8,_)] [(9,8)] [] []
 ·exact oc (g_ld 0 Tryz.underlying26 Z0)<|oc (g_ld 1 Tryz.underlying30 Z2)<|oc (g_fd (fdS0 _))<|oc (g_lc 2 0 lI)<|oc (g_cb Y8 hA.out)<|oc g_mv<|oc g_ex<|oc g_ex<|oc (g_al 0 aN)<|oc (g_sn 0 iN)<|oc g_as on
 intro u1 b1_8 HB1 sz1 K1
 simp only[sQ] at K1⊢
 clear K0 HB0
 go_upto_region 2 with fail
 apply Rn K1 HB1 [(0,18,_),(1,19,_)]
 ·exact oc g_mv<|oc (g_bn (fun uZ=>Zs _ _ _ ev 0 _ uZ he)) on
 intro u2 HB2 sz2 K2
 simp only[sQ] at K2⊢
 clear K1 HB1
 go_upto_region 4 with fail
 apply Rp K2 HB2 [] [(9,9,L0s,some (10,LN b))] [(0,22,_),(1,23,_),(2,24,_),(3,25,_),(4,26,_),(5,27,_),(6,21,_),(7,28,_),(8,29,_),(11,8,_)] [(10,9)] [] []
 ·exact oc (g_ld 0 Tryz.underlying26 Z0)<|oc (g_fd (fdS1 _))<|oc (g_lo 2 1 uN iN)<|oc (g_fd (fdS2 _))<|oc (g_lo 2 5 uN iN)<|oc (g_cl ent_K3 hM.out)<|oc g_mv<|oc g_ex<|oc g_ex<|oc (g_al 0 aN)<|oc (g_sn 0 iN)<|oc g_as on
 intro u3 b3_9 HB3 sz3 K3
 simp only[sQ] at K3⊢
 clear K2 HB2
 go_upto_region 5 with fail
 apply Rn K3 HB3 [(0,30,_),(1,31,_)]
 ·exact oc g_mv<|oc (g_bn (fun uZ=>Zs _ _ _ c 0 _ uZ hc)) on
 intro u4 HB4 sz4 K4
 simp only[sQ] at K4⊢
 clear K3 HB3
 go_upto_region 6 with fail
 apply Rn K4 HB4 [(0,6,_)]
 ·exact oc g_as on
 intro u5 HB5 sz5 K5
 simp only[sQ] at K5⊢
 clear K4 HB4
 go_wp2
 refine bodyPost_ret (v:= .int .i64 90) (by simp[results,Tryz.results22,go_sem,]) rfl ⟨rfl,HB5⟩
theorem xver_n (p q g h d nd s t a b c ev:Int) (sl:Option Addr) (cap n:Nat) (w:World) (he:(ev !=0)=false) (hc:(c !=0)=false)(hA:Hid (∀u,Bw w u->CC 18 #[GX p q g h,DX d (.slice sl n cap),.int .i64 nd] u (.tuple #[NV a,.int .i64 ev])))(hM:Hid (∀u,CC 32 #[GX p q g h,NV s,NV t] u (.tuple #[NV b,.int .i64 c]))) (ia:In a) (ib:In b) (hx:decide (b=a)=!true):
 CC 22 #[GX p q g h,DX d (.slice sl n cap),SX nd s t] w (.int .i64 100):=by
 go_enter Tryz.func22,Tryz.ntmps22
 go_upto_region 1 with fail
 obtain⟨v0,hC,HB0,K0⟩:=bx3 w (GE (p) (q) (g) (h)) 26 (DE (d) (.slice sl n cap)) 30 (SE (nd) (s) (t)) 35
 rw[hC]
 clear hC
 apply Rp K0 HB0 [] [(8,7,L0s,some (9,LN a))] [(0,11,_),(1,12,_),(2,13,_),(3,14,_),(4,15,_),(5,10,_),(6,16,_),(7,17,_),(10,8,_)] [(9,8)] [] []
 ·exact oc (g_ld 0 Tryz.underlying26 Z0)<|oc (g_ld 1 Tryz.underlying30 Z2)<|oc (g_fd (fdS0 _))<|oc (g_lc 2 0 lI)<|oc (g_cb Y8 hA.out)<|oc g_mv<|oc g_ex<|oc g_ex<|oc (g_al 0 aN)<|oc (g_sn 0 iN)<|oc g_as on
 intro u1 b1_8 HB1 sz1 K1
 simp only[sQ] at K1⊢
 clear K0 HB0
 go_upto_region 2 with fail
 apply Rn K1 HB1 [(0,18,_),(1,19,_)]
 ·exact oc g_mv<|oc (g_bn (fun uZ=>Zs _ _ _ ev 0 _ uZ he)) on
 intro u2 HB2 sz2 K2
 simp only[sQ] at K2⊢
 clear K1 HB1
 go_upto_region 4 with fail
 apply Rp K2 HB2 [] [(9,9,L0s,some (10,LN b))] [(0,22,_),(1,23,_),(2,24,_),(3,25,_),(4,26,_),(5,27,_),(6,21,_),(7,28,_),(8,29,_),(11,8,_)] [(10,9)] [] []
 ·exact oc (g_ld 0 Tryz.underlying26 Z0)<|oc (g_fd (fdS1 _))<|oc (g_lo 2 1 uN iN)<|oc (g_fd (fdS2 _))<|oc (g_lo 2 5 uN iN)<|oc (g_cl ent_K3 hM.out)<|oc g_mv<|oc g_ex<|oc g_ex<|oc (g_al 0 aN)<|oc (g_sn 0 iN)<|oc g_as on
 intro u3 b3_9 HB3 sz3 K3
 simp only[sQ] at K3⊢
 clear K2 HB2
 go_upto_region 5 with fail
 apply Rn K3 HB3 [(0,30,_),(1,31,_)]
 ·exact oc g_mv<|oc (g_bn (fun uZ=>Zs _ _ _ c 0 _ uZ hc)) on
 intro u4 HB4 sz4 K4
 simp only[sQ] at K4⊢
 clear K3 HB3
 go_upto_region 7 with fail
 apply Rn K4 HB4 [(0,32,_),(1,33,_),(2,34,_)]
 ·exact oc (g_ld 4 uN iN)<|oc (g_ld 3 uN iN)<|oc (g_bn (U4 _ _ ib ia true hx)) on
 intro u5 HB5 sz5 K5
 simp only[sQ] at K5⊢
 clear K4 HB4
 go_upto_region 8 with fail
 apply Rn K5 HB5 [(0,6,_)]
 ·exact oc g_as on
 intro u6 HB6 sz6 K6
 simp only[sQ] at K6⊢
 clear K5 HB5
 go_wp2
 refine bodyPost_ret (v:= .int .i64 100) (by simp[results,Tryz.results22,go_sem,]) rfl ⟨rfl,HB6⟩
theorem xver_k (p q g h d nd s t a b c ev:Int) (sl:Option Addr) (cap n:Nat) (w:World) (he:(ev !=0)=false) (hc:(c !=0)=false)(hA:Hid (∀u,Bw w u->CC 18 #[GX p q g h,DX d (.slice sl n cap),.int .i64 nd] u (.tuple #[NV a,.int .i64 ev])))(hM:Hid (∀u,CC 32 #[GX p q g h,NV s,NV t] u (.tuple #[NV b,.int .i64 c]))) (ia:In a) (ib:In b) (hx:decide (b=a)=!false):
 CC 22 #[GX p q g h,DX d (.slice sl n cap),SX nd s t] w (.int .i64 0):=by
 go_enter Tryz.func22,Tryz.ntmps22
 go_upto_region 1 with fail
 obtain⟨v0,hC,HB0,K0⟩:=bx3 w (GE (p) (q) (g) (h)) 26 (DE (d) (.slice sl n cap)) 30 (SE (nd) (s) (t)) 35
 rw[hC]
 clear hC
 apply Rp K0 HB0 [] [(8,7,L0s,some (9,LN a))] [(0,11,_),(1,12,_),(2,13,_),(3,14,_),(4,15,_),(5,10,_),(6,16,_),(7,17,_),(10,8,_)] [(9,8)] [] []
 ·exact oc (g_ld 0 Tryz.underlying26 Z0)<|oc (g_ld 1 Tryz.underlying30 Z2)<|oc (g_fd (fdS0 _))<|oc (g_lc 2 0 lI)<|oc (g_cb Y8 hA.out)<|oc g_mv<|oc g_ex<|oc g_ex<|oc (g_al 0 aN)<|oc (g_sn 0 iN)<|oc g_as on
 intro u1 b1_8 HB1 sz1 K1
 simp only[sQ] at K1⊢
 clear K0 HB0
 go_upto_region 2 with fail
 apply Rn K1 HB1 [(0,18,_),(1,19,_)]
 ·exact oc g_mv<|oc (g_bn (fun uZ=>Zs _ _ _ ev 0 _ uZ he)) on
 intro u2 HB2 sz2 K2
 simp only[sQ] at K2⊢
 clear K1 HB1
 go_upto_region 4 with fail
 apply Rp K2 HB2 [] [(9,9,L0s,some (10,LN b))] [(0,22,_),(1,23,_),(2,24,_),(3,25,_),(4,26,_),(5,27,_),(6,21,_),(7,28,_),(8,29,_),(11,8,_)] [(10,9)] [] []
 ·exact oc (g_ld 0 Tryz.underlying26 Z0)<|oc (g_fd (fdS1 _))<|oc (g_lo 2 1 uN iN)<|oc (g_fd (fdS2 _))<|oc (g_lo 2 5 uN iN)<|oc (g_cl ent_K3 hM.out)<|oc g_mv<|oc g_ex<|oc g_ex<|oc (g_al 0 aN)<|oc (g_sn 0 iN)<|oc g_as on
 intro u3 b3_9 HB3 sz3 K3
 simp only[sQ] at K3⊢
 clear K2 HB2
 go_upto_region 5 with fail
 apply Rn K3 HB3 [(0,30,_),(1,31,_)]
 ·exact oc g_mv<|oc (g_bn (fun uZ=>Zs _ _ _ c 0 _ uZ hc)) on
 intro u4 HB4 sz4 K4
 simp only[sQ] at K4⊢
 clear K3 HB3
 go_upto_region 7 with fail
 apply Rn K4 HB4 [(0,32,_),(1,33,_),(2,34,_)]
 ·exact oc (g_ld 4 uN iN)<|oc (g_ld 3 uN iN)<|oc (g_bn (U4 _ _ ib ia false hx)) on
 intro u5 HB5 sz5 K5
 simp only[sQ] at K5⊢
 clear K4 HB4
 go_upto_region 9 with fail
 apply Rn K5 HB5 [(0,6,_)]
 ·exact oc g_as on
 intro u6 HB6 sz6 K6
 simp only[sQ] at K6⊢
 clear K5 HB5
 go_wp2
 refine bodyPost_ret (v:= .int .i64 0) (by simp[results,Tryz.results22,go_sem,]) rfl ⟨rfl,HB6⟩
def veE (p q g h d nd s t:Int) (ns:List Int):Int:=if atE p q d nd ns=0 then (if coE p q g h=0 then (if coX p q g h s t=atX p q d nd ns then 0 else 100) else 90) else atE p q d nd ns
theorem xVerify (p q g h d nd s t:Int) (ns:List Int) (v:Value) (w:World) (hp:In p) (hq:In q) (hg:In g) (hh:In h) (hs:In s) (ht:In t) (hv:NL w v ns) (hns: ∀z∈ns,In z) (hl:ns.length<=256):CC 22 #[GX p q g h,DX d v,SX nd s t] w (.int .i64 (veE p q g h d nd s t ns)):=by
 have a':=hv
 obtain⟨sl,gb,go,cap,rfl,_⟩:=hv
 have hA:=fun u (hB:Bw w u)=>xAtD p q g h d nd ns _ u hp hq (a'.up hB) hns hl
 have hM:=fun u=>xCommit p q g h s t u hp hq hg hh hs ht
 unfold veE
 by_cases c:atE p q d nd ns=0
 ·rw[if_pos c]
  by_cases c1:coE p q g h=0
  ·rw[if_pos c1]
   have ic:In (coX p q g h s t):=by
    unfold coX;split
    ·have c2:isB p q g=true:=by rename_i h1;simp only[Bool.and_eq_true] at h1;exact h1.1
     exact Zq hp (by have:=(Wq c2).1.2;omega)
    ·exact In_0
   have ia:In (atX p q d nd ns):=by
    unfold atX;rw[if_pos c]
    have c3:dcE p q d ns=0:=by
     unfold atE at c
     by_cases h1:dcE p q d ns=0
     ·exact h1
     ·rw[if_neg h1] at c;exact c
    exact atO_In hp (by have:=(dcE_0 c3).1.2;omega) _
   by_cases c2:coX p q g h s t=atX p q d nd ns
   ·rw[if_pos c2]
    exact xver_k p q g h d nd s t _ _ _ _ sl cap _ w (by simp[c]) (by simp[c1]) hA hM ia ic (by simp[c2])
   ·rw[if_neg c2]
    exact xver_n p q g h d nd s t _ _ _ _ sl cap _ w (by simp[c]) (by simp[c1]) hA hM ia ic (by simp[c2])
  ·rw[if_neg c1]
   exact xver_m p q g h d nd s t _ _ _ _ sl cap _ w (by simp[c]) (by simp[c1]) hA hM
 ·rw[if_neg c]
  exact xver_a p q g h d nd s t _ 0 0 _ sl cap _ w (by simp[c]) hA
end
section
open Go.RowKit Go.Extern.Stop Go.Stop Go.Extern Go.Extern.Rtype
inductive EW (n:Int):Value->Prop
 | leaf:EW n (.iface 31 (.int .i64 n))
 | wrap (s:ByteArray) (k:Value):EW n k->EW n (.iface 125 (.agg #[.string s,k]))
theorem EW.some {n:Int} {v:Value} (h:EW n v): ∃T x,v= .iface T x:=by
 cases h with
 | leaf=>exact⟨_,_,rfl⟩
 | wrap s k _=>exact⟨_,_,rfl⟩
theorem cUnFG (s:ByteArray) (k:Value) (w:World) (hk: ∃T x,k= .iface T x):CC 200 #[.agg #[.string s,k]] w k:=by
 obtain⟨T,x,rfl⟩:=hk
 go_enter Tryz.func200,Tryz.ntmps200
 go_wp2
 exact bodyPost_ret (v:= .iface T x) (by simp[results,Tryz.results200,go_sem]) rfl ⟨rfl,Z3 (Zp w) _⟩
theorem Tryz.noIsEG (v:Value) (xT:TypeId) (w:World):(Instr.typeAssert (.iface 31 v) xT 188 true).run Tryz.prog w= .ok (.tuple #[.nilIface,.bool false]) w:=run_typeAssert_lacksB Tryz.underlying188 (by kernel_rfl) (by kernel_rfl) v xT w
theorem Tryz.noIsFG (v:Value) (xT:TypeId) (w:World):(Instr.typeAssert (.iface 125 v) xT 188 true).run Tryz.prog w= .ok (.tuple #[.nilIface,.bool false]) w:=run_typeAssert_lacksB Tryz.underlying188 (by kernel_rfl) (by kernel_rfl) v xT w
theorem Tryz.noUnEG (v:Value) (xT:TypeId) (w:World):(Instr.typeAssert (.iface 31 v) xT 191 true).run Tryz.prog w= .ok (.tuple #[.nilIface,.bool false]) w:=run_typeAssert_lacksB Tryz.underlying191 (by kernel_rfl) (by kernel_rfl) v xT w
theorem Tryz.noUsEG (v:Value) (xT:TypeId) (w:World):(Instr.typeAssert (.iface 31 v) xT 193 true).run Tryz.prog w= .ok (.tuple #[.nilIface,.bool false]) w:=run_typeAssert_lacksB Tryz.underlying193 (by kernel_rfl) (by kernel_rfl) v xT w
theorem Tryz.unFG (v:Value) (xT:TypeId) (w:World):(Instr.typeAssert (.iface 125 v) xT 191 true).run Tryz.prog w= .ok (.tuple #[.iface 125 v,.bool true]) w:=run_typeAssert_hasB Tryz.underlying191 (by kernel_rfl) v xT w
theorem infoEG:(Tryz.prog.info? 31).map (·.comparable)=some true:=by kernel_rfl
theorem eqlEG (a b:Int) (w:World):(binOp .eql 90 (.iface 31 (.int .i64 a)) (.iface 31 (.int .i64 b))).run Tryz.prog w= .ok (.bool (a==b)) w:=by
 obtain⟨i,hi,hc⟩:=Option.map_eq_some_iff.1 infoEG
 have h1:=run_underlying (w:=w) Tryz.underlying90
 have h2:=run_underlying (w:=w) Tryz.underlying31
 have h3: ∀d,(Op.equalIn (d+2) 90 (.iface 31 (.int .i64 a)) (.iface 31 (.int .i64 b))).run Tryz.prog w= .ok (a==b) w:=fun d=>by
  simp[Op.equalIn,h1,h2,typeInfo,hi,hc]
 simp only[binOp]
 simp[Op.equal,Op.maxDepth,h3 9998]
theorem cIs0G (t n:Int) (w:World) (v:Value) (h:EW n v) (r:Bool) (er:(n==t)=r):
 CC 116 #[v,.iface 31 (.int .i64 t),.bool true] w (.bool r):=by
 have nE:=Tryz.noIsEG
 have nF:=Tryz.noIsFG
 have uE:=Tryz.noUnEG
 have sE:=Tryz.noUsEG
 have uF:=Tryz.unFG
 have qE:=fun(a:Int) (u:World)=>eqlEG a t u
 have qF:=fun(x:Value) (u:World)=>run_eql_iface_types (P:=Tryz.prog) 125 31 x (.int .i64 t) Tryz.underlying90 (by decide) u
 go_enter Tryz.func116,Tryz.ntmps116
 go_wp2_with fail
 go_loopw [0] (fun s0 wr=>EW n s0/\Bw w wr) (fun s0 _=>SizeOf.sizeOf s0)
 case atStart=>exact⟨h,Below.refl _ _⟩
 case round=>
  obtain⟨hv,HBr⟩:=hrel
  cases hv with
  | leaf=>
   cases r with
   | true=>
    go_wp2
    exact bodyPost_ret (v:= .bool true) (by simp[results,Tryz.results116,go_sem]) rfl ⟨rfl,HBr⟩
   | false=>
    go_wp2
    exact bodyPost_ret (v:= .bool false) (by simp[results,Tryz.results116,go_sem]) rfl ⟨rfl,HBr⟩
  | wrap s k hk=>
   obtain⟨T,x,rfl⟩:=hk.some
   have hU:=cUnFG s (.iface T x) wr ⟨_,_,rfl⟩
   have hk:Hid _:=hk
   go_wp2_with (go_at_call 200;refine hU.mono ?_;clear hU;rintro e ua ⟨rfl,hBa⟩)
   refine⟨⟨hk.out,Z7 HBr hBa⟩,?_⟩
   simp;omega
theorem Tryz.isTypeOfG (v:Value) (w:World):(Extern.ReflectliteType.typeOf #[.iface 31 v]).run Tryz.prog w= .ok (.iface 186 (.agg #[.pointer (some ⟨6,31,none⟩)])) w:=by kernel_rfl
def cmpXG:Array Value->Sem Value:=Extern.ReflectliteType.method fun t=>do noPackHeld "Comparable" t;pure (.bool (<-typeInfo t).comparable)
theorem Tryz.isComparableG (w:World):(cmpXG #[.agg #[.pointer (some ⟨6,31,none⟩)]]).run Tryz.prog w= .ok (.bool true) w:=by kernel_rfl
theorem cIsN (t:Int) (w:World):CC 88 #[.nilIface,.iface 31 (.int .i64 t)] w (.bool false):=by
 have hn:=run_eql_iface_nil_left (P:=Tryz.prog) w 31 (.int .i64 t) Tryz.underlying90
 go_enter Tryz.func88,Tryz.ntmps88
 go_wp2
 exact bodyPost_ret (v:= .bool false) (by simp[results,Tryz.results88,go_sem]) rfl ⟨rfl,Below.refl _ _⟩
theorem cIsG (t n:Int) (w:World) (v:Value) (h:EW n v) (r:Bool) (er:(n==t)=r):CC 88 #[v,.iface 31 (.int .i64 t)] w (.bool r):=by
 have h8:= @run_callFunc_extern Tryz.prog 115 _ Extern.ReflectliteType.typeOf Tryz.func115 (by kernel_rfl) (by kernel_rfl) (by kernel_rfl) (by kernel_rfl)
 have h32:= @run_callFunc_extern Tryz.prog 210 _ cmpXG Tryz.func210 (by kernel_rfl) (by kernel_rfl) (by kernel_rfl) (by kernel_rfl)
 have tT:=Tryz.isTypeOfG
 have cT:=Tryz.isComparableG
 have hI:=cIs0G t n w v h r er
 obtain⟨T,x,rfl⟩:=h.some
 go_enter Tryz.func88,Tryz.ntmps88
 go_wp2_with (go_at_call 116;refine hI.mono ?_;clear hI;rintro e ub ⟨rfl,hBb⟩)
 exact bodyPost_ret (v:= .bool r) (by simp[results,Tryz.results88,go_sem]) rfl ⟨rfl,hBb⟩
theorem ixE0 (u:World):(Instr.index 128 (.agg #[.int .i64 2,.int .i64 90]) (.int .i64 0)).run Tryz.prog u= .ok (.int .i64 2) u:=by kernel_rfl
theorem ixE1 (u:World):(Instr.index 128 (.agg #[.int .i64 2,.int .i64 90]) (.int .i64 1)).run Tryz.prog u= .ok (.int .i64 90) u:=by kernel_rfl
theorem gTold_core (v:Value) (f2 f9:Bool) (m:Int) (w:World) (hv:v= .nilIface\/ ∃T x,v= .iface T x) (hm:m=if f2 then 2 else if f9 then 90 else 0)
 (hI:Hid (∀u,CC 88 #[v,.iface 31 (.int .i64 2)] u (.bool f2)))
 (hJ:Hid (∀u,CC 88 #[v,.iface 31 (.int .i64 90)] u (.bool f9))):
 CC 62 #[v] w (.int .i64 m):=by
 have hm:Hid _:=hm
 have u3:=Tryz.underlying31
 have a3:=Tryz.isAgg31
 have z3:=Tryz.sizeOf31
 have x0:=fun u:World=>ixE0 u
 have x1:=fun u:World=>ixE1 u
 rcases hv with rfl | ⟨T,x,rfl⟩
 all_goals
  go_enter Tryz.func62,Tryz.ntmps62
  go_wp2_with fail
  go_loopw [6] (fun s6 wr=>(s6= .int .i64 0\/(s6= .int .i64 1/\f2=false)\/(s6= .int .i64 2/\f2=false/\f9=false))/\Bw w wr) (fun s6 _=>2 -(intOf s6).toNat)
  case atStart=>exact⟨.inl rfl,Below.refl _ _⟩
  case round=>
   obtain⟨h,HBr⟩:=hrel
   rcases h with rfl | ⟨rfl,hf⟩ | ⟨rfl,hf,hg⟩
   ·have hI:=hI.out wr
    cases f2 with
    | true=>
     go_wp2_with (go_at_call 88;refine hI.mono ?_;clear hI;rintro e ua ⟨rfl,hBa⟩)
     have hm2:=hm.out
     simp at hm2
     subst hm2
     exact bodyPost_ret (v:= .int .i64 2) (by simp[results,Tryz.results62,go_sem]) rfl ⟨rfl,Z7 HBr hBa⟩
    | false=>
     go_wp2_with (go_at_call 88;refine hI.mono ?_;clear hI;rintro e ua ⟨rfl,hBa⟩)
     exact⟨⟨.inr (.inl ⟨by simp,by simp⟩),Z7 HBr hBa⟩,by simp[intOf]⟩
   ·subst hf
    have hJ:=hJ.out wr
    cases f9 with
    | true=>
     go_wp2_with (go_at_call 88;refine hJ.mono ?_;clear hJ;rintro e ua ⟨rfl,hBa⟩)
     have hm2:=hm.out
     simp at hm2
     subst hm2
     exact bodyPost_ret (v:= .int .i64 90) (by simp[results,Tryz.results62,go_sem]) rfl ⟨rfl,Z7 HBr hBa⟩
    | false=>
     go_wp2_with (go_at_call 88;refine hJ.mono ?_;clear hJ;rintro e ua ⟨rfl,hBa⟩)
     exact⟨⟨.inr (.inr ⟨by simp,by simp,by simp⟩),Z7 HBr hBa⟩,by simp[intOf]⟩
   ·subst hf hg
    go_wp2
    have hm2:=hm.out
    simp at hm2
    subst hm2
    exact bodyPost_ret (v:= .int .i64 0) (by simp[results,Tryz.results62,go_sem]) rfl ⟨rfl,HBr⟩
theorem gToldN (w:World):CC 62 #[.nilIface] w (.int .i64 0):=
 gTold_core _ false false 0 w (.inl rfl) rfl (fun u=>cIsN 2 u) (fun u=>cIsN 90 u)
theorem gTold9 (v:Value) (w:World) (h:EW 90 v):CC 62 #[v] w (.int .i64 90):=
 gTold_core _ false true 90 w (.inr h.some) rfl (fun u=>cIsG 2 90 u v h _ rfl) (fun u=>cIsG 90 90 u v h _ rfl)
end
section
open Go.RowKit
def mlB (p q:Int) (ns:List Int):Bool:=decide (gOk p q)&&ns.all (isB p q)
def mlE (p q:Int) (ns:List Int):Int:=if mlB p q ns then 0 else 90
def mlX (p q:Int) (ns:List Int):Int:=if mlB p q ns then gat (fun a b=>(a*b)%p) (1%p) ns ns.length else 0
section
def txG (n:Int):ByteArray:=strOfNums (txl (D0 n) (D1 n) (D2 n) (D3 n) (nd (D0 n) (D1 n) (D2 n) (D3 n)))
theorem nTextG (n:Int) (w:World):CC 104 #[NV n] w (.string (txG n)):=Text_any _ _ _ _ w (W_D0 n) (W_D1 n) (W_D2 n) (W_D3 n)
theorem tx_szG (n:Int):(txG n).size<=64:=by
 unfold txG
 rw[strOfNums_size]
 unfold txl
 rw[List.length_map,List.length_range]
 have:=blen_bd _ _ _ _ (W_D0 n) (W_D1 n) (W_D2 n) (W_D3 n)
 unfold nd
 split<;>omega
structure GT (w:World):Prop where
 sz:1<w.heap.size
 tab:Lib.TabIs Tryz.prog w "internal/strconv.uint64pow10" .u64 Lib.pow10Tab
theorem gPowG:Tryz.prog.globalNamed "internal/strconv.uint64pow10" =some 1:=by kernel_rfl
theorem GT.below {w u:World} (h:GT w) (hB:Bw w u):GT u where
 sz:=Nat.lt_of_lt_of_le h.sz hB.size
 tab:=Go.Joins.tab_stays gPowG h.tab hB (Nat.le_refl _)
theorem below_growG (w:World) (k:Nat) (os:Array Obj):Bw w (Go.Sort.grow (w.drewN k) os):=by
 have h1:(w.drewN k).heap=w.heap:=rfl
 exact⟨rfl,rfl,rfl,by simp[Go.Sort.grow,h1],fun i hi=>by simp[Go.Sort.grow,h1,Array.getElem?_append_left hi]⟩
def iaG (n:Int):ByteArray:=⟨(Lib.itoa n).toArray⟩
theorem ia_szG (n:Int) (h0: -9223372036854775808<=n) (h1:n<=9223372036854775807):(iaG n).size<=21:=by
 have:=Lib.itoa_length_le n h0 h1
 simpa [iaG,ByteArray.size] using this
theorem cItoaG (n:Int) (w:World) (h0: -9223372036854775808<=n) (h1:n<=9223372036854775807) (hG:GT w):CC 87 #[.int .i64 n] w (.string (iaG n)):=by
 refine(Tryz.strconv_Itoa n h0 h1 w hG.tab).mono ?_
 rintro e u ⟨rfl,k,os,rfl⟩
 exact⟨rfl,below_growG w k os⟩
section
variable {R:Rg} {P:Program} {Q:Exit->Act->World->Prop} {ops:Array Oper} {i:Nat} {o:Oper}
theorem U9 {T:TypeId} {x:Operand} {vx v:Value} (hr: ∀w,(Instr.makeInterface T vx).run P w= .ok v w) (hop:o.op= .makeInterface T x:=by rfl) (hx:evR R i o x=some vx:=by rfl) (hv:some v=Y0 i R.G:=by rfl) (hc:R.chk ops i o=true:=by rfl):OG R P ops Q i o:=
 g_op (fun ev u he=>by
  unfold execOp;rw[hop];simp only[he _ _ hx]
  rw[Sem.run_bind,hr,Result.andThen_ok,Sem.run_pure]) hv hc
end
theorem miEG (n:Int) (w:World):(Instr.makeInterface 31 (.int .i64 n)).run Tryz.prog w= .ok (.iface 31 (.int .i64 n)) w:=by kernel_rfl
theorem miFG (s:ByteArray) (T:TypeId) (x:Value) (w:World):(Instr.makeInterface 125 (.agg #[.string s,.iface T x])).run Tryz.prog w= .ok (.iface 125 (.agg #[.string s,.iface T x])) w:=by kernel_rfl
theorem bdFlG (s:ByteArray) (T:TypeId) (x:Value) (w:World):(Instr.build 125 [(0,.string s),(1,.iface T x)].toArray).run Tryz.prog w= .ok (.agg #[.string s,.iface T x]) w:=by kernel_rfl
theorem add_stG (p q:Operand) (s t:ByteArray) (w:World) (h:s.size+t.size<=1000):(do eqGuard .add 9 p q (.string s) (.string t);binOp .add 9 (.string s) (.string t):Sem Value).run Tryz.prog w= .ok (.string (s++t)) w:=by
 have h2: ¬9223372036854775807<s.size+t.size:=by omega
 go_simp
theorem neq_noG (p:Operand) (c:Value) (w:World):(do eqGuard .neq 90 p (.const c) .nilIface .nilIface;binOp .neq 90 .nilIface .nilIface:Sem Value).run Tryz.prog w= .ok (.bool false) w:=by go_simp
theorem neq_erG (p q:Operand) (T:TypeId) (x:Value) (w:World):(do eqGuard .neq 90 p q (.iface T x) .nilIface;binOp .neq 90 (.iface T x) .nilIface:Sem Value).run Tryz.prog w= .ok (.bool true) w:=by go_simp
theorem lss_z (p q:Operand) (x y:Int) (b:Bool) (w:World) (h:decide (x<y)=b):(do eqGuard .lss 3 p q (.int .i64 x) (.int .i64 y);binOp .lss 3 (.int .i64 x) (.int .i64 y):Sem Value).run Tryz.prog w= .ok (.bool b) w:=by
 subst h;go_simp
theorem geq_y (p q:Operand) (x y:Int) (b:Bool) (w:World) (h:decide (y<=x)=b):(do eqGuard .geq 3 p q (.int .i64 x) (.int .i64 y);binOp .geq 3 (.int .i64 x) (.int .i64 y):Sem Value).run Tryz.prog w= .ok (.bool b) w:=by
 subst h;go_simp
theorem neq_w8 (p q:Operand) (a b c d e f g h a' b' c' d' e' f' g' h':Int) (w:World):(do eqGuard .neq 86 p q (A8 a b c d e f g h) (A8 a' b' c' d' e' f' g' h');binOp .neq 86 (A8 a b c d e f g h) (A8 a' b' c' d' e' f' g' h'):Sem Value).run Tryz.prog w= .ok (.bool (!eq8 a b c d e f g h a' b' c' d' e' f' g' h')) w:=by
 go_simp
theorem neq_ww (p q:Operand) {n m:Int} (hn:In n) (hm:In m) (b:Bool) (hb:decide (n=m)=!b) (w:World):(do eqGuard .neq 86 p q (WV n) (WV m);binOp .neq 86 (WV n) (WV m):Sem Value).run Tryz.prog w= .ok (.bool b) w:=by
 have e1:D4 n=0:=by unfold D4;exact Int.ediv_eq_zero_of_lt hn.1 hn.2
 have e2:D4 m=0:=by unfold D4;exact Int.ediv_eq_zero_of_lt hm.1 hm.2
 have e3:eq8 (D0 n) (D1 n) (D2 n) (D3 n) (D0 0) (D1 0) (D2 0) (D3 0) (D0 m) (D1 m) (D2 m) (D3 m) (D0 0) (D1 0) (D2 0) (D3 0)=!b:=by
  rw[<-hb,<-eq4_N hn hm];simp[eq8,eq4]
 rw[neq_w8,e1,e2,e3,Bool.not_not]
theorem Xc:EnT 104:=fun _ _=>by kernel_rfl
theorem Uq:EnT 87:=fun _ _=>by kernel_rfl
theorem Wl:EnT 75:=fun _ _=>by kernel_rfl
theorem Vr:EnT 86:=fun _ _=>by kernel_rfl
theorem Yd:EnT 61:=fun _ _=>by kernel_rfl
theorem W0:EnT 62:=fun _ _=>by kernel_rfl
def sP1:ByteArray:=⟨#[80,32,105,115,32,111,110,108,121,32]⟩
def sX1:ByteArray:=⟨#[32,105,115,32,110,111,116,32,102,114,111,109,32,49,32,116,111,32,80,32,45,32,49]⟩
def sX2:ByteArray:=⟨#[32,116,111,32,116,104,101,32,81,32,105,115,32,110,111,116,32,49]⟩
def sM2:ByteArray:=⟨#[110,117,109,98,101,114,32]⟩
def grV (p q:Int):Value:=if p<7 then .iface 125 (.agg #[.string (sP1++txG p),(.iface 31 (.int .i64 90))]) else if p%2=0 then .iface 125 (.agg #[.string ⟨#[80,32,105,115,32,101,118,101,110]⟩,(.iface 31 (.int .i64 90))]) else if p/2=q then .nilIface else .iface 125 (.agg #[.string ⟨#[80,32,105,115,32,110,111,116,32,50,32,81,32,97,110,100,32,49]⟩,(.iface 31 (.int .i64 90))])
def mbV (p q x:Int):Value:=if x=0\/p<=x then .iface 125 (.agg #[.string (txG x++sX1),(.iface 31 (.int .i64 90))]) else if x^q.toNat%p=1 then .nilIface else .iface 125 (.agg #[.string (txG x++sX2),(.iface 31 (.int .i64 90))])
theorem group_1 (p q g h c:Int) (w:World) (hp:In p) (hq:In q) (i2:In 2) (iq:In (p/2)) (hC:Hid (∀u,CC 103 #[NV p,NV 7] u (.int .i64 c))) (hc:decide (c<0)=true):CC 75 #[GX p q g h] w (.iface 125 (.agg #[.string (sP1++txG p),(.iface 31 (.int .i64 90))])):=by
 go_enter Tryz.func75,Tryz.ntmps75
 go_upto_region 1 with fail
 obtain⟨v0,hC,HB0,K0⟩:=bx1 w (GE (p) (q) (g) (h)) 26
 rw[hC]
 clear hC
 go_upto_region 1 with fail
 apply Rp K0 HB0 [] [(9,3,L0w,some (11,LW (p/2))),(10,4,L0s,some (12,LN (p%2)))] [(0,7,_),(1,8,_),(2,9,_),(3,10,_),(4,11,_),(5,6,_),(6,12,_),(7,13,_),(8,14,_),(13,5,_)] [(11,9),(12,10)] [] [true,false,false]
 ·exact oc (g_fd (fdG0 _))<|oc (g_lo 0 0 uN iN)<|oc (g_cl Z9 (fun uZ=>Xk p uZ hp))<|oc (g_cl Za (fun uZ=>nOf 2 uZ (by decide) (by decide)))<|oc (g_cl Yo (fun uZ=>Uo p 2 uZ hp.wide i2 (by decide)))<|oc g_mv<|oc g_ex<|oc g_ex<|oc g_ex<|oc (g_al 0 aW)<|oc (g_al 1 aN)<|oc (g_sn 0 iW)<|oc (g_sn 1 iN)<|oc g_as on
 intro u1 b1_9 b1_10 HB1 sz1 K1
 simp only[sQ] at K1⊢
 clear K0 HB0
 go_upto_region 2 with fail
 apply Rm K1 HB1 [(0,16,_),(1,17,_),(2,18,_),(3,19,_),(4,20,_),(5,15,_)]
 ·exact oc (g_fd (fdG0 _))<|oc (g_lo 0 0 uN iN)<|oc (g_cl Za (fun uZ=>nOf 7 uZ (by decide) (by decide)))<|oc (g_cl Zj hC.out)<|oc (g_bn (fun uZ=>lss_z _ _ _ _ _ uZ hc))<|oc g_as on
 intro u2 HB2 sz2 K2
 simp only[sQ] at K2⊢
 clear K1 HB1
 go_upto_region 3 with fail
 apply Rp K2 HB2 [] [] [(0,21,_),(1,22,_),(2,23,_),(3,24,_),(4,25,_),(5,26,_),(6,27,_),(7,2,_)] [] [] [false]
 ·exact oc (g_fd (fdG0 _))<|oc (g_lo 0 0 uN iN)<|oc (g_cl Xc (nTextG p))<|oc (g_bn (fun uZ=>add_stG _ _ sP1 (txG p) uZ (by have:=tx_szG p;have:sP1.size=10:=rfl;omega)))<|oc (U9 (miEG 90))<|oc (g_bd (bdFlG (sP1++txG p) _ _))<|oc (U9 (miFG (sP1++txG p) _ _))<|oc g_as on
 intro u3 HB3 sz3 K3
 simp only[sQ] at K3⊢
 clear K2 HB2
 go_wp2
 refine bodyPost_ret (v:= .iface 125 (.agg #[.string (sP1++txG p),(.iface 31 (.int .i64 90))])) (by simp[results,Tryz.results75,go_sem,]) rfl ⟨rfl,HB3⟩
theorem group_2 (p q g h c:Int) (w:World) (hp:In p) (hq:In q) (i2:In 2) (iq:In (p/2)) (hC:Hid (∀u,CC 103 #[NV p,NV 7] u (.int .i64 c))) (hc:decide (c<0)=false) (im:In (p%2)) (h2:decide (p%2=0)=true):CC 75 #[GX p q g h] w (.iface 125 (.agg #[.string ⟨#[80,32,105,115,32,101,118,101,110]⟩,(.iface 31 (.int .i64 90))])):=by
 go_enter Tryz.func75,Tryz.ntmps75
 go_upto_region 1 with fail
 obtain⟨v0,hC,HB0,K0⟩:=bx1 w (GE (p) (q) (g) (h)) 26
 rw[hC]
 clear hC
 go_upto_region 1 with fail
 apply Rp K0 HB0 [] [(9,3,L0w,some (11,LW (p/2))),(10,4,L0s,some (12,LN (p%2)))] [(0,7,_),(1,8,_),(2,9,_),(3,10,_),(4,11,_),(5,6,_),(6,12,_),(7,13,_),(8,14,_),(13,5,_)] [(11,9),(12,10)] [] [true,false]
 ·exact oc (g_fd (fdG0 _))<|oc (g_lo 0 0 uN iN)<|oc (g_cl Z9 (fun uZ=>Xk p uZ hp))<|oc (g_cl Za (fun uZ=>nOf 2 uZ (by decide) (by decide)))<|oc (g_cl Yo (fun uZ=>Uo p 2 uZ hp.wide i2 (by decide)))<|oc g_mv<|oc g_ex<|oc g_ex<|oc g_ex<|oc (g_al 0 aW)<|oc (g_al 1 aN)<|oc (g_sn 0 iW)<|oc (g_sn 1 iN)<|oc g_as on
 intro u1 b1_9 b1_10 HB1 sz1 K1
 simp only[sQ] at K1⊢
 clear K0 HB0
 go_upto_region 2 with fail
 apply Rd K1 HB1 [] [] [(0,16,_),(1,17,_),(2,18,_),(3,19,_),(4,20,_),(5,15,_)] [] [] [false]
 ·exact oc (g_fd (fdG0 _))<|oc (g_lo 0 0 uN iN)<|oc (g_cl Za (fun uZ=>nOf 7 uZ (by decide) (by decide)))<|oc (g_cl Zj hC.out)<|oc (g_bn (fun uZ=>lss_z _ _ _ _ _ uZ hc))<|oc g_as on
 intro u2 HB2 sz2 K2
 simp only[sQ] at K2⊢
 clear K1 HB1
 go_upto_region 4 with fail
 apply Rp K2 HB2 [] [] [(0,29,_),(1,30,_),(2,31,_),(3,28,_)] [] [] [false]
 ·exact oc (g_ld 0 uN iN)<|oc (g_bd zN)<|oc (g_bn (Ti _ _ im _ h2))<|oc g_as on
 intro u3 HB3 sz3 K3
 simp only[sQ] at K3⊢
 clear K2 HB2
 go_upto_region 5 with fail
 apply Rn K3 HB3 [(0,32,_),(1,33,_),(2,34,_),(3,2,_)]
 ·exact oc (U9 (miEG 90))<|oc (g_bd (bdFlG ⟨#[80,32,105,115,32,101,118,101,110]⟩ _ _))<|oc (U9 (miFG ⟨#[80,32,105,115,32,101,118,101,110]⟩ _ _))<|oc g_as on
 intro u4 HB4 sz4 K4
 simp only[sQ] at K4⊢
 clear K3 HB3
 go_wp2
 refine bodyPost_ret (v:= .iface 125 (.agg #[.string ⟨#[80,32,105,115,32,101,118,101,110]⟩,(.iface 31 (.int .i64 90))])) (by simp[results,Tryz.results75,go_sem,]) rfl ⟨rfl,HB4⟩
theorem group_3 (p q g h c:Int) (w:World) (hp:In p) (hq:In q) (i2:In 2) (iq:In (p/2)) (hC:Hid (∀u,CC 103 #[NV p,NV 7] u (.int .i64 c))) (hc:decide (c<0)=false) (im:In (p%2)) (h2:decide (p%2=0)=false) (h3:decide (p/2=q)=!true):CC 75 #[GX p q g h] w (.iface 125 (.agg #[.string ⟨#[80,32,105,115,32,110,111,116,32,50,32,81,32,97,110,100,32,49]⟩,(.iface 31 (.int .i64 90))])):=by
 go_enter Tryz.func75,Tryz.ntmps75
 go_upto_region 1 with fail
 obtain⟨v0,hC,HB0,K0⟩:=bx1 w (GE (p) (q) (g) (h)) 26
 rw[hC]
 clear hC
 go_upto_region 1 with fail
 apply Rp K0 HB0 [] [(9,3,L0w,some (11,LW (p/2))),(10,4,L0s,some (12,LN (p%2)))] [(0,7,_),(1,8,_),(2,9,_),(3,10,_),(4,11,_),(5,6,_),(6,12,_),(7,13,_),(8,14,_),(13,5,_)] [(11,9),(12,10)] [] []
 ·exact oc (g_fd (fdG0 _))<|oc (g_lo 0 0 uN iN)<|oc (g_cl Z9 (fun uZ=>Xk p uZ hp))<|oc (g_cl Za (fun uZ=>nOf 2 uZ (by decide) (by decide)))<|oc (g_cl Yo (fun uZ=>Uo p 2 uZ hp.wide i2 (by decide)))<|oc g_mv<|oc g_ex<|oc g_ex<|oc g_ex<|oc (g_al 0 aW)<|oc (g_al 1 aN)<|oc (g_sn 0 iW)<|oc (g_sn 1 iN)<|oc g_as on
 intro u1 b1_9 b1_10 HB1 sz1 K1
 simp only[sQ] at K1⊢
 clear K0 HB0
 go_upto_region 2 with fail
 apply Rm K1 HB1 [(0,16,_),(1,17,_),(2,18,_),(3,19,_),(4,20,_),(5,15,_)]
 ·exact oc (g_fd (fdG0 _))<|oc (g_lo 0 0 uN iN)<|oc (g_cl Za (fun uZ=>nOf 7 uZ (by decide) (by decide)))<|oc (g_cl Zj hC.out)<|oc (g_bn (fun uZ=>lss_z _ _ _ _ _ uZ hc))<|oc g_as on
 intro u2 HB2 sz2 K2
 simp only[sQ] at K2⊢
 clear K1 HB1
 go_upto_region 4 with fail
 apply Rp K2 HB2 [] [] [(0,29,_),(1,30,_),(2,31,_),(3,28,_)] [] [] [true,true,false]
 ·exact oc (g_ld 2 uN iN)<|oc (g_bd zN)<|oc (g_bn (Ti _ _ im _ h2))<|oc g_as on
 intro u3 HB3 sz3 K3
 simp only[sQ] at K3⊢
 clear K2 HB2
 go_upto_region 6 with fail
 apply Rd K3 HB3 [] [] [(0,36,_),(1,37,_),(2,38,_),(3,39,_),(4,40,_),(5,35,_)] [] [] [false,false]
 ·exact oc (g_ld 1 uW iW)<|oc (g_fd (fdG1 _))<|oc (g_lo 0 4 uN iN)<|oc (g_cl Z9 (fun uZ=>Xk q uZ hq))<|oc (g_bn (neq_ww _ _ iq hq _ h3))<|oc g_as on
 intro u4 HB4 sz4 K4
 simp only[sQ] at K4⊢
 clear K3 HB3
 go_upto_region 7 with fail
 apply Rn K4 HB4 [(0,41,_),(1,42,_),(2,43,_),(3,2,_)]
 ·exact oc (U9 (miEG 90))<|oc (g_bd (bdFlG ⟨#[80,32,105,115,32,110,111,116,32,50,32,81,32,97,110,100,32,49]⟩ _ _))<|oc (U9 (miFG ⟨#[80,32,105,115,32,110,111,116,32,50,32,81,32,97,110,100,32,49]⟩ _ _))<|oc g_as on
 intro u5 HB5 sz5 K5
 simp only[sQ] at K5⊢
 clear K4 HB4
 go_wp2
 refine bodyPost_ret (v:= .iface 125 (.agg #[.string ⟨#[80,32,105,115,32,110,111,116,32,50,32,81,32,97,110,100,32,49]⟩,(.iface 31 (.int .i64 90))])) (by simp[results,Tryz.results75,go_sem,]) rfl ⟨rfl,HB5⟩
theorem group_4 (p q g h c:Int) (w:World) (hp:In p) (hq:In q) (i2:In 2) (iq:In (p/2)) (hC:Hid (∀u,CC 103 #[NV p,NV 7] u (.int .i64 c))) (hc:decide (c<0)=false) (im:In (p%2)) (h2:decide (p%2=0)=false) (h3:decide (p/2=q)=!false):CC 75 #[GX p q g h] w (.nilIface):=by
 go_enter Tryz.func75,Tryz.ntmps75
 go_upto_region 1 with fail
 obtain⟨v0,hC,HB0,K0⟩:=bx1 w (GE (p) (q) (g) (h)) 26
 rw[hC]
 clear hC
 go_upto_region 1 with fail
 apply Rp K0 HB0 [] [(9,3,L0w,some (11,LW (p/2))),(10,4,L0s,some (12,LN (p%2)))] [(0,7,_),(1,8,_),(2,9,_),(3,10,_),(4,11,_),(5,6,_),(6,12,_),(7,13,_),(8,14,_),(13,5,_)] [(11,9),(12,10)] [] []
 ·exact oc (g_fd (fdG0 _))<|oc (g_lo 0 0 uN iN)<|oc (g_cl Z9 (fun uZ=>Xk p uZ hp))<|oc (g_cl Za (fun uZ=>nOf 2 uZ (by decide) (by decide)))<|oc (g_cl Yo (fun uZ=>Uo p 2 uZ hp.wide i2 (by decide)))<|oc g_mv<|oc g_ex<|oc g_ex<|oc g_ex<|oc (g_al 0 aW)<|oc (g_al 1 aN)<|oc (g_sn 0 iW)<|oc (g_sn 1 iN)<|oc g_as on
 intro u1 b1_9 b1_10 HB1 sz1 K1
 simp only[sQ] at K1⊢
 clear K0 HB0
 go_upto_region 2 with fail
 apply Rm K1 HB1 [(0,16,_),(1,17,_),(2,18,_),(3,19,_),(4,20,_),(5,15,_)]
 ·exact oc (g_fd (fdG0 _))<|oc (g_lo 0 0 uN iN)<|oc (g_cl Za (fun uZ=>nOf 7 uZ (by decide) (by decide)))<|oc (g_cl Zj hC.out)<|oc (g_bn (fun uZ=>lss_z _ _ _ _ _ uZ hc))<|oc g_as on
 intro u2 HB2 sz2 K2
 simp only[sQ] at K2⊢
 clear K1 HB1
 go_upto_region 4 with fail
 apply Rp K2 HB2 [] [] [(0,29,_),(1,30,_),(2,31,_),(3,28,_)] [] [] [true,true,false]
 ·exact oc (g_ld 2 uN iN)<|oc (g_bd zN)<|oc (g_bn (Ti _ _ im _ h2))<|oc g_as on
 intro u3 HB3 sz3 K3
 simp only[sQ] at K3⊢
 clear K2 HB2
 go_upto_region 6 with fail
 apply Rd K3 HB3 [] [] [(0,36,_),(1,37,_),(2,38,_),(3,39,_),(4,40,_),(5,35,_)] [] [] [false,false]
 ·exact oc (g_ld 1 uW iW)<|oc (g_fd (fdG1 _))<|oc (g_lo 0 4 uN iN)<|oc (g_cl Z9 (fun uZ=>Xk q uZ hq))<|oc (g_bn (neq_ww _ _ iq hq _ h3))<|oc g_as on
 intro u4 HB4 sz4 K4
 simp only[sQ] at K4⊢
 clear K3 HB3
 go_upto_region 8 with fail
 apply Rn K4 HB4 [(0,2,_)]
 ·exact oc g_as on
 intro u5 HB5 sz5 K5
 simp only[sQ] at K5⊢
 clear K4 HB4
 go_wp2
 refine bodyPost_ret (v:= .nilIface) (by simp[results,Tryz.results75,go_sem,]) rfl ⟨rfl,HB5⟩
theorem gGroup (p q g h:Int) (w:World) (hp:In p) (hq:In q):CC 75 #[GX p q g h] w (grV p q):=by
 have i2:In 2:=⟨by decide,by decide⟩
 have i7:In 7:=⟨by decide,by decide⟩
 have iq:In (p/2):=by have:=hp.1;have:=hp.2;exact⟨by omega,by omega⟩
 have im:In (p%2):=Zq i2 (by decide)
 have hC:Hid (∀u,CC 103 #[NV p,NV 7] u (.int .i64 (cmpI p 7))):=fun u=>nCompare p 7 u hp i7
 by_cases h1:p<7
 ·have hc:decide (cmpI p 7<0)=true:=by unfold cmpI;rw[if_pos h1];rfl
  rw[show grV p q=_ from if_pos h1]
  exact group_1 p q g h _ w hp hq i2 iq hC hc
 ·have hc:decide (cmpI p 7<0)=false:=by unfold cmpI;rw[if_neg h1];split<;>rfl
  rw[show grV p q=_ from if_neg h1]
  by_cases h2:p%2=0
  ·rw[if_pos h2]
   exact group_2 p q g h _ w hp hq i2 iq hC hc im (decide_eq_true h2)
  ·rw[if_neg h2]
   by_cases h3:p/2=q
   ·rw[if_pos h3]
    exact group_4 p q g h _ w hp hq i2 iq hC hc im (decide_eq_false h2) (decide_eq_true h3)
   ·rw[if_neg h3]
    exact group_3 p q g h _ w hp hq i2 iq hC hc im (decide_eq_false h2) (decide_eq_false h3)
theorem grV_is (p q:Int):(gOk p q/\grV p q= .nilIface)\/(¬gOk p q/\EW 90 (grV p q)):=by
 unfold grV gOk
 by_cases h1:p<7
 ·rw[if_pos h1];exact .inr ⟨by omega,.wrap _ _ .leaf⟩
 ·rw[if_neg h1]
  by_cases h2:p%2=0
  ·rw[if_pos h2];exact .inr ⟨by omega,.wrap _ _ .leaf⟩
  ·rw[if_neg h2]
   by_cases h3:p/2=q
   ·rw[if_pos h3];exact .inl ⟨by omega,rfl⟩
   ·rw[if_neg h3];exact .inr ⟨by omega,.wrap _ _ .leaf⟩
end
theorem member_1 (p q g h x c v:Int) (w:World) (hp:In p) (hq:In q) (hx:In x) (h0:decide (x=0)=true):CC 86 #[GX p q g h,NV x] w (.iface 125 (.agg #[.string (txG x++sX1),(.iface 31 (.int .i64 90))])):=by
 go_enter Tryz.func86,Tryz.ntmps86
 go_upto_region 1 with fail
 obtain⟨v0,hC,HB0,K0⟩:=bx2 w (GE (p) (q) (g) (h)) 26 (LN x) 24
 rw[hC]
 clear hC
 apply Rp K0 HB0 [] [] [(0,7,_),(1,8,_),(2,9,_),(3,10,_),(4,11,undef),(5,12,undef),(6,13,undef),(7,14,undef),(8,15,undef),(9,16,_)] [] [] [false]
 ·exact oc (g_ld 1 uN iN)<|oc (g_bd zN)<|oc (g_bn (Ti _ _ hx _ h0))<|oc g_mv<|oc g_sk<|oc g_sk<|oc g_sk<|oc g_sk<|oc g_sk<|oc g_pk on
 intro u1 HB1 sz1 K1
 simp only[sQ] at K1⊢
 clear K0 HB0
 go_upto_region 2 with fail
 apply Rp K1 HB1 [] [] [(0,17,_),(1,18,_),(2,19,_),(3,20,_),(4,21,_),(5,22,_),(6,4,_)] [] [] [false]
 ·exact oc (g_ld 0 uN iN)<|oc (g_cl Xc (nTextG x))<|oc (g_bn (fun uZ=>add_stG _ _ (txG x) sX1 uZ (by have:=tx_szG x;have:sX1.size=23:=rfl;omega)))<|oc (U9 (miEG 90))<|oc (g_bd (bdFlG (txG x++sX1) _ _))<|oc (U9 (miFG (txG x++sX1) _ _))<|oc g_as on
 intro u2 HB2 sz2 K2
 simp only[sQ] at K2⊢
 clear K1 HB1
 go_wp2
 refine bodyPost_ret (v:= .iface 125 (.agg #[.string (txG x++sX1),(.iface 31 (.int .i64 90))])) (by simp[results,Tryz.results86,go_sem,]) rfl ⟨rfl,HB2⟩
theorem member_2 (p q g h x c v:Int) (w:World) (hp:In p) (hq:In q) (hx:In x) (h0:decide (x=0)=false) (hC:Hid (∀u,CC 103 #[NV x,NV p] u (.int .i64 c))) (hc:decide (0<=c)=true):CC 86 #[GX p q g h,NV x] w (.iface 125 (.agg #[.string (txG x++sX1),(.iface 31 (.int .i64 90))])):=by
 go_enter Tryz.func86,Tryz.ntmps86
 go_upto_region 1 with fail
 obtain⟨v0,hC,HB0,K0⟩:=bx2 w (GE (p) (q) (g) (h)) 26 (LN x) 24
 rw[hC]
 clear hC
 apply Rp K0 HB0 [] [] [(0,7,_),(1,8,_),(2,9,_),(3,10,_),(4,11,_),(5,12,_),(6,13,_),(7,14,_),(8,15,_),(9,16,_)] [] [] [false]
 ·exact oc (g_ld 1 uN iN)<|oc (g_bd zN)<|oc (g_bn (Ti _ _ hx _ h0))<|oc g_mv<|oc (g_ld 1 uN iN)<|oc (g_fd (fdG0 _))<|oc (g_lo 0 0 uN iN)<|oc (g_cl Zj hC.out)<|oc (g_bn (fun uZ=>geq_y _ _ _ _ _ uZ hc))<|oc g_pk on
 intro u1 HB1 sz1 K1
 simp only[sQ] at K1⊢
 clear K0 HB0
 go_upto_region 2 with fail
 apply Rp K1 HB1 [] [] [(0,17,_),(1,18,_),(2,19,_),(3,20,_),(4,21,_),(5,22,_),(6,4,_)] [] [] [false]
 ·exact oc (g_ld 0 uN iN)<|oc (g_cl Xc (nTextG x))<|oc (g_bn (fun uZ=>add_stG _ _ (txG x) sX1 uZ (by have:=tx_szG x;have:sX1.size=23:=rfl;omega)))<|oc (U9 (miEG 90))<|oc (g_bd (bdFlG (txG x++sX1) _ _))<|oc (U9 (miFG (txG x++sX1) _ _))<|oc g_as on
 intro u2 HB2 sz2 K2
 simp only[sQ] at K2⊢
 clear K1 HB1
 go_wp2
 refine bodyPost_ret (v:= .iface 125 (.agg #[.string (txG x++sX1),(.iface 31 (.int .i64 90))])) (by simp[results,Tryz.results86,go_sem,]) rfl ⟨rfl,HB2⟩
theorem member_3 (p q g h x c v:Int) (w:World) (hp:In p) (hq:In q) (hx:In x) (h0:decide (x=0)=false) (hC:Hid (∀u,CC 103 #[NV x,NV p] u (.int .i64 c))) (hc:decide (0<=c)=false) (hE:Hid (∀u,CC 92 #[NV x,NV q,NV p] u (.tuple #[NV v,.int .i64 0]))) (hv:In v) (i1:In 1) (h1:decide (v=1)=!true):CC 86 #[GX p q g h,NV x] w (.iface 125 (.agg #[.string (txG x++sX2),(.iface 31 (.int .i64 90))])):=by
 go_enter Tryz.func86,Tryz.ntmps86
 go_upto_region 1 with fail
 obtain⟨v0,hC,HB0,K0⟩:=bx2 w (GE (p) (q) (g) (h)) 26 (LN x) 24
 rw[hC]
 clear hC
 apply Rn K0 HB0 [(0,7,_),(1,8,_),(2,9,_),(3,10,_),(4,11,_),(5,12,_),(6,13,_),(7,14,_),(8,15,_),(9,16,_)]
 ·exact oc (g_ld 1 uN iN)<|oc (g_bd zN)<|oc (g_bn (Ti _ _ hx _ h0))<|oc g_mv<|oc (g_ld 1 uN iN)<|oc (g_fd (fdG0 _))<|oc (g_lo 0 0 uN iN)<|oc (g_cl Zj hC.out)<|oc (g_bn (fun uZ=>geq_y _ _ _ _ _ uZ hc))<|oc g_pk on
 intro u1 HB1 sz1 K1
 simp only[sQ] at K1⊢
 clear K0 HB0
 go_upto_region 3 with fail
 apply Rp K1 HB1 [] [(9,5,L0s,some (10,LN v))] [(0,24,_),(1,25,_),(2,26,_),(3,27,_),(4,28,_),(5,29,_),(6,23,_),(7,30,_),(8,31,_),(11,6,_)] [(10,9)] [] [false]
 ·exact oc (g_ld 1 uN iN)<|oc (g_fd (fdG1 _))<|oc (g_lo 0 4 uN iN)<|oc (g_fd (fdG0 _))<|oc (g_lo 0 0 uN iN)<|oc (g_cl Vx hE.out)<|oc g_mv<|oc g_ex<|oc g_ex<|oc (g_al 0 aN)<|oc (g_sn 0 iN)<|oc g_as on
 intro u2 b2_9 HB2 sz2 K2
 simp only[sQ] at K2⊢
 clear K1 HB1
 go_upto_region 4 with fail
 apply Rd K2 HB2 [] [] [(0,32,_),(1,33,_),(2,34,_)] [] [] [true,false]
 ·exact oc (g_ld 1 uN iN)<|oc (g_cl Za (fun uZ=>nOf 1 uZ (by decide) (by decide)))<|oc (g_bn (U4 _ _ hv i1 _ h1)) on
 intro u3 HB3 sz3 K3
 simp only[sQ] at K3⊢
 clear K2 HB2
 go_upto_region 5 with fail
 apply Rp K3 HB3 [] [] [(0,35,_),(1,36,_),(2,37,_),(3,38,_),(4,39,_),(5,40,_),(6,4,_)] [] [] [false]
 ·exact oc (g_ld 0 uN iN)<|oc (g_cl Xc (nTextG x))<|oc (g_bn (fun uZ=>add_stG _ _ (txG x) sX2 uZ (by have:=tx_szG x;have:sX2.size=18:=rfl;omega)))<|oc (U9 (miEG 90))<|oc (g_bd (bdFlG (txG x++sX2) _ _))<|oc (U9 (miFG (txG x++sX2) _ _))<|oc g_as on
 intro u4 HB4 sz4 K4
 simp only[sQ] at K4⊢
 clear K3 HB3
 go_wp2
 refine bodyPost_ret (v:= .iface 125 (.agg #[.string (txG x++sX2),(.iface 31 (.int .i64 90))])) (by simp[results,Tryz.results86,go_sem,]) rfl ⟨rfl,HB4⟩
theorem member_4 (p q g h x c v:Int) (w:World) (hp:In p) (hq:In q) (hx:In x) (h0:decide (x=0)=false) (hC:Hid (∀u,CC 103 #[NV x,NV p] u (.int .i64 c))) (hc:decide (0<=c)=false) (hE:Hid (∀u,CC 92 #[NV x,NV q,NV p] u (.tuple #[NV v,.int .i64 0]))) (hv:In v) (i1:In 1) (h1:decide (v=1)=!false):CC 86 #[GX p q g h,NV x] w (.nilIface):=by
 go_enter Tryz.func86,Tryz.ntmps86
 go_upto_region 1 with fail
 obtain⟨v0,hC,HB0,K0⟩:=bx2 w (GE (p) (q) (g) (h)) 26 (LN x) 24
 rw[hC]
 clear hC
 apply Rn K0 HB0 [(0,7,_),(1,8,_),(2,9,_),(3,10,_),(4,11,_),(5,12,_),(6,13,_),(7,14,_),(8,15,_),(9,16,_)]
 ·exact oc (g_ld 1 uN iN)<|oc (g_bd zN)<|oc (g_bn (Ti _ _ hx _ h0))<|oc g_mv<|oc (g_ld 1 uN iN)<|oc (g_fd (fdG0 _))<|oc (g_lo 0 0 uN iN)<|oc (g_cl Zj hC.out)<|oc (g_bn (fun uZ=>geq_y _ _ _ _ _ uZ hc))<|oc g_pk on
 intro u1 HB1 sz1 K1
 simp only[sQ] at K1⊢
 clear K0 HB0
 go_upto_region 3 with fail
 apply Rp K1 HB1 [] [(9,5,L0s,some (10,LN v))] [(0,24,_),(1,25,_),(2,26,_),(3,27,_),(4,28,_),(5,29,_),(6,23,_),(7,30,_),(8,31,_),(11,6,_)] [(10,9)] [] [false,false]
 ·exact oc (g_ld 1 uN iN)<|oc (g_fd (fdG1 _))<|oc (g_lo 0 4 uN iN)<|oc (g_fd (fdG0 _))<|oc (g_lo 0 0 uN iN)<|oc (g_cl Vx hE.out)<|oc g_mv<|oc g_ex<|oc g_ex<|oc (g_al 0 aN)<|oc (g_sn 0 iN)<|oc g_as on
 intro u2 b2_9 HB2 sz2 K2
 simp only[sQ] at K2⊢
 clear K1 HB1
 go_upto_region 4 with fail
 apply Rd K2 HB2 [] [] [(0,32,_),(1,33,_),(2,34,_)] [] [] [false]
 ·exact oc (g_ld 0 uN iN)<|oc (g_cl Za (fun uZ=>nOf 1 uZ (by decide) (by decide)))<|oc (g_bn (U4 _ _ hv i1 _ h1)) on
 intro u3 HB3 sz3 K3
 simp only[sQ] at K3⊢
 clear K2 HB2
 go_upto_region 6 with fail
 apply Rn K3 HB3 [(0,4,_)]
 ·exact oc g_as on
 intro u4 HB4 sz4 K4
 simp only[sQ] at K4⊢
 clear K3 HB3
 go_wp2
 refine bodyPost_ret (v:= .nilIface) (by simp[results,Tryz.results86,go_sem,]) rfl ⟨rfl,HB4⟩
theorem cMember (p q g h x:Int) (w:World) (hp:In p) (hq:In q) (hx:In x) (hp0:p≠0):CC 86 #[GX p q g h,NV x] w (mbV p q x):=by
 have hC:Hid (∀u,CC 103 #[NV x,NV p] u (.int .i64 (cmpI x p))):=fun u=>nCompare x p u hx hp
 by_cases h0:x=0
 ·rw[show mbV p q x=_ from if_pos (.inl h0)]
  exact member_1 p q g h x 0 0 w hp hq hx (decide_eq_true h0)
 ·by_cases h1:p<=x
  ·have hc:decide (0<=cmpI x p)=true:=by unfold cmpI;rw[if_neg (by omega)];split<;>rfl
   rw[show mbV p q x=_ from if_pos (.inr h1)]
   exact member_2 p q g h x _ 0 w hp hq hx (decide_eq_false h0) hC hc
  ·have hc:decide (0<=cmpI x p)=false:=by unfold cmpI;rw[if_pos (by omega)];rfl
   rw[show mbV p q x=_ from if_neg (by omega)]
   have hE:Hid (∀u,CC 92 #[NV x,NV q,NV p] u (.tuple #[NV (x^q.toNat%p),.int .i64 0])):=fun u=>mExp x q p u hx hq hp hp0
   have i1:In 1:=⟨by decide,by decide⟩
   by_cases h2:x^q.toNat%p=1
   ·rw[if_pos h2]
    exact member_4 p q g h x _ _ w hp hq hx (decide_eq_false h0) hC hc hE (Zq hp hp0) i1 (decide_eq_true h2)
   ·rw[if_neg h2]
    exact member_3 p q g h x _ _ w hp hq hx (decide_eq_false h0) hC hc hE (Zq hp hp0) i1 (decide_eq_false h2)
theorem mbV_is (p q x:Int) (hx:In x):(Mb p q x/\mbV p q x= .nilIface)\/(¬Mb p q x/\EW 90 (mbV p q x)):=by
 have h0:=hx.1
 unfold mbV Mb
 by_cases h1:x=0\/p<=x
 ·rw[if_pos h1];exact .inr ⟨fun h=>by have:=h.1;have:=h.2.1;omega,.wrap _ _ .leaf⟩
 ·rw[if_neg h1]
  by_cases h2:x^q.toNat%p=1
  ·rw[if_pos h2];exact .inl ⟨⟨by omega,by omega,h2⟩,rfl⟩
  ·rw[if_neg h2];exact .inr ⟨fun h=>h2 h.2.2,.wrap _ _ .leaf⟩
theorem members_c (p q g h:Int) (T:TypeId) (x:Value) (sl:Option Addr) (n cap:Nat) (w:World) (hC:Hid (∀u,CC 75 #[GX p q g h] u (.iface T x))):
 CC 61 #[GX p q g h,.slice sl n cap] w (.iface 125 (.agg #[.string ⟨#[103,114,111,117,112]⟩,.iface T x])):=by
 go_enter Tryz.func61,Tryz.ntmps61
 go_upto_region 1 with fail
 obtain⟨v0,hC,HB0,K0⟩:=bx1 w (GE (p) (q) (g) (h)) 26
 rw[hC]
 clear hC
 apply Rp K0 HB0 [] [] [(0,9,_),(1,10,_),(2,5,_)] [] [] [false]
 ·exact oc (g_ld 0 Tryz.underlying26 Z0)<|oc (g_cl Wl hC.out)<|oc g_as on
 intro u1 HB1 sz1 K1
 simp only[sQ] at K1⊢
 clear K0 HB0
 go_upto_region 2 with fail
 apply Rn K1 HB1 [(0,11,_),(1,12,_)]
 ·exact oc g_mv<|oc (g_bn (neq_erG _ _ _ _)) on
 intro u2 HB2 sz2 K2
 simp only[sQ] at K2⊢
 clear K1 HB1
 go_upto_region 3 with fail
 apply Rn K2 HB2 [(0,13,_),(1,14,_),(2,15,_),(3,4,_)]
 ·exact oc g_mv<|oc (g_bd (bdFlG ⟨#[103,114,111,117,112]⟩ T x))<|oc (U9 (miFG ⟨#[103,114,111,117,112]⟩ T x))<|oc g_as on
 intro u3 HB3 sz3 K3
 simp only[sQ] at K3⊢
 clear K2 HB2
 go_wp2
 refine bodyPost_ret (v:= .iface 125 (.agg #[.string ⟨#[103,114,111,117,112]⟩,.iface T x])) (by simp[results,Tryz.results61,go_sem,]) rfl ⟨rfl,HB3⟩
theorem members_k (p q g h:Int) (rv:Value) (sl:Option Addr) (gb go cap:Nat) (ns:List Int) (w:World) (hG:GT w) (hns:ns.length<=50) (hp:In p) (hq:In q) (hp0:p≠0) (hn:Hid (∀k,k<ns.length->In (ns.getD k 0))) (hix:Hid (∀j,j<ns.length-> ∀W,(Instr.indexAt 27 (.slice sl ns.length cap) (.int .i64 j)).run Tryz.prog W= .ok (.pointer (some ⟨gb,go+4*j,none⟩)) W)) (hg0:ns.length=0\/gb<w.heap.size) (hS:Hid (SN w gb go ns)) (hC:Hid (∀u,CC 75 #[GX p q g h] u (.nilIface)))
 (hE:Hid (∀k,k<ns.length->(∀j,j<k->Mb p q (ns.getD j 0))-> ¬Mb p q (ns.getD k 0)->rv= .iface 125 (.agg #[.string (sM2++iaG (k:Int)),mbV p q (ns.getD k 0)]))) (hE2:Hid ((∀j,j<ns.length->Mb p q (ns.getD j 0))->rv= .nilIface)):
 CC 61 #[GX p q g h,.slice sl ns.length cap] w rv:=by
 go_enter Tryz.func61,Tryz.ntmps61
 go_upto_region 1 with fail
 obtain⟨v0,hC,HB0,K0⟩:=bx1 w (GE (p) (q) (g) (h)) 26
 rw[hC]
 clear hC
 apply Rn K0 HB0 [(0,9,_),(1,10,_),(2,5,_)]
 ·exact oc (g_ld 0 Tryz.underlying26 Z0)<|oc (g_cl Wl hC.out)<|oc g_as on
 intro u1 HB1 sz1 K1
 simp only[sQ] at K1⊢
 clear K0 HB0
 go_upto_region 2 with fail
 apply Rn K1 HB1 [(0,11,_),(1,12,_)]
 ·exact oc g_mv<|oc (g_bn (neq_noG _ _)) on
 intro u2 HB2 sz2 K2
 simp only[sQ] at K2⊢
 clear K1 HB1
 go_upto_region 4 with fail
 apply Rn K2 HB2 [(0,16,_),(1,17,_),(2,18,_)]
 ·exact oc g_mv<|oc (g_ln Tryz.underlying27)<|oc g_mv on
 intro u3 HB3 sz3 K3
 simp only[sQ] at K3⊢
 clear K2 HB2
 go_wp2_with fail
 go_loopw [18] (fun s18 wr=> ∃(k:Nat),k<=ns.length/\s18= .int .i64 (k:Int)/\Hid (∀j,j<k->Mb p q (ns.getD j 0))/\Bw w wr/\CV wr (w.heap.size) (GE (p) (q) (g) (h))/\w.heap.size<wr.heap.size) (fun s18 _=>ns.length -(intOf s18).toNat)
 case atStart=>exact⟨0,by omega,rfl,fun j hj=>absurd hj (by omega),HB3,(K3.cv 0),(K3.lt 0)⟩
 case round=>
  obtain⟨k,hk,rfl,hall,HBr,Kg,lg⟩:=hrel
  clear HB3
  by_cases hj:k<ns.length
  ·have hl:decide ((k:Int)<(ns.length:Int))=true:=by simp;omega
   have iy:=hn.out k hj
   have hX:=hix.out k hj
   have hX:Hid _:=hX
   have hR:=hS.out.at k hj
   have hR:Hid _:=hR
   have hlen:(k:Int)<1000:=by omega
   have hev:=hE.out k hj hall.out
   have hev:Hid _:=hev
   have hI:Hid (∀u,CC 86 #[GX p q g h,NV (ns.getD k 0)] u (mbV p q (ns.getD k 0))):=fun u=>cMember p q g h _ u hp hq iy hp0
   have hmb:=mbV_is p q _ iy
   have hall2:Mb p q (ns.getD k 0)->Hid (∀j,j<k+1->Mb p q (ns.getD j 0)):=fun hb j hj2=>by
    by_cases e:j=k
    ·subst e;exact hb
    ·exact hall.out j (by omega)
   rcases hmb with⟨hb,hm⟩ | ⟨hb,hm⟩
   ·have hev2:Hid _:=hall2 hb
    rw[hm] at hI
    clear hm hb hall2 hev
    obtain⟨y,ey⟩: ∃y,ns.getD k 0=y:=⟨_,rfl⟩
    rw[ey] at iy hR hI
    clear ey
    have K3_1:Bk w.heap.size wr [(false,w.heap.size,GE (p) (q) (g) (h))]:=⟨.c lg Kg<|trivial,by simp⟩
    go_upto_region 5 with fail
    apply Rn K3_1 HBr [(0,19,_)]
    ·exact oc (g_bn (fun uZ=>lss_z _ _ (k:Int) (ns.length:Int) _ uZ hl)) on
    intro u4 HB4 sz4 K4
    simp only[sQ] at K4⊢
    go_upto_region 6 with fail
    apply Rp K4 HB4 [] [(3,7,L0s,some (5,LN y))] [(0,20,_),(1,21,_),(2,22,_),(4,6,_)] [(5,3)] [] []
    ·exact oc g_mv<|oc (g_ix hX.out)<|oc (g_lf hR.out (hg0.resolve_left (by omega)) uN iN)<|oc (g_al 0 aN)<|oc g_as<|oc (g_sn 0 iN) on
    intro u5 b5_3 HB5 sz5 K5
    simp only[sQ] at K5⊢
    clear K4 HB4
    go_upto_region 7 with fail
    apply Rp K5 HB5 [] [] [(0,23,_),(1,24,_),(2,25,_),(3,8,_)] [] [] [true,false]
    ·exact oc (g_ld 0 Tryz.underlying26 Z0)<|oc (g_ld 1 uN iN)<|oc (g_cl Vr hI.out)<|oc g_as on
    intro u6 HB6 sz6 K6
    simp only[sQ] at K6⊢
    clear K5 HB5
    go_upto_region 8 with fail
    apply Rn K6 HB6 [(0,26,_),(1,27,_)]
    ·exact oc g_mv<|oc (g_bn (neq_noG _ _)) on
    intro u7 HB7 sz7 K7
    simp only[sQ] at K7⊢
    clear K6 HB6
    go_upto_region 10 with fail
    apply Rp K7 HB7 [] [] [(0,34,_),(1,18,_)] [(1,0)] [(1,18)] []
    ·exact oc (g_bn (fun uZ=>Yq _ _ (k:Int) 1 ((k+1:Nat):Int) uZ (by omega) (by omega) (by omega)))<|oc g_mv on
    intro u8 HB8 sz8 K8
    simp only[sQ] at K8⊢
    clear K7 HB7
    go_wp2
    refine⟨⟨k+1,by omega,rfl,hev2,HB8,(K8.cv 0),(K8.lt 0)⟩,?_⟩
    simp[intOf]<;>omega
   ·have hev2:=hev.out hb
    obtain⟨T,x,ex⟩:=hm.some
    rw[ex] at hI hev2
    have hev2:Hid _:=hev2
    clear hm hb hall2 hev ex
    obtain⟨y,ey⟩: ∃y,ns.getD k 0=y:=⟨_,rfl⟩
    rw[ey] at iy hR hI
    clear ey
    have K3_1:Bk w.heap.size wr [(false,w.heap.size,GE (p) (q) (g) (h))]:=⟨.c lg Kg<|trivial,by simp⟩
    go_upto_region 5 with fail
    apply Rn K3_1 HBr [(0,19,_)]
    ·exact oc (g_bn (fun uZ=>lss_z _ _ (k:Int) (ns.length:Int) _ uZ hl)) on
    intro u4 HB4 sz4 K4
    simp only[sQ] at K4⊢
    go_upto_region 6 with fail
    apply Rp K4 HB4 [] [(3,7,L0s,some (5,LN y))] [(0,20,_),(1,21,_),(2,22,_),(4,6,_)] [(5,3)] [] []
    ·exact oc g_mv<|oc (g_ix hX.out)<|oc (g_lf hR.out (hg0.resolve_left (by omega)) uN iN)<|oc (g_al 0 aN)<|oc g_as<|oc (g_sn 0 iN) on
    intro u5 b5_3 HB5 sz5 K5
    simp only[sQ] at K5⊢
    clear K4 HB4
    go_upto_region 7 with fail
    apply Rp K5 HB5 [] [] [(0,23,_),(1,24,_),(2,25,_),(3,8,_)] [] [] [false,false]
    ·exact oc (g_ld 0 Tryz.underlying26 Z0)<|oc (g_ld 1 uN iN)<|oc (g_cl Vr hI.out)<|oc g_as on
    intro u6 HB6 sz6 K6
    simp only[sQ] at K6⊢
    clear K5 HB5
    go_upto_region 8 with fail
    apply Rn K6 HB6 [(0,26,_),(1,27,_)]
    ·exact oc g_mv<|oc (g_bn (neq_erG _ _ _ _)) on
    intro u7 HB7 sz7 K7
    simp only[sQ] at K7⊢
    clear K6 HB6
    go_upto_region 9 with fail
    apply Rn K7 HB7 [(0,28,_),(1,29,_),(2,30,_),(3,31,_),(4,32,_),(5,33,_),(6,4,_)]
    ·exact oc g_mv<|oc (g_cb Uq (fun uZ bZ=>cItoaG (k:Int) uZ (by omega) (by omega) (hG.below bZ)))<|oc (g_bn (fun uZ=>add_stG _ _ sM2 (iaG (k:Int)) uZ (by have:=ia_szG (k:Int) (by omega) (by omega);have:sM2.size=7:=rfl;omega)))<|oc g_mv<|oc (g_bd (bdFlG (sM2++iaG (k:Int)) T x))<|oc (U9 (miFG (sM2++iaG (k:Int)) T x))<|oc g_as on
    intro u8 HB8 sz8 K8
    simp only[sQ] at K8⊢
    clear K7 HB7
    have hev2:=hev2.out
    subst hev2
    go_wp2
    refine bodyPost_ret (v:= .iface 125 (.agg #[.string (sM2++iaG (k:Int)),.iface T x])) (by simp[results,Tryz.results61,go_sem,]) rfl ⟨rfl,HB8⟩
  ·have hl:decide ((k:Int)<(ns.length:Int))=false:=by simp;omega
   have hkn:k=ns.length:=by omega
   have hrv:=hE2.out (by rw[<-hkn];exact hall.out)
   clear hkn
   subst hrv
   have K3_1:Bk w.heap.size wr [(false,w.heap.size,GE (p) (q) (g) (h))]:=⟨.c lg Kg<|trivial,by simp⟩
   go_upto_region 5 with fail
   apply Rp K3_1 HBr [] [] [(0,19,_)] [] [] [false]
   ·exact oc (g_bn (fun uZ=>lss_z _ _ (k:Int) (ns.length:Int) _ uZ hl)) on
   intro u4 HB4 sz4 K4
   simp only[sQ] at K4⊢
   go_upto_region 11 with fail
   apply Rn K4 HB4 [(0,4,_)]
   ·exact oc g_as on
   intro u5 HB5 sz5 K5
   simp only[sQ] at K5⊢
   clear K4 HB4
   go_wp2
   refine bodyPost_ret (v:= .nilIface) (by simp[results,Tryz.results61,go_sem,]) rfl ⟨rfl,HB5⟩
theorem first_no (P:Nat->Prop): ∀n:Nat,(∀j,j<n->P j)\/ ∃k,k<n/\(∀j,j<k->P j)/\ ¬P k
 | 0=>.inl fun j hj=>absurd hj (by omega)
 | n+1=>by
  rcases first_no P n with h | ⟨k,h1,h2,h3⟩
  ·by_cases e:P n
   ·exact .inl fun j hj=>by
     by_cases ej:j=n
     ·subst ej;exact e
     ·exact h j (by omega)
   ·exact .inr ⟨n,by omega,h,e⟩
  ·exact .inr ⟨k,by omega,h2,h3⟩
theorem cMembers (p q g h:Int) (ns:List Int) (hns:ns.length<=50) (hp:In p) (hq:In q) (hn: ∀k,k<ns.length->In (ns.getD k 0)):
 ∃v,((mlB p q ns=true/\v= .nilIface)\/(mlB p q ns=false/\EW 90 v))/\ ∀(y:Value) (w:World),GT w->NL w y ns->CC 61 #[GX p q g h,y] w v:=by
 have hC:=fun u=>gGroup p q g h u hp hq
 have hgd: ∀k,k<ns.length->ns.getD k 0∈ns:=fun k hk=>by
  rw[List.getD_eq_getElem?_getD,List.getElem?_eq_getElem hk];exact List.getElem_mem hk
 rcases grV_is p q with⟨hg,he⟩ | ⟨hg,he⟩
 ·rw[he] at hC
  have h7:=hg.2
  have hix: ∀(sl:Option Addr) (gb go cap:Nat),(ns=[]\/sl=some ⟨gb,go,none⟩)->Hid (∀j,j<ns.length-> ∀W,(Instr.indexAt 27 (.slice sl ns.length cap) (.int .i64 j)).run Tryz.prog W= .ok (.pointer (some ⟨gb,go+4*j,none⟩)) W):=fun sl gb go cap hsl j hj W=>by
   have e:=hsl.resolve_left (fun e=>by subst e;simp at hj)
   subst e
   exact ixS gb go ns.length cap j hj W
  rcases first_no (fun j=>Mb p q (ns.getD j 0)) ns.length with ha | ⟨k,h1,h2,h3⟩
  ·refine⟨.nilIface,.inl ⟨?_,rfl⟩,fun y w hG hy=>?_⟩
   ·unfold mlB
    rw[Bool.and_eq_true,decide_eq_true_iff,List.all_eq_true]
    refine⟨hg,fun x hx=>?_⟩
    obtain⟨j,hj,rfl⟩:=List.mem_iff_getElem.1 hx
    have:=ha j hj
    rw[List.getD_eq_getElem?_getD,List.getElem?_eq_getElem hj] at this
    exact decide_eq_true ⟨hg,this⟩
   ·obtain⟨sl,gb,go,cap,rfl,_,_,hsl,hg0,hS⟩:=hy
    exact members_k p q g h _ sl gb go cap ns w hG hns hp hq (by omega) hn (hix sl gb go cap hsl) hg0 hS hC (fun k hk _ hb=>absurd (ha k hk) hb) (fun _=>rfl)
  ·have iy:=hn k h1
   have hb2:isB p q (ns.getD k 0)=false:=decide_eq_false fun h=>h3 h.2
   refine⟨.iface 125 (.agg #[.string (sM2++iaG (k:Int)),mbV p q (ns.getD k 0)]),.inr ⟨?_,.wrap _ _ ((mbV_is p q _ iy).resolve_left fun h=>h3 h.1).2⟩,fun y w hG hy=>?_⟩
   ·unfold mlB
    rw[Bool.and_eq_false_iff]
    refine .inr ?_
    rw[List.all_eq_false]
    exact⟨_,hgd k h1,by rw[hb2];decide⟩
   ·obtain⟨sl,gb,go,cap,rfl,_,_,hsl,hg0,hS⟩:=hy
    refine members_k p q g h _ sl gb go cap ns w hG hns hp hq (by omega) hn (hix sl gb go cap hsl) hg0 hS hC (fun k' hk' ha hb=>?_) (fun ha=>absurd (ha k h1) h3)
    have:k'=k:=by
     rcases Nat.lt_trichotomy k' k with e | e | e
     ·exact absurd (h2 k' e) hb
     ·exact e
     ·exact absurd (ha k e) h3
    subst this;rfl
 ·obtain⟨T,x,ex⟩:=he.some
  rw[ex] at hC he
  refine⟨_,.inr ⟨?_,.wrap ⟨#[103,114,111,117,112]⟩ _ he⟩,fun y w hG hy=>?_⟩
  ·unfold mlB;rw[decide_eq_false hg];rfl
  ·obtain⟨sl,gb,go,cap,rfl,_,_,hsl,hg0,hS⟩:=hy
   exact members_c p q g h T x sl _ cap w hC
theorem Wk:EnT 64:=fun _ _=>by kernel_rfl
theorem V8:EnT 63:=fun _ _=>by kernel_rfl
theorem cPower (p q g h x e:Int) (w:World) (hp:In p) (hq:In q) (hx:In x) (he:In e) (hp0:p≠0) (hq0:q≠0):
 CC 64 #[GX p q g h,NV x,NV e] w (NV (x^(e%q).toNat%p)):=by
 go_enter Tryz.func64,Tryz.ntmps64
 go_upto_region 1 with fail
 obtain⟨v0,hC,HB0,K0⟩:=bx4 w (GE (p) (q) (g) (h)) 26 (LN x) 24 (LN e) 24 L0s 24
 rw[hC]
 clear hC
 apply Rd K0 HB0 [.no,.no,.all 8 (LN (e%q))] [] [(0,10,_),(1,11,_),(2,12,_),(3,13,_),(4,14,_),(5,9,_),(6,15,_),(7,16,_)] [(8,0)] [] []
 ·exact oc (g_ld 2 uN iN)<|oc (g_cl Z9 (fun uZ=>Xk e uZ he))<|oc (g_fd (fdG1 _))<|oc (g_lo 0 4 uN iN)<|oc (g_cl Ze (fun uZ=>Xg e q uZ he.wide hq hq0))<|oc g_mv<|oc g_ex<|oc g_ex<|oc (g_st 2 iN) on
 intro u1 HB1 sz1 K1
 simp only[sQ] at K1⊢
 clear K0 HB0
 go_upto_region 2 with fail
 apply Rp K1 HB1 [] [(8,7,L0s,some (9,LN (x^(e%q).toNat%p)))] [(0,18,_),(1,19,_),(2,20,_),(3,21,_),(4,22,_),(5,17,_),(6,23,_),(7,24,_),(10,8,_)] [(9,8)] [] [false,false,false]
 ·exact oc (g_ld 1 uN iN)<|oc (g_ld 2 uN iN)<|oc (g_fd (fdG0 _))<|oc (g_lo 0 0 uN iN)<|oc (g_cl Vx (fun uZ=>mExp x (e%q) p uZ hx (Zq hq hq0) hp hp0))<|oc g_mv<|oc g_ex<|oc g_ex<|oc (g_al 0 aN)<|oc (g_sn 0 iN)<|oc g_as on
 intro u2 b2_8 HB2 sz2 K2
 simp only[sQ] at K2⊢
 clear K1 HB1
 go_upto_region 3 with fail
 apply Rp K2 HB2 [.all 1 (LN (x^(e%q).toNat%p))] [] [(0,25,_)] [] [] [true,false]
 ·exact oc (g_ld 1 uN iN)<|oc (g_st 0 iN) on
 intro u3 HB3 sz3 K3
 simp only[sQ] at K3⊢
 clear K2 HB2
 have c6:=(K3.cv 0).n4
 go_wp2
 refine bodyPost_ret (v:=NV (x^(e%q).toNat%p)) (by simp[results,Tryz.results64,go_sem,c6]) rfl ⟨rfl,HB3⟩
theorem product_core (p q g h c:Int) (sl:Option Addr) (n cap:Nat) (w:World) (hP:Hid (∀u,Bw w u->CC 89 #[NV p,.slice sl n cap] u (.tuple #[NV c,.int .i64 0]))):
 CC 63 #[GX p q g h,.slice sl n cap] w (NV c):=by
 go_enter Tryz.func63,Tryz.ntmps63
 go_upto_region 1 with fail
 obtain⟨v0,hC,HB0,K0⟩:=bx2 w (GE (p) (q) (g) (h)) 26 L0s 24
 rw[hC]
 clear hC
 apply Rp K0 HB0 [] [(7,5,L0s,some (8,LN c))] [(0,8,_),(1,9,_),(2,10,_),(3,11,_),(4,7,_),(5,12,_),(6,13,_),(9,6,_)] [(8,7)] [] [false]
 ·exact oc (g_fd (fdG0 _))<|oc (g_lo 0 0 uN iN)<|oc g_mv<|oc (g_cb ent_mod_Product hP.out)<|oc g_mv<|oc g_ex<|oc g_ex<|oc (g_al 0 aN)<|oc (g_sn 0 iN)<|oc g_as on
 intro u1 b1_7 HB1 sz1 K1
 simp only[sQ] at K1⊢
 clear K0 HB0
 go_upto_region 2 with fail
 apply Rp K1 HB1 [.all 1 (LN c)] [] [(0,14,_)] [] [] [true,false]
 ·exact oc (g_ld 1 uN iN)<|oc (g_st 0 iN) on
 intro u2 HB2 sz2 K2
 simp only[sQ] at K2⊢
 clear K1 HB1
 have c4:=(K2.cv 0).n4
 go_wp2
 refine bodyPost_ret (v:=NV c) (by simp[results,Tryz.results63,go_sem,c4]) rfl ⟨rfl,HB2⟩
def prN (p:Int) (ns:List Int):Int:=gat (fun a b=>(a*b)%p) (1%p) ns ns.length
theorem cProduct (p q g h:Int) (ns:List Int) (y:Value) (w:World) (hns:ns.length<=50) (hp:In p) (hp0:p≠0) (hn: ∀k,k<ns.length->In (ns.getD k 0)) (hy:NL w y ns):
 CC 63 #[GX p q g h,y] w (NV (prN p ns)):=by
 obtain⟨sl,gb,go,cap,rfl,_,_,hsl,hg0,hS⟩:=hy
 refine product_core p q g h _ sl _ cap w fun u hB=>?_
 refine mProduct p sl gb go cap ns u hns hp hp0 hn (fun j hj W=>?_) (hg0.imp id fun e=>Nat.lt_of_lt_of_le e hB.size) (SN.below2 hS hB hg0)
 have e:=hsl.resolve_left (fun e=>by subst e;simp at hj)
 subst e
 exact ixS gb go ns.length cap j hj W
theorem check_core (p q g h r:Int) (V:Value) (w:World) (hG:Hid (∀u,Bw w u->CC 75 #[GX p q g h] u (V)))(hT:Hid (∀u,Bw w u->CC 62 #[V] u (.int .i64 r))):
 CC 50 #[GX p q g h] w (.int .i64 r):=by
 go_enter Tryz.func50,Tryz.ntmps50
 go_upto_region 1 with fail
 obtain⟨v0,hC,HB0,K0⟩:=bx1 w (GE (p) (q) (g) (h)) 26
 rw[hC]
 clear hC
 apply Rp K0 HB0 [] [] [(0,3,_),(1,4,V),(2,5,_),(3,2,_)] [] [] [false]
 ·exact oc (g_ld 0 Tryz.underlying26 Z0)<|oc (g_cb Wl hG.out)<|oc (g_cb W0 hT.out)<|oc g_as on
 intro u1 HB1 sz1 K1
 simp only[sQ] at K1⊢
 clear K0 HB0
 go_wp2
 refine bodyPost_ret (v:= .int .i64 r) (by simp[results,Tryz.results50,go_sem,]) rfl ⟨rfl,HB1⟩
theorem cCheckG (p q g h:Int) (w:World) (hp:In p) (hq:In q):CC 50 #[GX p q g h] w (.int .i64 (chE p q)):=by
 refine check_core p q g h _ (grV p q) w (fun u _=>gGroup p q g h u hp hq) (fun u _=>?_)
 rcases grV_is p q with⟨h1,h2⟩ | ⟨h1,h2⟩
 ·rw[h2,show chE p q=0 from if_pos h1];exact gToldN u
 ·rw[show chE p q=90 from if_neg h1];exact gTold9 _ u h2
theorem exp_n (p q g h x e:Int) (T:TypeId) (xv:Value) (w:World) (hM:Hid (∀u y,Bw w u->N1x x u y->CC 61 #[GX p q g h,y] u (.iface T xv)))(hT:Hid (∀u,Bw w u->CC 62 #[.iface T xv] u (.int .i64 90))):
 CC 46 #[GX p q g h,NV x,NV e] w (.tuple #[A4 0 0 0 0,.int .i64 90]):=by
 go_enter Tryz.func46,Tryz.ntmps46
 go_upto_region 1 with fail
 obtain⟨v0,hC,HB0,K0⟩:=bx4 w (GE (p) (q) (g) (h)) 26 (LN x) 24 (LN e) 24 L0s 24
 rw[hC]
 clear hC
 apply Rf K0 HB0 [] [] [(0,9,_),(1,10,_),(3,12,_),(4,8,_)] [] [] [⟨2,11,some 3,N1x x⟩] [false,false,false]
 ·exact oc (g_ld 0 Tryz.underlying26 Z0)<|oc (g_ld 1 uN iN)<|oc (g_bR 0 (N1x x) [0] [NV x] (flN [x]) (bsNx1 x) (fun u hu=>inNx1 x u))<|oc (g_c2 0 (N1x x) Yd (fun uZ yZ bZ hZ=>hM.out uZ yZ bZ hZ))<|oc g_as on
 intro u1 v1_2 hv1_2 HB1 sz1 K1
 simp only[sQ] at K1⊢
 clear K0 HB0
 go_upto_region 2 with fail
 apply Rn K1 HB1 [(0,13,_),(1,14,_)]
 ·exact oc g_mv<|oc (g_bn (neq_erG _ _ _ _)) on
 intro u2 HB2 sz2 K2
 simp only[sQ] at K2⊢
 clear K1 HB1
 go_upto_region 3 with fail
 apply Rp K2 HB2 [.all 3 ([.int .u64 (0),.int .u64 (0),.int .u64 (0),.int .u64 (0)])] [] [(0,15,_),(1,16,_),(2,17,_),(4,7,_)] [] [] []
 ·exact oc (g_bd zN)<|oc g_mv<|oc (g_cb W0 hT.out)<|oc (g_st 0 iN)<|oc g_as on
 intro u3 HB3 sz3 K3
 simp only[sQ] at K3⊢
 clear K2 HB2
 have c6:=(K3.cv 0).n4
 go_wp2
 refine bodyPost_ret (v:= .tuple #[A4 0 0 0 0,.int .i64 90]) (by simp[results,Tryz.results46,go_sem,c6]) rfl ⟨rfl,HB3⟩
theorem mulG_n (p q g h:Int) (sl:Option Addr) (n cap:Nat) (T:TypeId) (xv:Value) (w:World) (hM:Hid (∀u,Bw w u->CC 61 #[GX p q g h,.slice sl n cap] u (.iface T xv)))(hT:Hid (∀u,Bw w u->CC 62 #[.iface T xv] u (.int .i64 90))):
 CC 47 #[GX p q g h,.slice sl n cap] w (.tuple #[A4 0 0 0 0,.int .i64 90]):=by
 go_enter Tryz.func47,Tryz.ntmps47
 go_upto_region 1 with fail
 obtain⟨v0,hC,HB0,K0⟩:=bx2 w (GE (p) (q) (g) (h)) 26 L0s 24
 rw[hC]
 clear hC
 apply Rp K0 HB0 [] [] [(0,7,_),(1,8,_),(2,9,_),(3,6,_)] [] [] [false]
 ·exact oc (g_ld 0 Tryz.underlying26 Z0)<|oc g_mv<|oc (g_cb Yd hM.out)<|oc g_as on
 intro u1 HB1 sz1 K1
 simp only[sQ] at K1⊢
 clear K0 HB0
 go_upto_region 2 with fail
 apply Rn K1 HB1 [(0,10,_),(1,11,_)]
 ·exact oc g_mv<|oc (g_bn (neq_erG _ _ _ _)) on
 intro u2 HB2 sz2 K2
 simp only[sQ] at K2⊢
 clear K1 HB1
 go_upto_region 3 with fail
 apply Rp K2 HB2 [.all 3 ([.int .u64 (0),.int .u64 (0),.int .u64 (0),.int .u64 (0)])] [] [(0,12,_),(1,13,_),(2,14,_),(4,5,_)] [] [] []
 ·exact oc (g_bd zN)<|oc g_mv<|oc (g_cb W0 hT.out)<|oc (g_st 0 iN)<|oc g_as on
 intro u3 HB3 sz3 K3
 simp only[sQ] at K3⊢
 clear K2 HB2
 have c4:=(K3.cv 0).n4
 go_wp2
 refine bodyPost_ret (v:= .tuple #[A4 0 0 0 0,.int .i64 90]) (by simp[results,Tryz.results47,go_sem,c4]) rfl ⟨rfl,HB3⟩
theorem com_n (p q g h s t:Int) (T:TypeId) (xv:Value) (w:World) (hM:Hid (∀u y,Bw w u->N2 g h u y->CC 61 #[GX p q g h,y] u (.iface T xv)))(hT:Hid (∀u,Bw w u->CC 62 #[.iface T xv] u (.int .i64 90))):
 CC 36 #[GX p q g h,NV s,NV t] w (.tuple #[A4 0 0 0 0,.int .i64 90]):=by
 go_enter Tryz.func36,Tryz.ntmps36
 go_upto_region 1 with fail
 obtain⟨v0,hC,HB0,K0⟩:=bx4 w (GE (p) (q) (g) (h)) 26 (LN s) 24 (LN t) 24 L0s 24
 rw[hC]
 clear hC
 apply Rf K0 HB0 [] [] [(0,9,_),(1,10,_),(2,11,_),(3,12,_),(4,13,_),(6,15,_),(7,8,_)] [] [] [⟨5,14,some 6,N2 g h⟩] [false,false,false]
 ·exact oc (g_ld 0 Tryz.underlying26 Z0)<|oc (g_fd (fdG2 _))<|oc (g_lo 0 8 uN iN)<|oc (g_fd (fdG3 _))<|oc (g_lo 0 12 uN iN)<|oc (g_bR 0 (N2 g h) [0,1] [NV g,NV h] (flN [g,h]) (bsN2 g h) (fun u hu=>inN2 g h u))<|oc (g_c2 0 (N2 g h) Yd (fun uZ yZ bZ hZ=>hM.out uZ yZ bZ hZ))<|oc g_as on
 intro u1 v1_5 hv1_5 HB1 sz1 K1
 simp only[sQ] at K1⊢
 clear K0 HB0
 go_upto_region 2 with fail
 apply Rn K1 HB1 [(0,16,_),(1,17,_)]
 ·exact oc g_mv<|oc (g_bn (neq_erG _ _ _ _)) on
 intro u2 HB2 sz2 K2
 simp only[sQ] at K2⊢
 clear K1 HB1
 go_upto_region 3 with fail
 apply Rp K2 HB2 [.all 3 ([.int .u64 (0),.int .u64 (0),.int .u64 (0),.int .u64 (0)])] [] [(0,18,_),(1,19,_),(2,20,_),(4,7,_)] [] [] []
 ·exact oc (g_bd zN)<|oc g_mv<|oc (g_cb W0 hT.out)<|oc (g_st 0 iN)<|oc g_as on
 intro u3 HB3 sz3 K3
 simp only[sQ] at K3⊢
 clear K2 HB2
 have c6:=(K3.cv 0).n4
 go_wp2
 refine bodyPost_ret (v:= .tuple #[A4 0 0 0 0,.int .i64 90]) (by simp[results,Tryz.results36,go_sem,c6]) rfl ⟨rfl,HB3⟩
theorem exp_k (p q g h x e r:Int) (w:World) (hM:Hid (∀u y,Bw w u->N1x x u y->CC 61 #[GX p q g h,y] u (.nilIface)))(hP:Hid (∀u,Bw w u->CC 64 #[GX p q g h,NV x,NV e] u (NV r))):
 CC 46 #[GX p q g h,NV x,NV e] w (.tuple #[NV r,.int .i64 0]):=by
 go_enter Tryz.func46,Tryz.ntmps46
 go_upto_region 1 with fail
 obtain⟨v0,hC,HB0,K0⟩:=bx4 w (GE (p) (q) (g) (h)) 26 (LN x) 24 (LN e) 24 L0s 24
 rw[hC]
 clear hC
 apply Rf K0 HB0 [] [] [(0,9,_),(1,10,_),(3,12,_),(4,8,_)] [] [] [⟨2,11,some 3,N1x x⟩] []
 ·exact oc (g_ld 0 Tryz.underlying26 Z0)<|oc (g_ld 1 uN iN)<|oc (g_bR 0 (N1x x) [0] [NV x] (flN [x]) (bsNx1 x) (fun u hu=>inNx1 x u))<|oc (g_c2 0 (N1x x) Yd (fun uZ yZ bZ hZ=>hM.out uZ yZ bZ hZ))<|oc g_as on
 intro u1 v1_2 hv1_2 HB1 sz1 K1
 simp only[sQ] at K1⊢
 clear K0 HB0
 go_upto_region 2 with fail
 apply Rn K1 HB1 [(0,13,_),(1,14,_)]
 ·exact oc g_mv<|oc (g_bn (neq_noG _ _)) on
 intro u2 HB2 sz2 K2
 simp only[sQ] at K2⊢
 clear K1 HB1
 go_upto_region 4 with fail
 apply Rp K2 HB2 [.no,.no,.no,.all 4 (LN r)] [] [(0,18,_),(1,19,_),(2,20,_),(3,21,_),(5,7,_)] [] [] [false,false,false]
 ·exact oc (g_ld 0 Tryz.underlying26 Z0)<|oc (g_ld 1 uN iN)<|oc (g_ld 2 uN iN)<|oc (g_cb Wk hP.out)<|oc (g_st 3 iN)<|oc g_as on
 intro u3 HB3 sz3 K3
 simp only[sQ] at K3⊢
 clear K2 HB2
 have c6:=(K3.cv 0).n4
 go_wp2
 refine bodyPost_ret (v:= .tuple #[NV r,.int .i64 0]) (by simp[results,Tryz.results46,go_sem,c6]) rfl ⟨rfl,HB3⟩
theorem mulG_k (p q g h r:Int) (sl:Option Addr) (n cap:Nat) (w:World) (hM:Hid (∀u,Bw w u->CC 61 #[GX p q g h,.slice sl n cap] u (.nilIface)))(hP:Hid (∀u,Bw w u->CC 63 #[GX p q g h,.slice sl n cap] u (NV r))):
 CC 47 #[GX p q g h,.slice sl n cap] w (.tuple #[NV r,.int .i64 0]):=by
 go_enter Tryz.func47,Tryz.ntmps47
 go_upto_region 1 with fail
 obtain⟨v0,hC,HB0,K0⟩:=bx2 w (GE (p) (q) (g) (h)) 26 L0s 24
 rw[hC]
 clear hC
 apply Rn K0 HB0 [(0,7,_),(1,8,_),(2,9,_),(3,6,_)]
 ·exact oc (g_ld 0 Tryz.underlying26 Z0)<|oc g_mv<|oc (g_cb Yd hM.out)<|oc g_as on
 intro u1 HB1 sz1 K1
 simp only[sQ] at K1⊢
 clear K0 HB0
 go_upto_region 2 with fail
 apply Rn K1 HB1 [(0,10,_),(1,11,_)]
 ·exact oc g_mv<|oc (g_bn (neq_noG _ _)) on
 intro u2 HB2 sz2 K2
 simp only[sQ] at K2⊢
 clear K1 HB1
 go_upto_region 4 with fail
 apply Rp K2 HB2 [.no,.all 3 (LN r)] [] [(0,15,_),(1,16,_),(2,17,_),(4,5,_)] [] [] [false]
 ·exact oc (g_ld 0 Tryz.underlying26 Z0)<|oc g_mv<|oc (g_cb V8 hP.out)<|oc (g_st 1 iN)<|oc g_as on
 intro u3 HB3 sz3 K3
 simp only[sQ] at K3⊢
 clear K2 HB2
 have c4:=(K3.cv 0).n4
 go_wp2
 refine bodyPost_ret (v:= .tuple #[NV r,.int .i64 0]) (by simp[results,Tryz.results47,go_sem,c4]) rfl ⟨rfl,HB3⟩
theorem com_k (p q g h s t a b r:Int) (w:World) (hM:Hid (∀u y,Bw w u->N2 g h u y->CC 61 #[GX p q g h,y] u (.nilIface)))(hP:Hid (∀u,Bw w u->CC 64 #[GX p q g h,NV g,NV s] u (NV a)))(hQ:Hid (∀u,Bw w u->CC 64 #[GX p q g h,NV h,NV t] u (NV b)))(hR:Hid (∀u y,Bw w u->N2 a b u y->CC 63 #[GX p q g h,y] u (NV r))):
 CC 36 #[GX p q g h,NV s,NV t] w (.tuple #[NV r,.int .i64 0]):=by
 go_enter Tryz.func36,Tryz.ntmps36
 go_upto_region 1 with fail
 obtain⟨v0,hC,HB0,K0⟩:=bx4 w (GE (p) (q) (g) (h)) 26 (LN s) 24 (LN t) 24 L0s 24
 rw[hC]
 clear hC
 apply Rf K0 HB0 [] [] [(0,9,_),(1,10,_),(2,11,_),(3,12,_),(4,13,_),(6,15,_),(7,8,_)] [] [] [⟨5,14,some 6,N2 g h⟩] []
 ·exact oc (g_ld 0 Tryz.underlying26 Z0)<|oc (g_fd (fdG2 _))<|oc (g_lo 0 8 uN iN)<|oc (g_fd (fdG3 _))<|oc (g_lo 0 12 uN iN)<|oc (g_bR 0 (N2 g h) [0,1] [NV g,NV h] (flN [g,h]) (bsN2 g h) (fun u hu=>inN2 g h u))<|oc (g_c2 0 (N2 g h) Yd (fun uZ yZ bZ hZ=>hM.out uZ yZ bZ hZ))<|oc g_as on
 intro u1 v1_5 hv1_5 HB1 sz1 K1
 simp only[sQ] at K1⊢
 clear K0 HB0
 go_upto_region 2 with fail
 apply Rn K1 HB1 [(0,16,_),(1,17,_)]
 ·exact oc g_mv<|oc (g_bn (neq_noG _ _)) on
 intro u2 HB2 sz2 K2
 simp only[sQ] at K2⊢
 clear K1 HB1
 go_upto_region 4 with fail
 apply Re K2 HB2 [.no,.no,.no,.all 13 (LN r)] [] [(0,21,_),(1,22,_),(2,23,_),(3,24,_),(4,25,_),(5,26,_),(6,27,_),(7,28,_),(8,29,_),(9,30,_),(10,31,_),(12,33,_),(14,7,_)] [] [] [⟨11,32,some 12,N2 a b⟩] [false,false,false]
 ·exact oc (g_ld 0 Tryz.underlying26 Z0)<|oc (g_ld 0 Tryz.underlying26 Z0)<|oc (g_fd (fdG2 _))<|oc (g_lo 0 8 uN iN)<|oc (g_ld 1 uN iN)<|oc (g_cb Wk hP.out)<|oc (g_ld 0 Tryz.underlying26 Z0)<|oc (g_fd (fdG3 _))<|oc (g_lo 0 12 uN iN)<|oc (g_ld 2 uN iN)<|oc (g_cb Wk hQ.out)<|oc (g_bR 0 (N2 a b) [0,1] [NV a,NV b] (flN [a,b]) (bsN2 a b) (fun u hu=>inN2 a b u))<|oc (g_c2 0 (N2 a b) V8 (fun uZ yZ bZ hZ=>hR.out uZ yZ bZ hZ))<|oc (g_st 3 iN)<|oc g_as on
 intro u3 v3_11 hv3_11 HB3 sz3 K3
 simp only[sQ] at K3⊢
 clear K2 HB2
 have c6:=(K3.cv 0).n4
 go_wp2
 refine bodyPost_ret (v:= .tuple #[NV r,.int .i64 0]) (by simp[results,Tryz.results36,go_sem,c6]) rfl ⟨rfl,HB3⟩
theorem ml_1 (p q x:Int):mlB p q [x]=isB p q x:=by
 unfold mlB isB
 rw[Bool.eq_iff_iff]
 simp[isB]
theorem ml_2 (p q x y:Int):mlB p q [x,y]=(isB p q x&&isB p q y):=by
 unfold mlB isB
 rw[Bool.eq_iff_iff]
 simp[isB]
 grind
theorem In_1s {x:Int} (hx:In x): ∀k,k<[x].length->In ([x].getD k 0):=fun k hk=>by
 simp at hk;subst hk;exact hx
theorem In_2s {x y:Int} (hx:In x) (hy:In y): ∀k,k<[x,y].length->In ([x,y].getD k 0):=fun k hk=>by
 simp at hk
 match k,hk with
 | 0,_=>exact hx
 | 1,_=>exact hy
theorem cExpG (p q g h x e:Int) (w:World) (hG:GT w) (hp:In p) (hq:In q) (hx:In x) (he:In e):CC 46 #[GX p q g h,NV x,NV e] w (.tuple #[NV (exPX p q x e),.int .i64 (exPE p q x)]):=by
 obtain⟨v,hv,hM⟩:=cMembers p q g h [x] (by simp) hp hq (In_1s hx)
 rw[ml_1] at hv
 unfold exPX exPE
 rcases hv with⟨h1,rfl⟩ | ⟨h1,h2⟩
 ·have h3:=(Wq h1).1.q3
  have h7:=(Wq h1).1.2
  rw[h1,if_pos rfl,if_pos rfl];exact exp_k p q g h x e _ w (fun u y hB hy=>hM y u (hG.below hB) hy) (fun u _=>cPower p q g h x e u hp hq hx he (by omega) (by omega))
 ·obtain⟨T,xv,rfl⟩:=h2.some
  rw[h1,if_neg (by decide),if_neg (by decide),NV_0];exact exp_n p q g h x e T xv w (fun u y hB hy=>hM y u (hG.below hB) hy) (fun u _=>gTold9 _ u h2)
theorem cMulG (p q g h:Int) (ns:List Int) (y:Value) (w:World) (hG:GT w) (hns:ns.length<=50) (hp:In p) (hq:In q) (hn: ∀k,k<ns.length->In (ns.getD k 0)) (hy:NL w y ns):CC 47 #[GX p q g h,y] w (.tuple #[NV (mlX p q ns),.int .i64 (mlE p q ns)]):=by
 obtain⟨v,hv,hM⟩:=cMembers p q g h ns hns hp hq hn
 have hyu:=fun u (hB:Bw w u)=>hy.up hB
 obtain⟨sl,gb,go,cap,rfl,_⟩:=hy
 unfold mlX mlE
 rcases hv with⟨h1,rfl⟩ | ⟨h1,h2⟩
 ·have hgk:gOk p q:=by
   unfold mlB at h1;rw[Bool.and_eq_true] at h1;exact of_decide_eq_true h1.1
  have h7:=hgk.2
  rw[h1,if_pos rfl,if_pos rfl];exact mulG_k p q g h _ sl _ cap w (fun u hB=>hM _ u (hG.below hB) (hyu u hB)) (fun u hB=>cProduct p q g h ns _ u hns hp (by omega) hn (hyu u hB))
 ·obtain⟨T,xv,rfl⟩:=h2.some
  rw[h1,if_neg (by decide),if_neg (by decide),NV_0];exact mulG_n p q g h sl _ cap T xv w (fun u hB=>hM _ u (hG.below hB) (hyu u hB)) (fun u _=>gTold9 _ u h2)
theorem cComG (p q g h s t:Int) (w:World) (hG:GT w) (hp:In p) (hq:In q) (hg:In g) (hh:In h) (hs:In s) (ht:In t):CC 36 #[GX p q g h,NV s,NV t] w (.tuple #[NV (coX p q g h s t),.int .i64 (coE p q g h)]):=by
 obtain⟨v,hv,hM⟩:=cMembers p q g h [g,h] (by simp) hp hq (In_2s hg hh)
 rw[ml_2] at hv
 unfold coX coE
 rcases hv with⟨h1,rfl⟩ | ⟨h1,h2⟩
 ·have hgk:gOk p q:=by rw[Bool.and_eq_true] at h1;exact(Wq h1.1).1
  have h3:=hgk.q3
  have h7:=hgk.2
  rw[h1,if_pos rfl,if_pos rfl]
  refine com_k p q g h s t _ _ _ w (fun u y hB hy=>hM y u (hG.below hB) hy) (fun u _=>cPower p q g h g s u hp hq hg hs (by omega) (by omega)) (fun u _=>cPower p q g h h t u hp hq hh ht (by omega) (by omega)) (fun u y hB hy=>?_)
  have:=cProduct p q g h _ y u (by simp) hp (by omega) (In_2s (Zq hp (by omega)) (Zq hp (by omega))) hy
  have e: ∀a b:Int,prN p [a,b]=a*b%p:=fun a b=>by
   show gat (fun a b=>(a*b)%p) (1%p) [a,b] 2=_
   rw[gat,gat,gat]
   simp only[List.getD_cons_zero,List.getD_cons_succ]
   rw[Vu (by omega),Int.one_mul,Int.mul_emod,Int.emod_emod,<-Int.mul_emod]
  rw[e] at this
  exact this
 ·obtain⟨T,xv,rfl⟩:=h2.some
  rw[h1,if_neg (by decide),if_neg (by decide),NV_0];exact com_n p q g h s t T xv w (fun u y hB hy=>hM y u (hG.below hB) hy) (fun u _=>gTold9 _ u h2)
end
end Go.Proofs.YtbbohmgjphpfeaaGreatDoor
